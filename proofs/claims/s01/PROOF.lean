import PyProof.Rows.All
import Wide.All
import OpenK.AllK
import Wide.FinOn
import PyProof.EqAt
import PyProof.EqKinds
import PyProof.TupleCall
import KE.BitLaws
import Mu41Spec
import PyMu41
import PyFlatLaws
import KE.KSortTupG
import KE.KSortKey
import KE.KLam
import PyProof.ListRange
import PyProof.WalkInts
import Open.SpecLaws
import KE.OsHead
import KE.OsGo
import PySem.Challenge.RW_dipvats_s01_answers
noncomputable section
set_option Elab.async false
set_option linter.all false
set_option maxRecDepth 100000
namespace L2
open PySem PySem.Spec PyProof.Rows
abbrev Key := Sum Int Str
def keyIs : Key → Value → Bool
  | .inl k, v => Value.isInt k v
  | .inr x, v => Value.isStrOf x v
def keyH (w : World) : Key → Int
  | .inl k => hashInt k
  | .inr x => hashStr w x
theorem keyIs_shape : ∀ {k : Key} {v : Value}, keyIs k v = true → (∃ i t, k = Sum.inl i ∧ v = Value.int i t) ∨ (∃ x t, k = Sum.inr x ∧ v = Value.str x t)
  | .inl i, v, h => by
    obtain ⟨t, e⟩ := Value.isInt_shape (k := i) (v := v) h
    exact .inl ⟨i, t, rfl, e⟩
  | .inr x, v, h => by
    obtain ⟨t, e⟩ := Value.isStrOf_shape (x := x) (v := v) h
    exact .inr ⟨x, t, rfl, e⟩
theorem key_ll (a b : Int) : decide ((Sum.inl a : Key) = Sum.inl b) = (a == b) := by
  by_cases e : a = b
  · subst e; simp
  · have h : ¬ (Sum.inl a : Key) = Sum.inl b := fun q => e (Sum.inl.inj q)
    rw [decide_eq_false h]
    exact (beq_eq_false_iff_ne.mpr e).symm
theorem key_rr (a b : Str) : decide ((Sum.inr a : Key) = Sum.inr b) = decide (a = b) := by
  by_cases e : a = b
  · subst e; simp
  · have h : ¬ (Sum.inr a : Key) = Sum.inr b := fun q => e (Sum.inr.inj q)
    rw [decide_eq_false h, decide_eq_false e]
theorem key_lr (a : Int) (b : Str) : decide ((Sum.inl a : Key) = Sum.inr b) = false := decide_eq_false (fun q => nomatch q)
theorem key_rl (a : Str) (b : Int) : decide ((Sum.inr a : Key) = Sum.inl b) = false := decide_eq_false (fun q => nomatch q)
def mixKind (prog : Program) (w : World) : PySem.KeyKind prog w Key where
  is := keyIs
  hash := keyH w
  inj := fun v a b ha hb => by
    rcases keyIs_shape ha with ⟨i, t, rfl, rfl⟩ | ⟨x, t, rfl, rfl⟩
    · rcases keyIs_shape hb with ⟨j, u, rfl, e⟩ | ⟨y, u, rfl, e⟩
      · injection e with e1 _; rw [e1]
      · exact nomatch e
    · rcases keyIs_shape hb with ⟨j, u, rfl, e⟩ | ⟨y, u, rfl, e⟩
      · exact nomatch e
      · injection e with e1 _; rw [e1]
  byValue := fun k v h => by
    rcases keyIs_shape h with ⟨i, t, rfl, rfl⟩ | ⟨x, t, rfl, rfl⟩ <;> rfl
  pyHash := fun hv h => by
    rcases keyIs_shape hv with ⟨i, t, rfl, rfl⟩ | ⟨x, t, rfl, rfl⟩
    · exact wpAny_pyHash_int h
    · exact wpAny_pyHash_str h
  eqBool := fun hu hv h => by
    rcases keyIs_shape hu with ⟨i, t, rfl, rfl⟩ | ⟨x, t, rfl, rfl⟩
    · rcases keyIs_shape hv with ⟨j, u, rfl, rfl⟩ | ⟨y, u, rfl, rfl⟩
      · rw [key_ll] at h; exact wpAny_eqBool_int h
      · rw [key_lr] at h; exact SeqAt.EqAt.int_str i t y u _ _ _ _ h
    · rcases keyIs_shape hv with ⟨j, u, rfl, rfl⟩ | ⟨y, u, rfl, rfl⟩
      · rw [key_rl] at h; exact SeqAt.EqAt.str_int x t j u _ _ _ _ h
      · rw [key_rr] at h; exact wpAny_eqBool_str h
  «strs» := fun k x t v h => by
    rcases keyIs_shape h with ⟨i, u, rfl, e⟩ | ⟨y, u, rfl, e⟩
    · exact nomatch e
    · injection e with e1 _
      subst e1
      cases v <;> rfl
end L2
namespace L2
open PySem PySem.Spec PyProof.Rows
inductive V where
  | non | bl (b : Bool) | int (i : Int) | str (x : Str) | byt (b : Array UInt8) | flt (b : UInt64) | ref (a : Addr) | ty (n : String)
  deriving DecidableEq
def RelV : V → Value → Prop
  | .non, u => u = Value.none
  | .bl b, u => u = Value.bool b
  | .int i, u => ∃ t, u = Value.int i t
  | .str x, u => ∃ t, u = Value.str x t
  | .byt b, u => ∃ t, u = Value.bytes b t
  | .flt b, u => ∃ t, u = Value.float b t
  | .ref a, u => u = Value.ref a
  | .ty n, u => u = Value.type n
abbrev Vals : List V → List Value → Prop := Paired RelV
theorem Vals.length {xs : List V} {us : List Value} (r : Vals xs us) : xs.length = us.length := Paired.length r
theorem Vals.get : ∀ {xs : List V} {us : List Value} {i : Nat} {x : V}, Vals xs us → xs[i]? = some x → ∃ u, us[i]? = some u ∧ RelV x u
  | _, _, _, _, .nil, e => by simp at e
  | _, _, 0, _, .cons r _, e => by simp at e; subst e; exact ⟨_, rfl, r⟩
  | _, _, i + 1, x, .cons _ t, e => by
    obtain ⟨u, h1, h2⟩ := Vals.get (i := i) (x := x) t (by simpa using e)
    exact ⟨u, by simpa using h1, h2⟩
theorem Vals.set {x : V} {u : Value} (r : RelV x u) : ∀ {xs : List V} {us : List Value} (i : Nat), Vals xs us → Vals (xs.set i x) (us.set i u)
  | _, _, _, .nil => .nil
  | _, _, 0, .cons _ t => .cons r t
  | _, _, i + 1, .cons q t => .cons q (Vals.set r i t)
theorem Vals.append : ∀ {xs ys : List V} {us ws : List Value}, Vals xs us → Vals ys ws → Vals (xs ++ ys) (us ++ ws)
  | _, _, _, _, .nil, s => s
  | _, _, _, _, .cons r t, s => .cons r (Vals.append t s)
theorem Vals.take : ∀ {xs : List V} {us : List Value} (n : Nat), Vals xs us → Vals (xs.take n) (us.take n)
  | _, _, 0, _ => .nil
  | _, _, _ + 1, .nil => .nil
  | _, _, n + 1, .cons r t => .cons r (Vals.take n t)
theorem Vals.drop : ∀ {xs : List V} {us : List Value} (n : Nat), Vals xs us → Vals (xs.drop n) (us.drop n)
  | _, _, 0, r => r
  | _, _, _ + 1, .nil => .nil
  | _, _, n + 1, .cons _ t => Vals.drop n t
def RelO : Option V → Option Value → Prop
  | some v, some u => RelV v u
  | none, none => True
  | _, _ => False
def KV {κ : Type} : List (κ × V) → List (κ × Value) → Prop := Paired fun (p : κ × V) (q : κ × Value) => p.1 = q.1 ∧ RelV p.2 q.2
def kV : Key → V
  | .inl i => .int i
  | .inr x => .str x
inductive HO where
    | lst (xs : List V)
    | tup (xs : List V)
    | dK (kvs : List (Key × V)) | dT (kvs : List (List Key × V))
    | set (S : Int → Bool) (n : Nat)
    | ins (C dx : Addr) (fs : List (Str × V))
    | own (x : Addr)
    | xd (fs : List (Str × V))
    | met (f x : Addr)
    | rng (lo hi : Int)
    | frz (o : Obj) (u : HO)
    | tbl (ps : Array Value)
    | ext (φ : Heap → Prop)
abbrev Hp := Addr → Option HO
def upd (H : Hp) (a : Addr) (o : HO) : Hp := fun b => if b = a then some o else H b
theorem upd_same {H : Hp} {a : Addr} {o : HO} : upd H a o a = some o := by unfold upd; rw [if_pos rfl]
theorem upd_ne {H : Hp} {a b : Addr} {o : HO} (h : b ≠ a) : upd H a o b = H b := by unfold upd; rw [if_neg h]
theorem upd_upd {H : Hp} {a : Addr} {o u : HO} : upd (upd H a o) a u = upd H a u := by
  funext b; unfold upd; split <;> rfl
theorem ne_of {H : Hp} {a b : Addr} {o u : HO} (h : H a = some o) (h' : H b = some u) (d : o ≠ u) : a ≠ b := by
  intro e; subst e; rw [h] at h'; exact d (Option.some.inj h')
theorem ne_of_none {H : Hp} {a b : Addr} {o : HO} (h : H a = some o) (h' : H b = none) : a ≠ b := by
  intro e; subst e; rw [h] at h'; cases h'
section
variable (P : Program) (w : World)
def ObjOk (H : Hp) (h : Heap) (a : Addr) : HO → Prop
  | .lst xs => xs.length ≤ sizeLine ∧ ∃ (its : List Value) (n : Nat), Vals xs its ∧ h.get? a = some { cls := .type "list", data := .seq its.toArray n }
  | .tup xs => xs.length ≤ sizeLine ∧ ∃ its : List Value, Vals xs its ∧ IsTup h a its.toArray
  | .dK kvs => kvs.length ≤ sizeLine ∧ (a == sysModules) = false ∧ ∃ vs, KV kvs vs ∧ h.DictOf (mixKind P w) a vs
  | .dT kvs => kvs.length ≤ sizeLine ∧ (a == sysModules) = false ∧ ∃ xs : List (List Key × Addr × Value),
      Paired (fun (p : List Key × V) (q : List Key × Addr × Value) => p.1 = q.1 ∧ H q.2.1 = some (.tup (p.1.map kV)) ∧ RelV p.2 q.2.2) kvs xs ∧
      ∃ o es ep, h.get? a = some o ∧ o.ExactDict ∧ o.data = .dict es ep ∧ es.toList = xs.map (entryOfKey (tupleKind (mixKind P w))) ∧ (xs.map (·.1)).Nodup
  | .set S n => h.SetOf (intKind P w) a S n
  | .ins C dx fs => H dx = some (.own a) ∧ fs.length ≤ 1000 ∧ dx ≠ a ∧ h.get? a = some (PySem.W.instObj C dx) ∧
      ∃ mA, h.Ns1 dx mA ∧ (∀ f, RelO (fs.lookup f) (mA f)) ∧ PySem.Within mA (fs.map (·.1))
  | .own _ => ∃ o, h.get? a = some o
  | .xd fs => ∃ mA, h.Ns1 a mA ∧ ∀ f, RelO (fs.lookup f) (mA f)
  | .rng lo hi => ∃ t u v, h.get? a = some { cls := .type "range", data := .fields #[.int lo t, .int hi u, .int 1 v] }
  | .frz o u => h.get? a = some o ∧ ObjOk H h a u
  | .tbl ps => h.get? a = some { cls := .none, data := .fields ps }
  | .met f x => h.get? a = some (PySem.W.methodObj (.ref f) (.ref x))
  | .ext φ => φ h ∧ (∃ o, h.get? a = some o) ∧ ∀ h1 h2 : Heap, φ h1 → (∀ o, h1.get? a = some o → h2.get? a = some o) → φ h2
def HOk (H : Hp) (h : Heap) : Prop := ∀ a o, H a = some o → ObjOk P w H h a o
end
section
variable {P : Program} {w : World} {H H' : Hp} {h h' : Heap} {a : Addr} {o : HO}
theorem ObjOk.lt (x : ObjOk P w H h a o) : a < h.objs.size := by
  cases o with
  | lst xs => obtain ⟨_, _, _, _, e⟩ := x; exact Heap.lt_size e
  | tup xs => obtain ⟨_, _, _, p⟩ := x; exact p.lt
  | dK kvs => obtain ⟨_, _, _, _, o, _, _, e, _⟩ := x; exact Heap.lt_size e
  | dT kvs => obtain ⟨_, _, _, _, o, _, _, e, _⟩ := x; exact Heap.lt_size e
  | set S n => obtain ⟨o, _, _, _, e, _⟩ := x; exact Heap.lt_size e
  | ins C dx fs => obtain ⟨_, _, _, e, _⟩ := x; exact Heap.lt_size e
  | own y => obtain ⟨_, e⟩ := x; exact Heap.lt_size e
  | xd fs => obtain ⟨_, ⟨_, _, _, e, _⟩, _⟩ := x; exact Heap.lt_size e
  | rng lo hi => obtain ⟨_, _, _, e⟩ := x; exact Heap.lt_size e
  | frz ob u => obtain ⟨e, _⟩ := x; exact Heap.lt_size e
  | tbl ps => exact Heap.lt_size (show h.get? a = some _ from x)
  | met f y => exact Heap.lt_size (show h.get? a = some _ from x)
  | ext φ => obtain ⟨_, ⟨_, e⟩, _⟩ := x; exact Heap.lt_size e
theorem Paired.mapP {α β : Type} {F G : α → β → Prop} : ∀ {l₁ : List α} {l₂ : List β}, Paired F l₁ l₂ → (∀ a b, F a b → G a b) → Paired G l₁ l₂
  | _, _, .nil, _ => .nil
  | _, _, .cons r t, f => .cons (f _ _ r) (Paired.mapP t f)
theorem ObjOk.stay (x : ObjOk P w H h a o) (k : ∀ b u, (b = a ∨ H b = some (.own a)) → h.get? b = some u → h'.get? b = some u)
    (ho : ∀ b, H b = some (.own a) → H' b = some (.own a)) (ht : ∀ b xs, H b = some (.tup xs) → H' b = some (.tup xs)) : ObjOk P w H' h' a o := by
  induction o with
  | lst xs => obtain ⟨z, its, n, r, e⟩ := x; exact ⟨z, its, n, r, k _ _ (.inl rfl) e⟩
  | tup xs => obtain ⟨z, its, r, ob, e, c⟩ := x; exact ⟨z, its, r, ob, k _ _ (.inl rfl) e, c⟩
  | dK kvs => obtain ⟨z, y, vs, r, ob, es, ep, e, c⟩ := x; exact ⟨z, y, vs, r, ob, es, ep, k _ _ (.inl rfl) e, c⟩
  | dT kvs =>
    obtain ⟨z, y, xs, r, ob, es, ep, e, c⟩ := x
    exact ⟨z, y, xs, Paired.mapP r fun p q z => ⟨z.1, ht _ _ z.2.1, z.2.2⟩, ob, es, ep, k _ _ (.inl rfl) e, c⟩
  | set S n => obtain ⟨ob, es, ep, t, e, c⟩ := x; exact ⟨ob, es, ep, t, k _ _ (.inl rfl) e, c⟩
  | ins C dx fs =>
    obtain ⟨d, z, ne, e, mA, ⟨od, es, ep, e2, c⟩, r⟩ := x
    exact ⟨ho _ d, z, ne, k _ _ (.inl rfl) e, mA, ⟨od, es, ep, k _ _ (.inr d) e2, c⟩, r⟩
  | own y => obtain ⟨ob, e⟩ := x; exact ⟨ob, k _ _ (.inl rfl) e⟩
  | xd fs => obtain ⟨mA, ⟨od, es, ep, e, c⟩, r⟩ := x; exact ⟨mA, ⟨od, es, ep, k _ _ (.inl rfl) e, c⟩, r⟩
  | rng lo hi => obtain ⟨t, u, v, e⟩ := x; exact ⟨t, u, v, k _ _ (.inl rfl) e⟩
  | frz ob u ih => obtain ⟨e, q⟩ := x; exact ⟨k _ _ (.inl rfl) e, ih q⟩
  | tbl ps =>
    have e : h.get? a = some { cls := .none, data := .fields ps } := x
    show h'.get? a = some { cls := .none, data := .fields ps }
    exact k a _ (.inl rfl) e
  | met f y =>
    have e : h.get? a = some (PySem.W.methodObj (.ref f) (.ref y)) := x
    show h'.get? a = some (PySem.W.methodObj (.ref f) (.ref y))
    exact k a _ (.inl rfl) e
  | ext φ => obtain ⟨p, ⟨o, e⟩, st⟩ := x; exact ⟨st _ _ p fun o q => k _ _ (.inl rfl) q, ⟨o, k _ _ (.inl rfl) e⟩, st⟩
theorem HOk.lt (x : HOk P w H h) (e : H a = some o) : a < h.objs.size := (x a o e).lt
theorem HOk.fresh (x : HOk P w H h) (e : h.objs.size ≤ a) : H a = none := by
  cases q : H a with
  | none => rfl
  | some u => exact absurd (Nat.lt_of_lt_of_le (x.lt q) e) (Nat.lt_irrefl _)
theorem HOk.kept (x : HOk P w H h) (k : ∀ b u, h.get? b = some u → h'.get? b = some u) : HOk P w H h' := fun a o e =>
  (x a o e).stay (fun b u _ q => k b u q) (fun _ q => q) fun _ _ q => q
theorem HOk.laid (x : HOk P w H h) (k : ∀ b u, h.get? b = some u → h'.get? b = some u) (hp : h.objs.size ≤ a) (new : ObjOk P w (upd H a o) h' a o) : HOk P w (upd H a o) h' := fun b u e => by
  have hn := x.fresh hp
  by_cases hb : b = a
  · subst hb; rw [upd_same] at e; cases e; exact new
  · rw [upd_ne hb] at e
    exact (x b u e).stay (fun c v _ q => k c v q) (fun c q => by rw [upd_ne (ne_of_none q hn)]; exact q) fun c xs q => by rw [upd_ne (ne_of_none q hn)]; exact q
end
def Rd (H : Hp) (a : Addr) (u : HO) : Prop := H a = some u ∨ ∃ o, H a = some (.frz o u)
theorem Rd.ok {P : Program} {w : World} {H : Hp} {h : Heap} {a : Addr} {u : HO} (r : Rd H a u) (x : HOk P w H h) : ObjOk P w H h a u := by
  rcases r with r | ⟨o, r⟩
  · exact x a u r
  · obtain ⟨_, q⟩ := x a _ r
    exact q
def Mut : Option HO → Prop
  | some (.lst _) => True
  | some (.dK _) => True
  | some (.dT _) => True
  | some (.set _ _) => True
  | some (.ins _ _ _) => True
  | some (.ext _) => True
  | _ => False
section
variable {P : Program} {w : World} {H : Hp} {h h' : Heap} {x e : Addr} {o' : HO}
theorem HOk.write (ok : HOk P w H h) (mu : Mut (H x)) (he : e = x ∨ H e = some (.own x)) (k : ∀ b u, b ≠ e → h.get? b = some u → h'.get? b = some u) (heo : ∃ u, h'.get? e = some u)
    (new : ObjOk P w (upd H x o') h' x o') : HOk P w (upd H x o') h' := fun b u q => by
  have nown : ∀ c y, H c = some (.own y) → c ≠ x := fun c y r z => by subst z; rw [r] at mu; exact mu
  have ntup : ∀ c xs, H c = some (.tup xs) → c ≠ x := fun c xs r z => by subst z; rw [r] at mu; exact mu
  by_cases hb : b = x
  · subst hb; rw [upd_same] at q; cases q; exact new
  · rw [upd_ne hb] at q
    by_cases hbe : b = e
    · have q' : H b = some (.own x) := by
        rcases he with z | z
        · exact absurd (hbe.trans z) hb
        · rw [hbe]; exact z
      rw [q] at q'; cases q'
      obtain ⟨v, hv⟩ := heo
      exact ⟨v, by rw [hbe]; exact hv⟩
    · refine (ok b u q).stay (fun c v hc r => k c v ?_ r) (fun c r => by rw [upd_ne (nown c b r)]; exact r) fun c xs r => by rw [upd_ne (ntup c xs r)]; exact r
      rcases hc with rfl | hc
      · exact hbe
      · rintro rfl
        rcases he with z | z
        · exact nown c b hc z
        · rw [hc] at z; cases z; exact hb rfl
end
structure Un (fs ex : List Addr) (H H' : Hp) (h h' : Heap) : Prop where
  keep : ∀ b o, h.get? b = some o → H b = none → b ∉ fs → b ∉ ex → h'.get? b = some o
  slot : ∀ b o, h.get? b = some o → H b = none → b ∈ fs → b ∉ ex → ∃ sl, h'.get? b = some { o with slots := sl }
  free : ∀ b o, h.get? b = some o → H b = none → b ∉ ex → H' b = none
  there : ∀ b o, h.get? b = some o → b ∉ ex → ∃ o', h'.get? b = some o'
  tups : ∀ b xs, H b = some (.tup xs) → H' b = some (.tup xs)
  frzs : ∀ b o u, H b = some (.frz o u) → H' b = some (.frz o u)
  tbls : ∀ b ps, H b = some (.tbl ps) → ∃ more, H' b = some (.tbl (ps ++ more))
section
variable {fs fs' ex ex' : List Addr} {H H1 H2 : Hp} {h h1 h2 h' : Heap} {a x e : Addr} {o : HO}
theorem Un.any (u : Un fs ex H H1 h h1) {b : Addr} {ob : Obj} (q : h.get? b = some ob) (n : H b = none) (hx : b ∉ ex) : ∃ sl, h1.get? b = some { ob with slots := sl } := by
  by_cases hb : b ∈ fs
  · exact u.slot b ob q n hb hx
  · exact ⟨ob.slots, u.keep b ob q n hb hx⟩
theorem Un.kept (k : ∀ b u, h.get? b = some u → h'.get? b = some u) : Un fs ex H H h h' :=
  ⟨fun b ob q _ _ _ => k b ob q, fun b ob q _ _ _ => ⟨ob.slots, k b ob q⟩, fun _ _ _ n _ => n, fun b ob q _ => ⟨ob, k b ob q⟩, fun _ _ q => q, fun _ _ _ q => q, fun _ ps q => ⟨#[], by rw [q]; simp⟩⟩
theorem Un.refl : Un fs ex H H h h := Un.kept fun _ _ q => q
theorem Un.laid (k : ∀ b u, h.get? b = some u → h'.get? b = some u) (hp : h.objs.size ≤ a) (hn : H a = none) : Un fs ex H (upd H a o) h h' where
  keep := fun b u q _ _ _ => k b u q
  slot := fun b u q _ _ _ => ⟨u.slots, k b u q⟩
  free := fun b u q n _ => by rw [upd_ne (Nat.ne_of_lt (Nat.lt_of_lt_of_le (Heap.lt_size q) hp))]; exact n
  there := fun b u q _ => ⟨u, k b u q⟩
  tups := fun b xs q => by rw [upd_ne (ne_of_none q hn)]; exact q
  frzs := fun b u xs q => by rw [upd_ne (ne_of_none q hn)]; exact q
  tbls := fun b ps q => ⟨#[], by rw [upd_ne (ne_of_none q hn), q]; simp⟩
theorem Un.write (mu : Mut (H x)) (he : e = x ∨ H e = some (.own x)) (k : ∀ b u, b ≠ e → h.get? b = some u → h'.get? b = some u) (heo : ∃ u, h'.get? e = some u) : Un fs ex H (upd H x o) h h' := by
  have hx : ∀ b, H b = none → b ≠ x := fun b n z => by subst z; rw [n] at mu; exact mu
  have hb : ∀ b, H b = none → b ≠ e := fun b n z => by
    subst z
    rcases he with r | r
    · exact hx b n r
    · rw [n] at r; cases r
  have hm : ∀ b u, H b = some u → ¬ Mut (some u) → b ≠ x := fun b u q nm z => by subst z; rw [q] at mu; exact nm mu
  refine ⟨fun b u q n _ _ => k b u (hb b n) q, fun b u q n _ _ => ⟨u.slots, k b u (hb b n) q⟩, fun b u q n _ => by rw [upd_ne (hx b n)]; exact n, fun b u q _ => ?_,
    fun b xs q => by rw [upd_ne (hm b _ q fun z => z)]; exact q, fun b u xs q => by rw [upd_ne (hm b _ q fun z => z)]; exact q, fun b ps q => ⟨#[], by rw [upd_ne (hm b _ q fun z => z), q]; simp⟩⟩
  by_cases hbe : b = e
  · subst hbe; exact heo
  · exact ⟨u, k b u hbe q⟩
end
def trk (h : Heap) (H : Hp) : List Addr := (List.range h.objs.size).filter fun a => (H a).isSome
def hidT (h : Heap) (H : Hp) : Heap := PySem.W.hideAll h (trk h H)
theorem hidT_size (h : Heap) (H : Hp) : (hidT h H).objs.size = h.objs.size := PySem.W.hideAll_size _ _
theorem hidT_get {h : Heap} {H : Hp} {b : Addr} {o : Obj} (e : h.get? b = some o) (n : H b = none) : (hidT h H).get? b = some o :=
  PySem.W.hideAll_get _ e fun hm => by
    have q : (H b).isSome = true := (List.mem_filter.mp hm).2
    rw [n] at q; simp at q
theorem of_hidT {h : Heap} {H : Hp} {b : Addr} {o : Obj} (e : (hidT h H).get? b = some o) : h.get? b = some o ∧ H b = none := by
  have e' : h.get? b = some o := PySem.W.of_hideAll (trk h H) e
  refine ⟨e', ?_⟩
  cases q : H b with
  | none => rfl
  | some x =>
    have hm : b ∈ trk h H := List.mem_filter.mpr ⟨List.mem_range.mpr (Heap.lt_size e'), by simp [q]⟩
    have z : (hidT h H).get? b = none := PySem.W.hideAll_none (trk h H) hm
    rw [z] at e; cases e
end L2
namespace L2
open PySem PySem.Spec PyProof.Rows
structure Mod (K : PySem.W.Frag) (mg : Str → Option Value) (base : Heap) : Prop where
  kin : K.In base
  glob : base.Ns mainGlobals mg
  blt : ∃ mb, base.Ns builtinsNs mb ∧ ∀ x : Str, x ≠ "__name__" → mb x = bootBuiltins x
  nolimit : base.NoLimit
structure Cx where
  prog : Program
  w : World
  K : PySem.W.Frag
  mg : Str → Option Value
  base : Heap
  A : Around
  N : List Str
  s_0 : Shared
  H_0 : Hp
  env : Env
  outer : List Env
  stack : List Env
  ex : List Addr
  fn : Str → Bool
  calm : Bool
  pn : List (Addr × Obj)
  xe : Value → Shared → Prop
def frs (l : List Env) : List Addr := l.filterMap (·.frame)
abbrev Cx.fs (X : Cx) : List Addr := frs X.outer
def Vis (sc : Scope) (x : Str) : Prop := sc.names.lookup x = some .local ∨ sc.names.lookup x = some .cell ∨ sc.names.lookup x = some .free
def Loc (sc : Scope) (x : Str) : Prop := sc.names.lookup x = some .local ∨ sc.names.lookup x = some .cell
def Look (env : Env) (h : Heap) (m : Str → Option Value) (x : Str) (u : Value) : Prop :=
  (env.kindOf x = some .local ∧ m x = some u) ∨ ((env.kindOf x = some .cell ∨ env.kindOf x = some .free) ∧ ∃ c, env.cells.lookup x = some c ∧ h.IsCell c (some u))
structure Cx.Ok (X : Cx) : Prop where
  mod : Mod X.K X.mg X.base
  kind : X.env.scope.kind = .function
  glob : X.env.globals = mainGlobals
  blt : X.env.builtins = builtinsNs
  above : X.s_0.heap.objs.size ≤ X.env.locals
  inj : ∀ x y c, X.env.cells.lookup x = some c → X.env.cells.lookup y = some c → x = y
  has : ∀ x, (X.env.kindOf x = some .cell ∨ X.env.kindOf x = some .free) → ∃ c, X.env.cells.lookup x = some c
  cab : ∀ x c, X.fn x = true → X.env.cells.lookup x = some c → X.s_0.heap.objs.size ≤ c
  hd : X.calm = true → X.A.handled = none
  frames : X.A.frames = some X.stack
  stk : X.stack = X.outer ∨ (X.stack = X.env :: X.outer ∧ X.env.frame = some X.env.locals)
  exf : ∀ b ∈ X.ex, b ≠ X.env.locals ∧ ∀ x c, X.env.cells.lookup x = some c → c ≠ b
  bs : ∀ b o, X.base.get? b = some o → X.s_0.heap.get? b = some o ∧ X.H_0 b = none
  bsz : X.base.objs.size ≤ X.s_0.heap.objs.size
  noex : ∀ b o, X.base.get? b = some o → b ∉ X.ex
  exfs : ∀ b ∈ X.ex, b ∉ X.fs
  funs : X.s_0.heap.FunFrames X.base X.outer
  frf : ∀ b ∈ X.fs, X.H_0 b = none
structure Inv (X : Cx) (pins : List (Addr × Obj)) (σ : List (Option V)) (H : Hp) (s : Shared) : Prop where
  ok : X.Ok
  os : s.os = X.s_0.os
  bare : AllBare s.gens
  base : Un X.fs X.ex X.H_0 H X.s_0.heap s.heap
  loc : ∃ m, s.heap.Ns X.env.locals m ∧ ∀ (i : Nat) (x : Str) (v : V), X.N[i]? = some x → σ[i]? = some (some v) → Vis X.env.scope x → ∃ u, RelV v u ∧ Look X.env s.heap m x u
  cell : ∀ x c, X.env.cells.lookup x = some c → ∃ v, s.heap.IsCell c v
  free : H X.env.locals = none
  freeC : ∀ x c, X.env.cells.lookup x = some c → H c = none
  pin : ∀ p ∈ X.pn ++ pins, s.heap.get? p.1 = some p.2 ∧ H p.1 = none ∧ p.1 ≠ X.env.locals ∧ p.1 ∉ X.fs ∧ ∀ v, p.2.data ≠ .cell v
  hok : HOk X.prog X.w H s.heap
  len : σ.length = X.N.length
section
variable {X : Cx} {pins : List (Addr × Obj)} {σ : List (Option V)} {H H' : Hp} {s : Shared} {h' : Heap}
theorem Cx.Ok.nofr (ok : X.Ok) {b : Addr} {o : Obj} (e : X.base.get? b = some o) : b ∉ X.fs := fun hb => by
  have := (ok.funs.mem hb).1
  rw [e] at this; cases this
theorem Inv.bs (I : Inv X pins σ H s) : ∀ b o, X.base.get? b = some o → s.heap.get? b = some o ∧ H b = none := fun b o e =>
  ⟨I.base.keep b o (I.ok.bs b o e).1 (I.ok.bs b o e).2 (I.ok.nofr e) (I.ok.noex b o e), I.base.free b o (I.ok.bs b o e).1 (I.ok.bs b o e).2 (I.ok.noex b o e)⟩
theorem Inv.bk (I : Inv X pins σ H s) : ∀ b o, X.base.get? b = some o → s.heap.get? b = some o := fun b o e => (I.bs b o e).1
theorem Inv.mod (I : Inv X pins σ H s) : Mod X.K X.mg X.base := I.ok.mod
theorem Inv.kIn (I : Inv X pins σ H s) : X.K.In s.heap := I.ok.mod.kin.keeps I.bk
theorem Inv.fr (I : Inv X pins σ H s) : ∃ m, Fr X.base X.env.locals s.heap m :=
  let ⟨m, hn, _⟩ := I.loc
  ⟨m, hn, I.bk, Nat.le_trans I.ok.bsz I.ok.above⟩
theorem Inv.lt (I : Inv X pins σ H s) : X.env.locals < s.heap.objs.size := let ⟨_, hn, _⟩ := I.loc; hn.lt
theorem Inv.sz (I : Inv X pins σ H s) : X.s_0.heap.objs.size ≤ s.heap.objs.size := Nat.le_trans I.ok.above (Nat.le_of_lt I.lt)
theorem Inv.nofs (I : Inv X pins σ H s) {a : Addr} (h : s.heap.objs.size ≤ a) : a ∉ X.fs := fun hb => by
  obtain ⟨_, o, ho, _⟩ := I.ok.funs.mem hb
  exact absurd (Nat.lt_of_lt_of_le (Heap.lt_size ho) (Nat.le_trans I.sz h)) (Nat.lt_irrefl _)
theorem Inv.cne (I : Inv X pins σ H s) : ∀ x c, X.env.cells.lookup x = some c → c ≠ X.env.locals := fun x c e z => by
  obtain ⟨v, o, ho, hd⟩ := I.cell x c e
  obtain ⟨m, ⟨o', es, ep, ho', hd', _⟩, _⟩ := I.loc
  rw [z, ho'] at ho; cases ho; rw [hd'] at hd; cases hd
theorem Inv.funs (I : Inv X pins σ H s) : s.heap.FunFrames X.base X.outer := by
  have all : ∀ (l : List Env), (∀ b ∈ frs l, b ∈ X.fs) → X.s_0.heap.FunFrames X.base l → s.heap.FunFrames X.base l := by
    intro l
    induction l with
    | nil => intro _ _; trivial
    | cons env r ih =>
      intro hs hl
      obtain ⟨hk, ⟨L, o, hf, hn, ho, hd⟩, hr⟩ := hl
      have hL : L ∈ X.fs := hs L (by unfold frs; rw [List.filterMap_cons, hf]; exact List.mem_cons_self)
      obtain ⟨sl, e⟩ := I.base.slot L o ho (I.ok.frf L hL) hL fun z => I.ok.exfs L z hL
      exact ⟨hk, ⟨L, _, hf, hn, e, hd⟩, ih (fun b hb => hs b (by unfold frs; rw [List.filterMap_cons, hf]; exact List.mem_cons_of_mem _ hb)) hr⟩
  exact all X.outer (fun _ hb => hb) I.ok.funs
theorem Inv.stack (I : Inv X pins σ H s) : s.heap.FunFrames X.base X.stack := by
  rcases I.ok.stk with e | ⟨e, hf⟩
  · rw [e]; exact I.funs
  · rw [e]
    obtain ⟨m, hn, _⟩ := I.loc
    refine .cons (by rw [I.ok.kind]; decide) hf hn ?_ I.funs
    exact Heap.get?_none_of_le (Nat.le_trans I.ok.bsz I.ok.above)
theorem Inv.stkSub (I : Inv X pins σ H s) : ∀ b ∈ frs X.stack, b ∈ X.env.locals :: X.fs := fun b hb => by
  rcases I.ok.stk with e | ⟨e, hf⟩
  · rw [e] at hb; exact List.mem_cons_of_mem _ hb
  · rw [e] at hb
    unfold frs at hb
    rw [List.filterMap_cons, hf] at hb
    exact hb
theorem Inv.stkFree (I : Inv X pins σ H s) : ∀ b ∈ frs X.stack, H b = none := fun b hb => by
  rcases List.mem_cons.mp (I.stkSub b hb) with e | hb
  · rw [e]; exact I.free
  · obtain ⟨_, o, ho, _⟩ := I.ok.funs.mem hb
    exact I.base.free b o ho (I.ok.frf b hb) fun z => I.ok.exfs b z hb
theorem Inv.step {g' : Array GenState} {t' : Nat} {d' : Drawn} {ch : List Addr} (I : Inv X pins σ H s)
    (hch : ∀ b ∈ ch, (b ∈ X.ex ∨ X.s_0.heap.objs.size ≤ b) ∧ b ≠ X.env.locals ∧ (∀ x c, X.env.cells.lookup x = some c → c ≠ b) ∧ ∀ p ∈ X.pn ++ pins, p.1 ≠ b)
    (keep : ∀ b o, b ≠ X.env.locals → b ∉ X.fs → b ∉ ch → s.heap.get? b = some o → H b = none → h'.get? b = some o)
    (slot : ∀ b o, b ≠ X.env.locals → b ∈ X.fs → b ∉ ch → s.heap.get? b = some o → H b = none → ∃ sl, h'.get? b = some { o with slots := sl }) (free : ∀ b o, b ∉ ch → s.heap.get? b = some o → H b = none → H' b = none)
    (there : ∀ b o, b ∉ ch → s.heap.get? b = some o → ∃ o', h'.get? b = some o')
    (tups : ∀ b xs, H b = some (.tup xs) → H' b = some (.tup xs)) (frzs : ∀ b o u, H b = some (.frz o u) → H' b = some (.frz o u)) (tbls : ∀ b ps, H b = some (.tbl ps) → ∃ more, H' b = some (.tbl (ps ++ more)))
    (ns : ∀ m, s.heap.Ns X.env.locals m → h'.Ns X.env.locals m) (hok : HOk X.prog X.w H' h') (hg : AllBare g') :
    Inv X pins σ H' { s with heap := h', gens := g', drawn := d', toks := t' } := by
  have neL : ∀ b o, X.s_0.heap.get? b = some o → b ≠ X.env.locals := fun b o e => Nat.ne_of_lt (Nat.lt_of_lt_of_le (Heap.lt_size e) I.ok.above)
  have neC : ∀ b o, X.s_0.heap.get? b = some o → b ∉ X.ex → b ∉ ch := fun b o e hx hb => by
    rcases (hch b hb).1 with z | z
    · exact hx z
    · exact absurd (Nat.lt_of_lt_of_le (Heap.lt_size e) z) (Nat.lt_irrefl _)
  have cellK : ∀ x c, X.env.cells.lookup x = some c → ∀ v, s.heap.IsCell c v → h'.IsCell c v := fun x c e v ⟨o, ho, hd⟩ => by
    have nch : c ∉ ch := fun z => (hch c z).2.2.1 x c e rfl
    by_cases hc : c ∈ X.fs
    · obtain ⟨sl, q⟩ := slot c o (I.cne x c e) hc nch ho (I.freeC x c e)
      exact ⟨_, q, hd⟩
    · exact ⟨o, keep c o (I.cne x c e) hc nch ho (I.freeC x c e), hd⟩
  refine ⟨I.ok, I.os, hg, ⟨fun b o e n hb hx => ?_, fun b o e n hb hx => ?_, fun b o e n hx => ?_, fun b o e hx => ?_, fun b xs e => tups b xs (I.base.tups b xs e), fun b o xs e => frzs b o xs (I.base.frzs b o xs e), fun b ps e => ?_⟩, ?_, fun x c e => ?_, ?_, fun x c e => ?_, fun p hp => ?_, hok, I.len⟩
  · exact keep b o (neL b o e) hb (neC b o e hx) (I.base.keep b o e n hb hx) (I.base.free b o e n hx)
  · obtain ⟨sl, e1⟩ := I.base.slot b o e n hb hx
    obtain ⟨sl', e2⟩ := slot b _ (neL b o e) hb (neC b o e hx) e1 (I.base.free b o e n hx)
    exact ⟨sl', e2⟩
  · obtain ⟨o', e1⟩ := I.base.there b o e hx
    exact free b o' (neC b o e hx) e1 (I.base.free b o e n hx)
  · obtain ⟨o', e1⟩ := I.base.there b o e hx
    exact there b o' (neC b o e hx) e1
  · obtain ⟨m1, e1⟩ := I.base.tbls b ps e
    obtain ⟨m2, e2⟩ := tbls b _ e1
    exact ⟨m1 ++ m2, by rw [e2, Array.append_assoc]⟩
  · obtain ⟨m, hn, hl⟩ := I.loc
    refine ⟨m, ns m hn, fun i x v e1 e2 e3 => ?_⟩
    obtain ⟨u, r, l⟩ := hl i x v e1 e2 e3
    refine ⟨u, r, ?_⟩
    rcases l with l | ⟨k, c, e, z⟩
    · exact .inl l
    · exact .inr ⟨k, c, e, cellK x c e _ z⟩
  · obtain ⟨v, z⟩ := I.cell x c e
    exact ⟨v, cellK x c e v z⟩
  · obtain ⟨m, ⟨o, _, _, ho, _⟩, _⟩ := I.loc
    exact free _ o (fun z => (hch _ z).2.1 rfl) ho I.free
  · obtain ⟨v, o, ho, hd⟩ := I.cell x c e
    exact free c o (fun z => (hch c z).2.2.1 x c e rfl) ho (I.freeC x c e)
  · obtain ⟨e, n, ne, nf, d⟩ := I.pin p hp
    have nch : p.1 ∉ ch := fun z => (hch p.1 z).2.2.2 p hp rfl
    exact ⟨keep p.1 p.2 ne nf nch e n, free p.1 p.2 nch e n, ne, nf, d⟩
theorem Inv.un {t' : Nat} (I : Inv X pins σ H s) (u : Un X.fs [] H H' s.heap h') (hok : HOk X.prog X.w H' h') : Inv X pins σ H' { s with heap := h', toks := t' } := by
  obtain ⟨m, ⟨o, es, ep, ho, r⟩, _⟩ := id I.loc
  obtain ⟨sl, hL⟩ := u.any ho I.free (by simp)
  exact I.step (g' := s.gens) (d' := s.drawn) (ch := []) (fun _ z => nomatch z) (fun b o _ hb _ e n => u.keep b o e n hb (by simp)) (fun b o _ hb _ e n => u.slot b o e n hb (by simp)) (fun b o _ e n => u.free b o e n (by simp)) (fun b o _ e => u.there b o e (by simp)) u.tups u.frzs u.tbls (fun m' hm => by
    obtain ⟨o', es', ep', ho', r'⟩ := hm
    rw [ho] at ho'; cases ho'
    exact ⟨_, es', ep', hL, r'⟩) hok I.bare
theorem Inv.call {g' : Array GenState} {t' : Nat} {d' : Drawn} {ch : List Addr} (I : Inv X pins σ H s) (u : Un (frs X.stack) ch H H' s.heap h') (hok : HOk X.prog X.w H' h') (hg : AllBare g')
    (hch : ∀ b ∈ ch, (b ∈ X.ex ∨ X.s_0.heap.objs.size ≤ b) ∧ b ≠ X.env.locals ∧ (∀ x c, X.env.cells.lookup x = some c → c ≠ b) ∧ ∀ p ∈ X.pn ++ pins, p.1 ≠ b) :
    Inv X pins σ H' { s with heap := h', gens := g', drawn := d', toks := t' } := by
  obtain ⟨m, ⟨o, es, ep, ho, r⟩, _⟩ := id I.loc
  obtain ⟨sl, hL⟩ := u.any ho I.free fun z => (hch _ z).2.1 rfl
  exact I.step (ch := ch) hch (fun b o hL hb hc e n => u.keep b o e n (fun z => (List.mem_cons.mp (I.stkSub b z)).elim hL hb) hc) (fun b o _ _ hc e n => u.any e n hc) (fun b o hc e n => u.free b o e n hc) (fun b o hc e => u.there b o e hc) u.tups u.frzs u.tbls (fun m' hm => by
    obtain ⟨o', es', ep', ho', r'⟩ := hm
    rw [ho] at ho'; cases ho'
    exact ⟨_, es', ep', hL, r'⟩) hok hg
theorem Inv.turned {t' : Nat} {it : Addr} (I : Inv X pins σ H s) (k : ∀ b o, b ≠ it → s.heap.get? b = some o → h'.get? b = some o) (hn : H it = none) (hL : it ≠ X.env.locals)
    (h1 : it ∈ X.ex ∨ X.s_0.heap.objs.size ≤ it) (h2 : ∀ x c, X.env.cells.lookup x = some c → c ≠ it) (h3 : ∀ p ∈ X.pn ++ pins, p.1 ≠ it) : Inv X pins σ H { s with heap := h', toks := t' } := by
  have nit : ∀ b u, H b = some u → b ≠ it := fun b u e z => by rw [z, hn] at e; cases e
  refine I.step (g' := s.gens) (d' := s.drawn) (ch := [it]) (fun b hb => ?_) (fun b o _ _ hc e _ => k b o (fun z => hc (by simp [z])) e) (fun b o _ _ hc e _ => ⟨o.slots, k b o (fun z => hc (by simp [z])) e⟩) (fun _ _ _ _ n => n)
    (fun b o hc e => ⟨o, k b o (fun z => hc (by simp [z])) e⟩) (fun _ _ e => e) (fun _ _ _ e => e) (fun b ps e => ⟨#[], by rw [e]; simp⟩) (fun m hm => ?_) (fun b u e => ?_) I.bare
  · have e : b = it := by simpa using hb
    subst e
    exact ⟨h1, hL, h2, h3⟩
  · obtain ⟨o, es, ep, ho, r⟩ := hm
    exact ⟨o, es, ep, k _ o (Ne.symm hL) ho, r⟩
  · refine (I.hok b u e).stay (fun c v hc q => k c v ?_ q) (fun _ q => q) fun _ _ q => q
    rcases hc with z | z
    · rw [z]; exact nit b u e
    · exact nit c _ z
theorem Inv.tok (I : Inv X pins σ H s) (t : Nat) : Inv X pins σ H { s with toks := t } := I.un (h' := s.heap) (t' := t) Un.refl I.hok
theorem Inv.kept {t' : Nat} (I : Inv X pins σ H s) (k : ∀ b u, s.heap.get? b = some u → h'.get? b = some u) : Inv X pins σ H { s with heap := h', toks := t' } := I.un (Un.kept k) (I.hok.kept k)
theorem Inv.laid {a : Addr} {o : HO} {t' : Nat} (I : Inv X pins σ H s) (k : ∀ b u, s.heap.get? b = some u → h'.get? b = some u) (hp : s.heap.objs.size ≤ a) (new : ObjOk X.prog X.w (upd H a o) h' a o) :
    Inv X pins σ (upd H a o) { s with heap := h', toks := t' } := I.un (Un.laid k hp (I.hok.fresh hp)) (I.hok.laid k hp new)
theorem Inv.write {x e : Addr} {o : HO} {t' : Nat} (I : Inv X pins σ H s) (mu : Mut (H x)) (he : e = x ∨ H e = some (.own x)) (k : ∀ b u, b ≠ e → s.heap.get? b = some u → h'.get? b = some u) (heo : ∃ u, h'.get? e = some u)
    (new : ObjOk X.prog X.w (upd H x o) h' x o) : Inv X pins σ (upd H x o) { s with heap := h', toks := t' } := I.un (Un.write mu he k heo) (I.hok.write mu he k heo new)
theorem Inv.weak {σ' : List (Option V)} (I : Inv X pins σ H s) (hl : σ'.length = σ.length) (w : ∀ (i : Nat) v, σ'[i]? = some (some v) → σ[i]? = some (some v)) : Inv X pins σ' H s :=
  ⟨I.ok, I.os, I.bare, I.base, let ⟨m, hn, hl'⟩ := I.loc; ⟨m, hn, fun i x v e1 e2 e3 => hl' i x v e1 (w i v e2) e3⟩, I.cell, I.free, I.freeC, I.pin, I.hok, hl.trans I.len⟩
theorem Inv.pins_of {pins' : List (Addr × Obj)} (I : Inv X pins σ H s) (h : ∀ p ∈ pins', s.heap.get? p.1 = some p.2 ∧ H p.1 = none ∧ p.1 ≠ X.env.locals ∧ p.1 ∉ X.fs ∧ ∀ v, p.2.data ≠ .cell v) : Inv X pins' σ H s :=
  ⟨I.ok, I.os, I.bare, I.base, I.loc, I.cell, I.free, I.freeC, fun p hp => (List.mem_append.mp hp).elim (fun z => I.pin p (List.mem_append_left _ z)) (h p), I.hok, I.len⟩
theorem nodup_ix {N : List Str} (hN : N.Nodup) {i j : Nat} {x : Str} (a : N[i]? = some x) (b : N[j]? = some x) : i = j := by
  obtain ⟨h1, e1⟩ := List.getElem?_eq_some_iff.mp a
  obtain ⟨h2, e2⟩ := List.getElem?_eq_some_iff.mp b
  exact (List.getElem_inj hN).mp (e1.trans e2.symm)
theorem store_ok2 {M : Model} {A : Around} {E : Value → Shared → Prop} {i : Nat} {x : Str} {v : V} {u : Value} {Q : Unit → Shared → Prop} (I : Inv X pins σ H s) (hN : X.N.Nodup) (hi : X.N[i]? = some x) (hx : Loc X.env.scope x) (r : RelV v u)
    (h : ∀ s', Inv X pins (σ.set i (some v)) H s' → (∃ a, Heap.SameBut a s.heap s'.heap ∧ (a = X.env.locals ∨ X.env.cells.lookup x = some a)) → Q () s') (hf : X.fn x = true ∨ X.env.scope.names.lookup x = some .local := by first | exact .inl rfl | exact .inr rfl | assumption) : wpAny M A (storeName X.env x u) Q E s := by
  obtain ⟨m, hn, hl⟩ := id I.loc
  have hcls : (X.env.scope.kind == .class || (X.env.scope.kind == .module && X.env.locals != X.env.globals)) = false := by rw [I.ok.kind]; rfl
  have hiσ : i < σ.length := by rw [I.len]; exact (List.getElem?_eq_some_iff.mp hi).1
  have cne := I.cne
  have tracked : ∀ {a : Addr} {h' : Heap}, (∃ o, s.heap.get? a = some o ∧ H a = none) → Heap.SameBut a s.heap h' → HOk X.prog X.w H h' := fun {a h'} ha hs b ob e => by
    obtain ⟨_, _, hfree⟩ := ha
    refine (I.hok b ob e).stay (fun c w' hc q => (hs.2 c ?_).trans q) (fun _ q => q) fun _ _ q => q
    rintro rfl
    rcases hc with rfl | hc
    · rw [hfree] at e; cases e
    · rw [hfree] at hc; cases hc
  rcases hx with hk | hk
  · refine wpAny_storeName_local hk hn (fun h' hn' hs => ?_) hcls
    obtain ⟨oL, _, _, hoL, _⟩ := id hn
    refine h _ ⟨I.ok, I.os, I.bare, ⟨fun b o e n hb hx => ?_, fun b o e n hb hx => ?_, I.base.free, fun b o e hx => ?_, I.base.tups, I.base.frzs, I.base.tbls⟩, ⟨_, hn', fun j y v' e1 e2 e3 => ?_⟩, fun y c e => ?_, I.free, I.freeC, fun p hp => ?_, tracked ⟨oL, hoL, I.free⟩ hs, by simpa using I.len⟩ ⟨_, hs, .inl rfl⟩
    · exact (hs.2 b (Nat.ne_of_lt (Nat.lt_of_lt_of_le (Heap.lt_size e) I.ok.above))).trans (I.base.keep b o e n hb hx)
    · obtain ⟨sl, e1⟩ := I.base.slot b o e n hb hx
      exact ⟨sl, (hs.2 b (Nat.ne_of_lt (Nat.lt_of_lt_of_le (Heap.lt_size e) I.ok.above))).trans e1⟩
    · obtain ⟨o', e1⟩ := I.base.there b o e hx
      exact ⟨o', (hs.2 b (Nat.ne_of_lt (Nat.lt_of_lt_of_le (Heap.lt_size e) I.ok.above))).trans e1⟩
    · by_cases hj : j = i
      · subst hj
        rw [hi] at e1; cases e1
        rw [List.getElem?_set_self hiσ] at e2
        cases e2
        exact ⟨u, r, .inl ⟨hk, by simp⟩⟩
      · rw [List.getElem?_set_ne (Ne.symm hj)] at e2
        obtain ⟨u', r', q⟩ := hl j y v' e1 e2 e3
        refine ⟨u', r', ?_⟩
        rcases q with ⟨k, e⟩ | ⟨k, c, e, z⟩
        · refine .inl ⟨k, ?_⟩
          have : y ≠ x := fun e => hj (nodup_ix hN e1 (e ▸ hi))
          simp [this, e]
        · exact .inr ⟨k, c, e, z.sameBut hs (cne y c e)⟩
    · obtain ⟨w', z⟩ := I.cell y c e
      exact ⟨w', z.sameBut hs (cne y c e)⟩
    · obtain ⟨e, n, ne, nf, d⟩ := I.pin p hp
      exact ⟨(hs.2 p.1 ne).trans e, n, ne, nf, d⟩
  · have hfn : X.fn x = true := by
      rcases hf with z | z
      · exact z
      · rw [z] at hk; cases hk
    obtain ⟨c, hc⟩ := I.ok.has x (.inl hk)
    obtain ⟨w', z⟩ := I.cell x c hc
    refine wpAny_storeName_cell I.ok.kind hk hc z (fun h' hc' hs => ?_)
    obtain ⟨oc, hoc, hocd⟩ := id z
    refine h { s with heap := h' } ⟨I.ok, I.os, I.bare, ⟨fun b o e n hb hx => ?_, fun b o e n hb hx => ?_, I.base.free, fun b o e hx => ?_, I.base.tups, I.base.frzs, I.base.tbls⟩, ⟨m, hn.sameBut hs (Ne.symm (cne x c hc)), fun j y v' e1 e2 e3 => ?_⟩, fun y c' e => ?_, I.free, I.freeC, fun p hp => ?_, tracked ⟨oc, hoc, I.freeC x c hc⟩ hs, by simpa using I.len⟩ ⟨c, hs, .inr hc⟩
    · exact (hs.2 b (Nat.ne_of_lt (Nat.lt_of_lt_of_le (Heap.lt_size e) (I.ok.cab x c hfn hc)))).trans (I.base.keep b o e n hb hx)
    · obtain ⟨sl, e1⟩ := I.base.slot b o e n hb hx
      exact ⟨sl, (hs.2 b (Nat.ne_of_lt (Nat.lt_of_lt_of_le (Heap.lt_size e) (I.ok.cab x c hfn hc)))).trans e1⟩
    · obtain ⟨o', e1⟩ := I.base.there b o e hx
      exact ⟨o', (hs.2 b (Nat.ne_of_lt (Nat.lt_of_lt_of_le (Heap.lt_size e) (I.ok.cab x c hfn hc)))).trans e1⟩
    · by_cases hj : j = i
      · subst hj
        rw [hi] at e1; cases e1
        rw [List.getElem?_set_self hiσ] at e2
        cases e2
        exact ⟨u, r, .inr ⟨.inl hk, c, hc, hc'⟩⟩
      · rw [List.getElem?_set_ne (Ne.symm hj)] at e2
        obtain ⟨u', r', q⟩ := hl j y v' e1 e2 e3
        refine ⟨u', r', ?_⟩
        rcases q with q | ⟨k, c', e, z'⟩
        · exact .inl q
        · refine .inr ⟨k, c', e, z'.sameBut hs ?_⟩
          rintro rfl
          exact hj (nodup_ix hN e1 (I.ok.inj _ _ _ e hc ▸ hi))
    · by_cases hcc : c' = c
      · subst hcc; exact ⟨_, hc'⟩
      · obtain ⟨w2, z2⟩ := I.cell y c' e
        exact ⟨w2, z2.sameBut hs hcc⟩
    · obtain ⟨e, n, ne, nf, d⟩ := I.pin p hp
      refine ⟨(hs.2 p.1 ?_).trans e, n, ne, nf, d⟩
      intro q
      rw [q, hoc] at e
      have q' : oc = p.2 := Option.some.inj e
      exact d w' (by rw [← q']; exact hocd)
theorem store_ok {M : Model} {A : Around} {E : Value → Shared → Prop} {i : Nat} {x : Str} {v : V} {u : Value} {Q : Unit → Shared → Prop} (I : Inv X pins σ H s) (hN : X.N.Nodup) (hi : X.N[i]? = some x) (hx : Loc X.env.scope x) (r : RelV v u)
    (h : ∀ s', Inv X pins (σ.set i (some v)) H s' → Q () s') (hf : X.fn x = true ∨ X.env.scope.names.lookup x = some .local := by first | exact .inl rfl | exact .inr rfl | assumption) : wpAny M A (storeName X.env x u) Q E s :=
  store_ok2 I hN hi hx r (fun s' I' _ => h s' I') hf
theorem Inv.call' {s' : Shared} {ch : List Addr} (I : Inv X pins σ H s) (ho : s'.os = s.os) (u : Un (frs X.stack) ch H H' s.heap s'.heap) (hok : HOk X.prog X.w H' s'.heap) (hg : AllBare s'.gens)
    (hch : ∀ b ∈ ch, (b ∈ X.ex ∨ X.s_0.heap.objs.size ≤ b) ∧ b ≠ X.env.locals ∧ (∀ x c, X.env.cells.lookup x = some c → c ≠ b) ∧ ∀ p ∈ X.pn ++ pins, p.1 ≠ b) : Inv X pins σ H' s' := by
  obtain ⟨h', g', d', t', o'⟩ := s'
  have e : o' = s.os := ho
  subst e
  exact I.call (g' := g') (t' := t') (d' := d') u hok hg hch
end
abbrev XK := Value → Option Addr → Hp → Prop
abbrev St := List (Option V)
abbrev VK := V → Hp → Prop
abbrev TE := St → Hp → VK → Prop
abbrev TT := St → Hp → (Bool → Hp → Prop) → Prop
abbrev TA := St → Hp → (List V → Hp → Prop) → Prop
structure Ends where
  nx : St → Hp → Prop
  rt : VK
  bk : St → Hp → Prop := fun _ _ => False
  ct : St → Hp → Prop := fun _ _ => False
abbrev TS := Ends → St → Hp → Prop
def EP (X : Cx) (pins : List (Addr × Obj)) (σ : St) (Q : VK) (u : Value) (s' : Shared) : Prop := ∃ v H', Inv X pins σ H' s' ∧ RelV v u ∧ Q v H'
def TP (X : Cx) (pins : List (Addr × Obj)) (σ : St) (Q : Bool → Hp → Prop) (b : Bool) (s' : Shared) : Prop := ∃ H', Inv X pins σ H' s' ∧ Q b H'
def AP (X : Cx) (pins : List (Addr × Obj)) (σ : St) (Q : List V → Hp → Prop) (us : List Value) (s' : Shared) : Prop := ∃ vs H', Inv X pins σ H' s' ∧ Vals vs us ∧ Q vs H'
def SP (X : Cx) (pins : List (Addr × Obj)) (D : Ends) (f : Flow) (s' : Shared) : Prop :=
  match f with
  | .next => ∃ σ' H', Inv X pins σ' H' s' ∧ D.nx σ' H'
  | .brk => ∃ σ' H', Inv X pins σ' H' s' ∧ D.bk σ' H'
  | .cont => ∃ σ' H', Inv X pins σ' H' s' ∧ D.ct σ' H'
  | .ret u => ∃ v σ' H', Inv X pins σ' H' s' ∧ RelV v u ∧ D.rt v H'
def PE (X : Cx) (e : Expr) (t : TE) : Prop :=
  ∀ (pins : List (Addr × Obj)) (s : Shared) (σ : St) (H : Hp) (Q : VK), Inv X pins σ H s → t σ H Q → wpAny (model X.prog X.w) X.A (eval e X.env) (EP X pins σ Q) X.xe s
def PT (X : Cx) (e : Expr) (t : TT) : Prop :=
  ∀ (pins : List (Addr × Obj)) (s : Shared) (σ : St) (H : Hp) (Q : Bool → Hp → Prop), Inv X pins σ H s → t σ H Q → wpAny (model X.prog X.w) X.A (isTrue e X.env (eval e X.env)) (TP X pins σ Q) X.xe s
def PW (X : Cx) (e : Expr) (t : TT) : Prop :=
  ∀ (whole : Sem Value) (pins : List (Addr × Obj)) (s : Shared) (σ : St) (H : Hp) (Q : Bool → Hp → Prop), Inv X pins σ H s → t σ H Q → wpAny (model X.prog X.w) X.A (isTrue e X.env whole) (TP X pins σ Q) X.xe s
theorem PW.pt {X : Cx} {e : Expr} {t : TT} (h : PW X e t) : PT X e t := h _
def PA (X : Cx) (es : List Expr) (t : TA) : Prop :=
  ∀ (pos : Pos) (pins : List (Addr × Obj)) (s : Shared) (σ : St) (H : Hp) (Q : List V → Hp → Prop), Inv X pins σ H s → t σ H Q → wpAny (model X.prog X.w) X.A (spliced (backTo pos (starEach es X.env))) (AP X pins σ Q) X.xe s
def PS (X : Cx) (st : Stmt) (t : TS) : Prop :=
  ∀ (pins : List (Addr × Obj)) (s : Shared) (σ : St) (H : Hp) (D : Ends), Inv X pins σ H s → t D σ H → wpAny (model X.prog X.w) X.A (exec st X.env) (SP X pins D) X.xe s
def PSs (X : Cx) (st : List Stmt) (t : TS) : Prop :=
  ∀ (pins : List (Addr × Obj)) (s : Shared) (σ : St) (H : Hp) (D : Ends), Inv X pins σ H s → t D σ H → wpAny (model X.prog X.w) X.A (execs st X.env) (SP X pins D) X.xe s
theorem thn {α : Type} {t : Sem α} {Q Q' : α → Shared → Prop} {M : Model} {A : Around} {E : Value → Shared → Prop} {s : Shared} (h : wpAny M A t Q E s) (hQ : ∀ a s, Q a s → Q' a s) : wpAny M A t Q' E s := wpAny_mono h hQ fun _ _ x => x
end L2
namespace L2
open PySem PySem.Spec PyProof.Rows
section
variable {X : Cx}
theorem bin {a b : Expr} {ta tb : TE} (ha : PE X a ta) (hb : PE X b tb) {pins : List (Addr × Obj)} {s : Shared} {σ : St} {H : Hp} {R : V → V → Hp → Prop} (I : Inv X pins σ H s) (h : ta σ H fun x H1 => tb σ H1 fun y H2 => R x y H2)
    {α : Type} {Q : α → Shared → Prop} {f : Value → Value → Sem α}
    (hf : ∀ v u s2 x y H2, Inv X pins σ H2 s2 → RelV x v → RelV y u → R x y H2 → wpAny (model X.prog X.w) X.A (f v u) Q X.xe s2) :
    wpAny (model X.prog X.w) X.A (eval a X.env) (fun v s₁ => wpAny (model X.prog X.w) X.A (eval b X.env) (fun u s₂ => wpAny (model X.prog X.w) X.A (f v u) Q X.xe s₂) X.xe s₁) X.xe s := by
  refine thn (ha pins s σ H _ I h) fun v s1 ⟨x, H1, I1, r1, q1⟩ => ?_
  refine thn (hb pins s1 σ H1 _ I1 q1) fun u s2 ⟨y, H2, I2, r2, q2⟩ => ?_
  exact hf v u s2 x y H2 I2 r1 r2 q2
def tVar (i : Nat) : TE := fun σ H Q => ∃ v, σ[i]? = some (some v) ∧ Q v H
def tC (v : V) : TE := fun _ H Q => Q v H
theorem pe_var {i : Nat} {x : Str} {pos : Pos} (hN : X.N[i]? = some x) (hv : Vis X.env.scope x) (hd : (x == ("__debug__" : Str)) = false := by decide) (hcd : (x == ("__classdict__" : Str)) = false := by decide) : PE X (.Name x pos) (tVar i) := by
  intro pins s σ H Q I h
  obtain ⟨v, e, h⟩ := h
  obtain ⟨m, hn, hl⟩ := I.loc
  obtain ⟨u, r, l⟩ := hl i x v hN e hv
  have fin : EP X pins σ Q u s := ⟨v, H, I, r, h⟩
  rcases l with ⟨hk, hm⟩ | ⟨hk, c, hc, hcell⟩
  · exact wpAny_Name (wpAny_loadName_local I.ok.kind hk hn hm fin) hd
  · rcases hk with hk | hk
    · exact wpAny_Name (wpAny_loadName_cell I.ok.kind hk hc hcell fin) hd
    · exact wpAny_Name (wpAny_loadName_free I.ok.kind hk hc hcell fin hcd) hd
theorem pe_int {i j pos} : PE X (.Constant (.int i) j pos) (tC (.int i)) := fun _ _ _ H _ I h => wpAny_Constant_int ⟨.int i, H, I.tok _, ⟨_, rfl⟩, h⟩
theorem pe_bl {b j pos} : PE X (.Constant (.bool b) j pos) (tC (.bl b)) := fun _ _ _ H _ I h => Constant_bool ⟨.bl b, H, I, rfl, h⟩
theorem pe_non {j pos} : PE X (.Constant .none j pos) (tC .non) := fun _ _ _ H _ I h => Constant_none ⟨.non, H, I, rfl, h⟩
def Gl (X : Cx) (x : Str) : Prop := X.env.kindOf x = some .globalImplicit
theorem ld_glob {E : Value → Shared → Prop} {pins : List (Addr × Obj)} {s : Shared} {σ : St} {H : Hp} {x : Str} {u : Value} {pos : Pos} {Q : Value → Shared → Prop} (I : Inv X pins σ H s) (hg : Gl X x) (hm : X.mg x = some u) (h : Q u s)
    (hd : (x == ("__debug__" : Str)) = false := by decide) : wpAny (model X.prog X.w) X.A (eval (.Name x pos) X.env) Q E s :=
  Calls.Name_function_global I.ok.kind hg (Calls.loadGlobal_global (by rw [I.ok.glob]; exact I.mod.glob.keeps I.bk) hm h) hd
theorem ld_blt {E : Value → Shared → Prop} {pins : List (Addr × Obj)} {s : Shared} {σ : St} {H : Hp} {x : Str} {u : Value} {pos : Pos} {Q : Value → Shared → Prop} (I : Inv X pins σ H s) (hg : Gl X x) (hm : X.mg x = none) (hv : bootBuiltins x = some u) (h : Q u s)
    (hn : x ≠ "__name__" := by decide) (hd : (x == ("__debug__" : Str)) = false := by decide) : wpAny (model X.prog X.w) X.A (eval (.Name x pos) X.env) Q E s := by
  obtain ⟨mb, h1, h2⟩ := I.mod.blt
  exact Calls.Name_function_global I.ok.kind hg (Calls.loadGlobal_builtin (by rw [I.ok.glob]; exact I.mod.glob.keeps I.bk) hm (by rw [I.ok.blt]; exact h1.keeps I.bk) ((h2 x hn).trans hv) h) hd
theorem pe_glob {x : Str} {v : V} {u : Value} {pos : Pos} (hg : Gl X x) (hm : X.mg x = some u) (r : RelV v u) (hd : (x == ("__debug__" : Str)) = false := by decide) : PE X (.Name x pos) (tC v) :=
  fun _ _ _ H _ I h => ld_glob I hg hm ⟨v, H, I, r, h⟩ hd
variable {a b : Expr} {ta tb : TE} {pos : Pos}
variable {tA tB' : TT} {rest : List Expr}
def tOr (t u : TT) : TT := fun σ H Q => t σ H fun c H1 => if c = true then Q true H1 else u σ H1 Q
def tNot (t : TT) : TT := fun σ H Q => t σ H fun c H1 => Q (!c) H1
theorem pw_or1 (ha : PT X a tA) : PW X (.BoolOp .Or [a] pos) tA := by
  intro wh pins s σ H Q I h
  refine isTrue_or (thn (ha pins s σ H Q I h) fun c s1 e => ?_)
  cases c with
  | false => exact isTrue_or_nil e
  | true => exact e
theorem pw_or (ha : PT X a tA) (hb : PW X (.BoolOp .Or (b :: rest) pos) tB') : PW X (.BoolOp .Or (a :: b :: rest) pos) (tOr tA tB') := by
  intro wh pins s σ H Q I h
  refine isTrue_or (thn (ha pins s σ H _ I h) fun c s1 ⟨H1, I1, q1⟩ => ?_)
  cases c with
  | true => exact ⟨H1, I1, q1⟩
  | false => exact hb wh pins s1 σ H1 Q I1 q1
theorem pt_not (ha : PT X a tA) : PT X (.UnaryOp .Not a pos) (tNot tA) := by
  intro pins s σ H Q I h
  exact isTrue_not (ha pins s σ H (fun c H1 => Q (!c) H1) I h)
def tAndV (ta tb : TE) : TE := fun σ H Q => ta σ H fun x H1 => ∃ c, x = .bl c ∧ if c = true then tb σ H1 Q else Q (.bl false) H1
theorem pe_one {op} {t : TE} (h : PE X a t) : PE X (.BoolOp op [a] pos) t := fun pins s σ H Q I hw => BoolOp_one (h pins s σ H Q I hw)
theorem pe_and (ha : PE X a ta) (hb : PE X (.BoolOp .And (b :: rest) pos) tb) : PE X (.BoolOp .And (a :: b :: rest) pos) (tAndV ta tb) := by
  intro pins s σ H Q I h
  refine BoolOp_and (thn (ha pins s σ H _ I h) fun v s1 ⟨x, H1, I1, r1, q1⟩ => ?_)
  obtain ⟨c, rfl, q1⟩ := q1
  cases r1
  refine wpAny_truthy_bool ?_
  cases c with
  | true => exact hb pins s1 σ H1 Q I1 q1
  | false => exact ⟨.bl false, H1, I1, rfl, q1⟩
end
end L2
namespace L2
open PySem PySem.Spec PyProof.Rows
def SqL (K : PySem.W.Frag) (H : Hp) (a : Addr) (xs : List V) : Prop :=
  Rd H a (.lst xs) ∨
    ∃ (o : Obj) (its : Array Value) (n : Nat), K.lookup a = some o ∧ o.cls = .type "list" ∧ o.dict = none ∧ o.data = .seq its n ∧ its.size ≤ sizeLine ∧ Vals xs its.toList
def SqT (K : PySem.W.Frag) (H : Hp) (a : Addr) (xs : List V) : Prop :=
  Rd H a (.tup xs) ∨
    ∃ (o : Obj) (its : Array Value) (n : Nat), K.lookup a = some o ∧ o.cls = .type "tuple" ∧ o.data = .seq its n ∧ its.size ≤ sizeLine ∧ Vals xs its.toList
def absV : Value → Option V
  | .none => some .non
  | .bool b => some (.bl b)
  | .int i _ => some (.int i)
  | .str x _ => some (.str x)
  | .bytes b _ => some (.byt b)
  | .float b _ => some (.flt b)
  | .ref a => some (.ref a)
  | .type n => some (.ty n)
  | _ => none
theorem RelV.abs {x : V} {u : Value} (r : RelV x u) : absV u = some x := by
  cases x with
  | non => cases r; rfl
  | bl _ => cases r; rfl
  | int _ => obtain ⟨t, rfl⟩ := r; rfl
  | str _ => obtain ⟨t, rfl⟩ := r; rfl
  | byt _ => obtain ⟨t, rfl⟩ := r; rfl
  | flt _ => obtain ⟨t, rfl⟩ := r; rfl
  | ref _ => cases r; rfl
  | ty _ => cases r; rfl
theorem RelV.inj {x y : V} {u : Value} (r : RelV x u) (q : RelV y u) : x = y := Option.some.inj (r.abs.symm.trans q.abs)
theorem Vals.inj : ∀ {xs ys : List V} {us : List Value}, Vals xs us → Vals ys us → xs = ys
  | _, _, _, .nil, .nil => rfl
  | _, _, _, .cons r t, .cons r' t' => by rw [r.inj r', Vals.inj t t']
section
variable {X : Cx} {pins : List (Addr × Obj)} {σ : St} {H : Hp} {s : Shared} {a : Addr} {xs ys : List V}
theorem SqL.of {K : PySem.W.Frag} (h : H a = some (.lst xs)) : SqL K H a xs := .inl (.inl h)
theorem SqT.of {K : PySem.W.Frag} (h : H a = some (.tup xs)) : SqT K H a xs := .inl (.inl h)
theorem Inv.list (I : Inv X pins σ H s) (h : SqL X.K H a xs) : ∃ its : List Value, Vals xs its ∧ PlainL s.heap a its.toArray ∧ xs.length ≤ sizeLine := by
  rcases h with h | ⟨o, its, n, hk, hc, hd, hs, hz, r⟩
  · obtain ⟨z, its, n, r, e⟩ := h.ok I.hok
    exact ⟨its, r, ⟨_, n, e, rfl, rfl, rfl⟩, z⟩
  · refine ⟨its.toList, r, ⟨o, n, I.kIn a o hk, hc, hd, by simpa using hs⟩, ?_⟩
    have e := r.length
    simp only [Array.length_toList] at e
    omega
theorem Inv.tuple (I : Inv X pins σ H s) (h : SqT X.K H a xs) : ∃ its : List Value, Vals xs its ∧ IsTup s.heap a its.toArray ∧ xs.length ≤ sizeLine := by
  rcases h with h | ⟨o, its, n, hk, hc, hs, hz, r⟩
  · obtain ⟨z, its, r, p⟩ := h.ok I.hok
    exact ⟨its, r, p, z⟩
  · refine ⟨its.toList, r, ⟨o, I.kIn a o hk, hc, n, by simpa using hs⟩, ?_⟩
    have e := r.length
    simp only [Array.length_toList] at e
    omega
theorem Inv.list_inj (I : Inv X pins σ H s) (h : SqL X.K H a xs) (h' : SqL X.K H a ys) : xs = ys := by
  obtain ⟨its, r, ⟨o, n, e, _, _, d⟩, _⟩ := I.list h
  obtain ⟨its', r', ⟨o', n', e', _, _, d'⟩, _⟩ := I.list h'
  rw [e] at e'; cases e'
  rw [d] at d'
  injection d' with d1 _
  have : its = its' := by simpa using congrArg Array.toList d1
  subst this
  exact r.inj r'
end
abbrev Cx.wish (X : Cx) (E : Value → Shared → Prop) : Cx := { X with xe := E }
abbrev Cx.nox (X : Cx) : Cx := X.wish fun _ _ => False
theorem Cx.Ok.wish {X : Cx} (ok : X.Ok) (E : Value → Shared → Prop) : (X.wish E).Ok :=
  ⟨ok.mod, ok.kind, ok.glob, ok.blt, ok.above, ok.inj, ok.has, ok.cab, ok.hd, ok.frames, ok.stk, ok.exf, ok.bs, ok.bsz, ok.noex, ok.exfs, ok.funs, ok.frf⟩
theorem Cx.Ok.unwish {X : Cx} {E : Value → Shared → Prop} (ok : (X.wish E).Ok) : X.Ok :=
  ⟨ok.mod, ok.kind, ok.glob, ok.blt, ok.above, ok.inj, ok.has, ok.cab, ok.hd, ok.frames, ok.stk, ok.exf, ok.bs, ok.bsz, ok.noex, ok.exfs, ok.funs, ok.frf⟩
section
variable {X : Cx} {pins : List (Addr × Obj)} {σ : St} {H : Hp} {s : Shared} {E : Value → Shared → Prop}
theorem Inv.wish (I : Inv X pins σ H s) (E : Value → Shared → Prop) : Inv (X.wish E) pins σ H s := ⟨I.ok.wish E, I.os, I.bare, I.base, I.loc, I.cell, I.free, I.freeC, I.pin, I.hok, I.len⟩
theorem Inv.unwish (I : Inv (X.wish E) pins σ H s) : Inv X pins σ H s := ⟨I.ok.unwish, I.os, I.bare, I.base, I.loc, I.cell, I.free, I.freeC, I.pin, I.hok, I.len⟩
theorem SP.unwish {D : Ends} {f : Flow} {s' : Shared} (h : SP (X.wish E) pins D f s') : SP X pins D f s' := by
  cases f with
  | next => obtain ⟨σ', H', I, q⟩ := h; exact ⟨σ', H', I.unwish, q⟩
  | brk => obtain ⟨σ', H', I, q⟩ := h; exact ⟨σ', H', I.unwish, q⟩
  | cont => obtain ⟨σ', H', I, q⟩ := h; exact ⟨σ', H', I.unwish, q⟩
  | ret u => obtain ⟨v, σ', H', I, r, q⟩ := h; exact ⟨v, σ', H', I.unwish, r, q⟩
theorem PSs.nox {st : List Stmt} {t : TS} (h : PSs X.nox st t) : PSs X st t := fun pins s σ H D I hw =>
  wpAny_mono (h pins s σ H D (I.wish _) hw) (fun _ _ q => q.unwish) fun _ _ z => False.elim z
end
section
variable {X : Cx} {st : Stmt} {rest : List Stmt} {t u : TS} {e : Expr} {te : TE} {pos : Pos}
def tNext : TS := fun D σ H => D.nx σ H
def tSeq (t u : TS) : TS := fun D σ H => t { D with nx := u D } σ H
theorem pss_nil : PSs X [] tNext := fun _ _ σ H _ I h => wpAny_execs_nil ⟨σ, H, I, h⟩
theorem pss_cons (h1 : PS X st t) (h2 : PSs X rest u) : PSs X (st :: rest) (tSeq t u) := by
  intro pins s σ H D I h
  refine wpAny_execs_cons (thn (h1 pins s σ H { D with nx := u D } I h) fun f s1 q => ?_)
  cases f with
  | next =>
    obtain ⟨σ', H', I', q⟩ := q
    exact h2 pins s1 σ' H' D I' q
  | ret v => exact q
  | brk => exact q
  | cont => exact q
theorem pss_one (h1 : PS X st t) : PSs X [st] t := by
  intro pins s σ H D I h
  refine wpAny_execs_cons (thn (h1 pins s σ H D I h) fun f s1 q => ?_)
  cases f with
  | next => exact wpAny_execs_nil q
  | ret v => exact q
  | brk => exact q
  | cont => exact q
def tBreak : TS := fun D σ H => D.bk σ H
def tCont : TS := fun D σ H => D.ct σ H
theorem ps_break : PS X (.Break pos) tBreak := fun _ _ σ H _ I h => wpAny_Break ⟨σ, H, I, h⟩
theorem ps_continue : PS X (.Continue pos) tCont := fun _ _ σ H _ I h => wpAny_Continue ⟨σ, H, I, h⟩
theorem Inv.quiet {pins : List (Addr × Obj)} {σ : St} {H : Hp} {s : Shared} (I : Inv X pins σ H s) : interactive X.env = false := by simp [interactive, I.ok.kind]
def tDrop (te : TE) : TS := fun D σ H => te σ H fun _ H1 => D.nx σ H1
theorem ps_expr (he : PE X e te) (hs : swapsWith e none pos.line X.env = pure false := by rfl) : PS X (.Expr e pos) (tDrop te) := by
  intro pins s σ H D I h
  exact wpAny_Expr_any (thn (he pins s σ H _ I h) fun v s1 ⟨x, H1, I1, r1, q1⟩ => ⟨σ, H1, I1, q1⟩) I.quiet hs
def tRet (te : TE) : TS := fun D σ H => te σ H D.rt
theorem ps_ret (he : PE X e te) : PS X (.Return (some e) pos) (tRet te) := by
  intro pins s σ H D I h
  exact wpAny_Return_some (thn (he pins s σ H _ I h) fun v s1 ⟨x, H1, I1, r1, q1⟩ => ⟨x, σ, H1, I1, r1, q1⟩)
def tIfS (c : TT) (t u : TS) : TS := fun D σ H => c σ H fun b H1 => if b = true then t D σ H1 else u D σ H1
theorem ps_if {c : Expr} {a b : List Stmt} {tc : TT} (hc : PT X c tc) (ha : PSs X a t) (hb : PSs X b u) : PS X (.If c a b pos) (tIfS tc t u) := by
  intro pins s σ H D I h
  refine wpAny_If (thn (hc pins s σ H _ I h) fun d s1 ⟨H1, I1, q1⟩ => ?_)
  cases d with
  | true => exact ha pins s1 σ H1 D I1 q1
  | false => exact hb pins s1 σ H1 D I1 q1
end
abbrev TG := V → St → Hp → (St → Hp → Prop) → Prop
abbrev TGs := List V → St → Hp → (St → Hp → Prop) → Prop
def PG (X : Cx) (target : Expr) (t : TG) : Prop :=
  ∀ (pins : List (Addr × Obj)) (s : Shared) (σ : St) (H : Hp) (v : V) (u : Value) (Q : St → Hp → Prop), Inv X pins σ H s → RelV v u → t v σ H Q →
    wpAny (model X.prog X.w) X.A (assign target X.env u) (fun _ s' => ∃ σ' H', Inv X pins σ' H' s' ∧ Q σ' H') X.xe s
def PGs (X : Cx) (ts : List Expr) (t : TGs) : Prop :=
  ∀ (pins : List (Addr × Obj)) (s : Shared) (σ : St) (H : Hp) (vs : List V) (us : List Value) (Q : St → Hp → Prop), Inv X pins σ H s → Vals vs us → t vs σ H Q →
    wpAny (model X.prog X.w) X.A (assignInOrder ((assignEach ts X.env).map (·.2)) us) (fun _ s' => ∃ σ' H', Inv X pins σ' H' s' ∧ Q σ' H') X.xe s
abbrev TSet := V → V → V → Hp → (Hp → Prop) → Prop
def PSet (X : Cx) (t : TSet) : Prop :=
  ∀ (pins : List (Addr × Obj)) (s : Shared) (σ : St) (H : Hp) (o i v : V) (ov iv u : Value) (Q : Hp → Prop), Inv X pins σ H s → RelV o ov → RelV i iv → RelV v u → t o i v H Q →
    wpAny (model X.prog X.w) X.A (setItem ov iv u) (fun _ s' => ∃ H', Inv X pins σ H' s' ∧ Q H') X.xe s
section
variable {X : Cx} {pos : Pos}
def gName (i : Nat) : TG := fun v σ H Q => Q (σ.set i (some v)) H
theorem pg_name {i : Nat} {x : Str} (hN : X.N.Nodup) (hi : X.N[i]? = some x) (hx : Loc X.env.scope x) (hf : X.fn x = true ∨ X.env.scope.names.lookup x = some .local := by first | exact .inl rfl | exact .inr rfl | assumption) : PG X (.Name x pos) (gName i) := by
  intro pins s σ H v u Q I r h
  exact wpAny_assign_Name (store_ok I hN hi hx r (fun s' I' => ⟨_, H, I', h⟩) hf)
def gNil : TGs := fun vs σ H Q => vs = [] ∧ Q σ H
def gCons (t : TG) (u : TGs) : TGs := fun vs σ H Q => ∃ v r, vs = v :: r ∧ t v σ H fun σ' H' => u r σ' H' Q
theorem pgs_nil : PGs X [] gNil := by
  intro pins s σ H vs us Q I r h
  obtain ⟨e, h⟩ := h
  subst e
  cases r
  exact assignInOrder_nil ⟨σ, H, I, h⟩
theorem pgs_cons {e : Expr} {es : List Expr} {t : TG} {u : TGs} (h1 : PG X e t) (h2 : PGs X es u)
    (hs : (assignEach (e :: es) X.env).map (·.2) = assign e X.env :: (assignEach es X.env).map (·.2) := by rfl) : PGs X (e :: es) (gCons t u) := by
  intro pins s σ H vs us Q I r h
  obtain ⟨v, vr, e1, h⟩ := h
  subst e1
  cases r with
  | cons r rr =>
    rw [hs]
    refine assignInOrder_cons (thn (h1 pins s σ H _ _ _ I r h) fun _ s1 ⟨σ1, H1, I1, q1⟩ => ?_)
    exact h2 pins s1 σ1 H1 _ _ Q I1 rr q1
def gTup (K : PySem.W.Frag) (n : Nat) (t : TGs) : TG := fun v σ H Q => ∃ a xs, v = .ref a ∧ SqT K H a xs ∧ xs.length = n ∧ t xs σ H Q
theorem pg_tup {es : List Expr} {k : Nat} {t : TGs} {n : Nat} (hc : X.calm = true) (h : PGs X es t)
    (hn : (assignEach es X.env).length = n := by rfl) (hst : (assignEach es X.env).findIdx? (·.1) = none := by rfl) : PG X (.Tuple es k pos) (gTup X.K n t) := by
  intro pins s σ H v u Q I r hw
  obtain ⟨a, xs, e1, hq, hl, hw⟩ := hw
  subst e1
  cases r
  obtain ⟨its, rv, ht, hz⟩ := I.tuple hq
  refine assign_Tuple_tuple (I.ok.hd hc) ht (by simp [hn, ← hl, rv.length]) hst fun h' hx => ?_
  have I1 : Inv X pins σ H { s with heap := h' } := I.kept (t' := s.toks) fun b o e => hx b o (Nat.ne_of_lt (Heap.lt_size e)) e
  exact h pins _ σ H xs _ Q I1 (by simpa using rv) hw
def gSub (to ti : TE) (t : TSet) : TG := fun v σ H Q => to σ H fun o H1 => ti σ H1 fun i H2 => t o i v H2 fun H3 => Q σ H3
theorem pg_sub {o i : Expr} {to ti : TE} {t : TSet} (ho : PE X o to) (hi : PE X i ti) (hs : PSet X t)
    (ha : ∀ v, assign (.Subscript o i pos) X.env v = (do
      let ov ← holding [v] (eval o X.env)
      let iv ← holding [v, ov] (eval i X.env)
      standAt pos
      holding [v, ov, iv] (setItem ov iv v)
      release [v, ov, iv] []) := by intro _; rfl) : PG X (.Subscript o i pos) (gSub to ti t) := by
  intro pins s σ H v u Q I r h
  rw [ha]
  refine wpAny_bind (wpAny_holding (thn (ho pins s σ H _ I h) fun ov s1 ⟨x, H1, I1, r1, q1⟩ => ?_))
  refine wpAny_bind (wpAny_holding (thn (hi pins s1 σ H1 _ I1 q1) fun iv s2 ⟨y, H2, I2, r2, q2⟩ => ?_))
  refine wpAny_bind (wpAny_standAt (wpAny_bind (wpAny_holding (thn (hs pins s2 σ H2 x y v ov iv u _ I2 r1 r2 r q2) fun _ s3 ⟨H3, I3, q3⟩ => ?_))))
  exact wpAny_release ⟨σ, H3, I3, q3⟩
def tAsg (te : TE) (g : TG) : TS := fun D σ H => te σ H fun x H1 => g x σ H1 D.nx
theorem ps_asg {tg e : Expr} {te : TE} {g : TG} (he : PE X e te) (hg : PG X tg g) (hs : swapsWithSole [tg] e pos.line X.env = pure false := by rfl) (hw : swappedStores [tg] e X.env = pure none := by rfl)
    (h1 : (assignEach [tg] X.env).map (·.2) = [assign tg X.env] := by rfl) : PS X (.Assign [tg] e pos) (tAsg te g) := by
  intro pins s σ H D I h
  refine wpAny_Assign_stores (thn (he pins s σ H _ I h) fun v s1 ⟨x, H1, I1, r1, q1⟩ => ?_) hs hw
  rw [h1]
  exact thn (hg pins s1 σ H1 x v _ I1 r1 q1) fun _ s2 q => q
theorem ps_set {i : Nat} {x : Str} {e : Expr} {te : TE} {pos' : Pos} (hN : X.N.Nodup) (hi : X.N[i]? = some x) (hx : Loc X.env.scope x) (he : PE X e te) (hs : swapsWith e (some (.Name x pos')) pos.line X.env = pure false := by rfl) (hf : X.fn x = true ∨ X.env.scope.names.lookup x = some .local := by first | exact .inl rfl | exact .inr rfl | assumption) :
    PS X (.Assign [.Name x pos'] e pos) (tAsg te (gName i)) := by
  intro pins s σ H D I h
  refine wpAny_Assign_Name (thn (he pins s σ H _ I h) fun v s1 ⟨y, H1, I1, r1, q1⟩ => ?_) hs
  exact store_ok I1 hN hi hx r1 (fun s2 I2 => ⟨_, H1, I2, q1⟩) hf
end
section
variable {X : Cx} {pos : Pos}
def tWhile (c : TT) (tb : TS) : TS := fun D σ H => ∃ W : Nat → St → Hp → Prop, (∃ m, W m σ H) ∧ ∀ m σ H, W m σ H →
  c σ H fun b H1 => if b = true then ∃ N : St → Hp → Prop, (∀ σ' H', N σ' H' → ∃ m', m' < m ∧ W m' σ' H') ∧ tb { D with nx := N, ct := N, bk := D.nx } σ H1 else D.nx σ H1
theorem ps_while {c : Expr} {body : List Stmt} {tc : TT} {tb : TS} (hp : PassesOwn (model X.prog X.w) X.A X.env X.xe) (hc : PT X c tc) (hb : PSs X body tb) : PS X (.While c body [] pos) (tWhile tc tb) := by
  intro pins s σ H D I h
  obtain ⟨W, ⟨m0, w0⟩, turn⟩ := h
  refine wpAny_While (codeAny_whileLoop (fun n s' => ∃ σ' H', Inv X pins σ' H' s' ∧ W n σ' H') ?_ m0 ⟨σ, H, I, w0⟩)
  rintro n s1 ⟨σ1, H1, I1, w1⟩
  refine wpAny_passesOwn hp (thn (hc pins s1 σ1 H1 _ I1 (turn n σ1 H1 w1)) fun b s2 ⟨H2, I2, q2⟩ => ?_)
  cases b with
  | true =>
    obtain ⟨N, hN, q2⟩ := q2
    rw [if_pos rfl]
    refine wpAny_passesOwn hp (thn (hb pins s2 σ1 H2 _ I2 q2) fun f s3 q3 => ?_)
    cases f with
    | next =>
      obtain ⟨σ3, H3, I3, n3⟩ := q3
      obtain ⟨m', hm, w3⟩ := hN σ3 H3 n3
      exact ⟨m', hm, σ3, H3, I3, w3⟩
    | cont =>
      obtain ⟨σ3, H3, I3, n3⟩ := q3
      obtain ⟨m', hm, w3⟩ := hN σ3 H3 n3
      exact ⟨m', hm, σ3, H3, I3, w3⟩
    | brk => exact q3
    | ret v => exact q3
  | false =>
    rw [if_neg Bool.false_ne_true]
    exact wpAny_execs_nil ⟨σ1, H2, I2, q2⟩
end
structure It where
  go : Nat → Hp → Prop
  yld : Nat → Hp → V → Hp → Prop
  stop : Nat → Hp → Prop
def FpOk (X : Cx) (pins : List (Addr × Obj)) (H : Hp) (b : Addr) : Prop :=
  H b = none ∧ b ≠ X.env.locals ∧ b ∉ X.fs ∧ (b ∈ X.ex ∨ X.s_0.heap.objs.size ≤ b) ∧ (∀ x c, X.env.cells.lookup x = some c → c ≠ b) ∧ ∀ p ∈ X.pn ++ pins, p.1 ≠ b
theorem Inv.fpOk {X : Cx} {pins : List (Addr × Obj)} {σ : St} {H H' : Hp} {s : Shared} {b : Addr} (I : Inv X pins σ H s) (hb : s.heap.objs.size ≤ b) (hn : H' b = none) : FpOk X pins H' b := by
  refine ⟨hn, Nat.ne_of_gt (Nat.lt_of_lt_of_le I.lt hb), I.nofs hb, .inr (Nat.le_trans I.sz hb), fun x c e z => ?_, fun p hp z => ?_⟩
  · obtain ⟨v, q⟩ := I.cell x c e
    exact absurd (Nat.lt_of_lt_of_le q.lt (by rw [z]; exact hb)) (Nat.lt_irrefl _)
  · exact absurd (Nat.lt_of_lt_of_le (Heap.lt_size (I.pin p hp).1) (by rw [z]; exact hb)) (Nat.lt_irrefl _)
structure Turn (P : Program) (w : World) (K : PySem.W.Frag) (tg : Expr) (J : It) (fp : List Addr) (it : Addr) (tn : Nat → Heap → Prop) : Prop where
  mem : it ∈ fp
  obj : ∀ i h, tn i h → ∀ b ∈ fp, ∃ o, h.get? b = some o ∧ ∀ v, o.data ≠ .cell v
  keep : ∀ i h h', tn i h → (∀ b ∈ fp, ∀ o, h.get? b = some o → h'.get? b = some o) → tn i h'
  item : ∀ (X : Cx), X.prog = P → X.w = w → X.K = K → X.calm = true → ∀ (i : Nat) (pins : List (Addr × Obj)) (s : Shared) (σ : St) (H : Hp) (E : Value → Shared → Prop), Inv X pins σ H s → (∀ b ∈ fp, FpOk X pins H b) → tn i s.heap → J.go i H →
    wpAny (model P w) X.A (pyNext (.ref it)) (fun r s1 => ∃ u, r = some u ∧
      wpAny (model P w) X.A (letOwnedTupleGo tg (.ref it) u) (fun _ s2 => ∃ x H', Inv X pins σ H' s2 ∧ RelV x u ∧ J.yld i H x H' ∧ tn (i + 1) s2.heap ∧ ∀ b ∈ fp, H' b = none) E s1) E s
  done : ∀ (X : Cx), X.prog = P → X.w = w → X.K = K → X.calm = true → ∀ (i : Nat) (pins : List (Addr × Obj)) (s : Shared) (σ : St) (H : Hp) (E : Value → Shared → Prop), Inv X pins σ H s → (∀ b ∈ fp, FpOk X pins H b) → tn i s.heap → J.stop i H →
    wpAny (model P w) X.A (pyNext (.ref it)) (fun r s1 => r = none ∧ Inv X pins σ H s1) E s
  self : ∀ (A : Around) (i : Nat) (s : Shared) (Q : Value → Shared → Prop) (E : Value → Shared → Prop), tn i s.heap → Q (.ref it) s → wpAny (model P w) A (pyIter (.ref it)) Q E s
abbrev TI := St → Hp → (It → Hp → Prop) → Prop
def PIE (X : Cx) (pins : List (Addr × Obj)) (σ : St) (tg : Expr) (R : It → Hp → Prop) (itv : Value) (s2 : Shared) : Prop :=
  ∃ (it : Addr) (fp : List Addr) (tn : Nat → Heap → Prop) (J : It) (H' : Hp), itv = .ref it ∧ Inv X pins σ H' s2 ∧ Turn X.prog X.w X.K tg J fp it tn ∧ tn 0 s2.heap ∧ (∀ b ∈ fp, FpOk X pins H' b) ∧ R J H'
def PI (X : Cx) (tg iter : Expr) (wi : TI) : Prop :=
  ∀ (pins : List (Addr × Obj)) (s : Shared) (σ : St) (H : Hp) (R : It → Hp → Prop), Inv X pins σ H s → wi σ H R →
    wpAny (model X.prog X.w) X.A (eval iter X.env) (fun v s1 => wpAny (model X.prog X.w) X.A (pyIter v) (PIE X pins σ tg R) X.xe s1) X.xe s
theorem go_of {M : Model} {A : Around} {E : Value → Shared → Prop} {s : Shared} {tg : Expr} {it : Addr} {u : Value} {o : Obj} {n : String} {vs : Array Value} {Q : Unit → Shared → Prop} (ho : s.heap.get? it = some o) (hc : o.cls = .type n) (hd : o.data = .fields vs)
    (hn : ["enumerate", "zip", "dict_itemiterator", "dict_reverseitemiterator", "odict_iterator", "itertools.zip_longest", "itertools.pairwise"].contains n = false) (hQ : Q () s) : wpAny M A (letOwnedTupleGo tg (.ref it) u) Q E s := by
  unfold letOwnedTupleGo
  cases tg <;> first
    | exact wpAny_pure hQ
    | (cases u <;> first
        | exact wpAny_pure hQ
        | (refine wpAny_bind (wpAny_load ho ?_)
           rw [hc, hd]
           show wpAny M A (if (["enumerate", "zip", "dict_itemiterator", "dict_reverseitemiterator", "odict_iterator", "itertools.zip_longest", "itertools.pairwise"].contains n && vs[0]? == some (rawInt _)) = true then _ else _) Q E s
           rw [if_neg (by intro h; rw [hn, Bool.false_and] at h; cases h)]
           exact wpAny_pure hQ))
def Itl (K : PySem.W.Frag) (a : Addr) : It :=
  ⟨fun i H => ∃ xs x, SqL K H a xs ∧ xs[i]? = some x, fun i H x H' => H' = H ∧ ∀ xs, SqL K H a xs → xs[i]? = some x, fun i H => ∃ xs, SqL K H a xs ∧ xs.length ≤ i⟩
def Itr (lo : Int) (n : Nat) : It := ⟨fun i _ => i < n, fun i H x H' => H' = H ∧ x = .int (lo + i), fun i _ => n ≤ i⟩
theorem turn_list {P : Program} {w : World} {K : PySem.W.Frag} {tg : Expr} (a it : Addr) : Turn P w K tg (Itl K a) [it] it (fun i h => h.IsListIter it a i) where
  mem := by simp
  obj := fun i h st b hb => by
    have e : b = it := by simpa using hb
    subst e
    obtain ⟨o, e, c, d⟩ := st
    exact ⟨o, e, fun v z => by rw [d] at z; cases z⟩
  keep := fun i h h' st k => st.at fun o e => k it (by simp) o e
  item := by
    intro X hP hw hK hc i pins s σ H E I hf st hg
    subst hP hw hK
    obtain ⟨xs, x, hq, hx⟩ := hg
    obtain ⟨its, rv, p, hz⟩ := I.list hq
    obtain ⟨u, hu, ru⟩ := rv.get hx
    obtain ⟨f0, f1, f2, f3, f4, f5⟩ := hf it (by simp)
    refine wpAny_pyNext_list_item st p.isList (x := u) (by simpa using hu) fun h' st' sb => ?_
    have I1 : Inv X pins σ H { s with heap := h' } := I.turned (t' := s.toks) (fun b o hb e => (sb.2 b hb).trans e) f0 f1 f3 f4 f5
    obtain ⟨o, e, c, d⟩ := id st'
    exact ⟨u, rfl, go_of (s := { s with heap := h' }) e c d (by decide) ⟨x, H, I1, ru, ⟨rfl, fun ys hy => by rw [I.list_inj hy hq]; exact hx⟩, st', fun b hb => (hf b hb).1⟩⟩
  done := by
    intro X hP hw hK hc i pins s σ H E I hf st hg
    subst hP hw hK
    obtain ⟨xs, hq, hx⟩ := hg
    obtain ⟨its, rv, p, hz⟩ := I.list hq
    obtain ⟨f0, f1, f2, f3, f4, f5⟩ := hf it (by simp)
    have hl := rv.length
    exact wpAny_pyNext_list_end (I.ok.hd hc) st p.isList (by simp; omega) fun h' eb => ⟨rfl, I.turned (t' := s.toks) (fun b o hb e => eb b o hb e) f0 f1 f3 f4 f5⟩
  self := fun _ _ _ _ _ st h => wpAny_pyIter_listiter st h
theorem turn_range {P : Program} {w : World} {K : PySem.W.Frag} {tg : Expr} (it : Addr) (lo : Int) (n : Nat) : Turn P w K tg (Itr lo n) [it] it (fun i h => IsRangeIter h it (lo + (i : Nat) * 1) ((n : Int) - (i : Nat)) 1) where
  mem := by simp
  obj := fun i h st b hb => by
    have e : b = it := by simpa using hb
    subst e
    exact ⟨_, st, fun v z => by
      have z' : Data.fields _ = Data.cell v := z
      cases z'⟩
  keep := fun i h h' st k => k it (by simp) _ st
  item := by
    intro X hP hw hK hc i pins s σ H E I hf st hg
    subst hP hw hK
    obtain ⟨f0, f1, f2, f3, f4, f5⟩ := hf it (by simp)
    have W := Walks.range (prog := X.prog) (w := X.w) (I.ok.hd hc) it lo 1 n
    refine W.item i s _ _ hg st fun v h' tk hv st' kk => ?_
    obtain ⟨t, rfl⟩ := hv
    have I1 : Inv X pins σ H { s with heap := h', toks := tk } := I.turned (fun b o hb e => kk b o (by simpa using hb) e) f0 f1 f3 f4 f5
    refine ⟨_, rfl, go_of (s := { s with heap := h', toks := tk }) (n := "range_iterator") st' rfl rfl (by decide) ⟨.int (lo + i), H, I1, ⟨t, ?_⟩, ⟨rfl, rfl⟩, st', fun b hb => (hf b hb).1⟩⟩
    rw [Int.mul_one]
  done := by
    intro X hP hw hK hc i pins s σ H E I hf st hg
    subst hP hw hK
    obtain ⟨f0, f1, f2, f3, f4, f5⟩ := hf it (by simp)
    exact wpAny_pyNext_range_end (I.ok.hd hc) st (by have : n ≤ i := hg; omega) fun h' eb => ⟨rfl, I.turned (t' := s.toks) (fun b o hb e => eb b o hb e) f0 f1 f3 f4 f5⟩
  self := fun _ _ _ _ _ st h => wpAny_pyIter_rangeiter st h
end L2
namespace L2
open PySem PySem.Spec PyProof.Rows
section
variable {X : Cx} {tg : Expr}
def iList (K : PySem.W.Frag) (tl : TE) : TI := fun σ H R => tl σ H fun x H1 => ∃ a, x = .ref a ∧ (∃ xs, SqL K H1 a xs) ∧ R (Itl K a) H1
theorem pi_list {l : Expr} {tl : TE} (hl : PE X l tl) : PI X tg l (iList X.K tl) := by
  intro pins s σ H R I h
  refine thn (hl pins s σ H _ I h) fun v s1 ⟨x, H1, I1, r1, q1⟩ => ?_
  obtain ⟨a, e, ⟨xs, hq⟩, q⟩ := q1
  subst e
  cases r1
  obtain ⟨its, rv, p, hz⟩ := I1.list hq
  refine wpAny_pyIter_list p.isList ?_
  refine ⟨s1.heap.objs.size, [s1.heap.objs.size], _, _, H1, rfl, I1.kept (t' := s1.toks) fun b o e => Heap.get?_push_of_some _ e, turn_list a _, ⟨_, Heap.get?_push_size _ rfl, rfl, rfl⟩, fun b hb => ?_, q⟩
  have e : b = s1.heap.objs.size := by simpa using hb
  subst e
  exact I1.fpOk (Nat.le_refl _) (I1.hok.fresh (Nat.le_refl _))
theorem range_it {pins : List (Addr × Obj)} {σ : St} {H : Hp} {s : Shared} {R : It → Hp → Prop} {E : Value → Shared → Prop} {lo hi : Int} {t u v : Tok} {tk : Nat} (I : Inv X pins σ H s) (h1 : -(2 ^ 62) ≤ lo) (h2 : lo < 2 ^ 62) (h3 : -(2 ^ 62) ≤ hi) (h4 : hi < 2 ^ 62)
    (q : R (Itr lo (hi - lo).toNat) H) : wpAny (model X.prog X.w) X.A (pyIter (.ref s.heap.objs.size)) (PIE X pins σ tg R) E { s with heap := s.heap.push { cls := .type "range", data := .fields #[.int lo t, .int hi u, .int 1 v] }, toks := tk } := by
  refine wpAny_pyIter_range (IsRange.new ..) (small_one h1 h2 h3 h4) ?_
  have I1 : Inv X pins σ H { s with heap := s.heap.push { cls := .type "range", data := .fields #[.int lo t, .int hi u, .int 1 v] }, toks := tk } := I.kept fun b o e => Heap.get?_push_of_some _ e
  refine ⟨(s.heap.push { cls := .type "range", data := .fields #[.int lo t, .int hi u, .int 1 v] }).objs.size, [(s.heap.push { cls := .type "range", data := .fields #[.int lo t, .int hi u, .int 1 v] }).objs.size], _, _, H, rfl,
    I1.kept (t' := tk) fun b o e => Heap.get?_push_of_some _ e, turn_range _ lo (hi - lo).toNat, ?_, fun b hb => ?_, q⟩
  · have e1 : lo + ((0 : Nat) : Int) * 1 = lo := by simp
    have e2 : (((hi - lo).toNat : Nat) : Int) - ((0 : Nat) : Int) = Builtin.Range.rangeSize lo hi 1 := by rw [rangeSize_one]; split <;> omega
    show IsRangeIter _ _ (lo + ((0 : Nat) : Int) * 1) ((((hi - lo).toNat : Nat) : Int) - ((0 : Nat) : Int)) 1
    rw [e1, e2]
    exact Heap.get?_push_size _ rfl
  · have e : b = (s.heap.push { cls := .type "range", data := .fields #[.int lo t, .int hi u, .int 1 v] }).objs.size := by simpa using hb
    subst e
    exact I1.fpOk (Nat.le_refl _) (I1.hok.fresh (Nat.le_refl _))
def iRng1 (ta : TA) : TI := fun σ H R => ta σ H fun vs H1 => ∃ j : Int, vs = [.int j] ∧ -(2 ^ 62) ≤ j ∧ j < 2 ^ 62 ∧ R (Itr 0 j.toNat) H1
theorem pi_range1 {a : Expr} {ta : TA} {p pos : Pos} (hg : Gl X "range") (hm : X.mg "range" = none) (ha : PA X [a] ta) (hs : starEach [a] X.env = [(false, eval a X.env)] := by rfl) : PI X tg (.Call (.Name "range" p) [a] [] pos) (iRng1 ta) := by
  intro pins s σ H R I h
  refine Call_ (ld_blt I hg hm boot_range (PyProof.Rows.callWith_type1 (thn (ha pos pins s σ H _ I h) fun us s1 ⟨vs, H1, I1, r1, q1⟩ => ?_) hs rfl))
  obtain ⟨j, e, q1, q2, q⟩ := q1
  subst e
  cases r1 with
  | cons r rr =>
    cases rr
    obtain ⟨t, rfl⟩ := r
    exact call_range_1 (range_it I1 (by omega) (by omega) q1 q2 (by simpa using q))
def tFor (wi : TI) (g : TG) (tb : TS) : TS := fun D σ H => wi σ H fun J H1 => ∃ W : Nat → Nat → St → Hp → Prop, (∃ m, W 0 m σ H1) ∧ ∀ i m σ H, W i m σ H →
  (J.stop i H ∧ D.nx σ H) ∨ (J.go i H ∧ ∃ N : St → Hp → Prop, (∀ σ' H', N σ' H' → ∃ m', m' < m ∧ W (i + 1) m' σ' H') ∧ ∀ x H', J.yld i H x H' → g x σ H' fun σ2 H2 => tb { D with nx := N, ct := N, bk := D.nx } σ2 H2)
def pinsAt (fp : List Addr) (h : Heap) : List (Addr × Obj) := fp.filterMap fun b => (h.get? b).map fun o => (b, o)
theorem mem_pinsAt {fp : List Addr} {h : Heap} {b : Addr} {o : Obj} (hb : b ∈ fp) (e : h.get? b = some o) : (b, o) ∈ pinsAt fp h := List.mem_filterMap.mpr ⟨b, hb, by rw [e]; rfl⟩
theorem of_pinsAt {fp : List Addr} {h : Heap} {p : Addr × Obj} (hp : p ∈ pinsAt fp h) : p.1 ∈ fp ∧ h.get? p.1 = some p.2 := by
  obtain ⟨b, hb, e⟩ := List.mem_filterMap.mp hp
  cases q : h.get? b with
  | none => rw [q] at e; cases e
  | some o =>
    rw [q] at e
    have e' : (b, o) = p := Option.some.inj e
    subst e'
    exact ⟨hb, q⟩
theorem Inv.pinned {pins : List (Addr × Obj)} {σ : St} {H : Hp} {s : Shared} {fp : List Addr} (I : Inv X pins σ H s) (hf : ∀ b ∈ fp, FpOk X pins H b) (ho : ∀ b ∈ fp, ∃ o, s.heap.get? b = some o ∧ ∀ v, o.data ≠ .cell v) : Inv X (pins ++ pinsAt fp s.heap) σ H s :=
  I.pins_of fun p hp => (List.mem_append.mp hp).elim (fun z => I.pin p (List.mem_append_right _ z)) fun z => by
    obtain ⟨hb, e⟩ := of_pinsAt z
    obtain ⟨f0, f1, f2, _⟩ := hf p.1 hb
    obtain ⟨o, e', d⟩ := ho p.1 hb
    rw [e] at e'; cases e'
    exact ⟨e, f0, f1, f2, d⟩
theorem Inv.unpinned {pins pl : List (Addr × Obj)} {σ : St} {H : Hp} {s : Shared} (I : Inv X (pins ++ pl) σ H s) : Inv X pins σ H s := I.pins_of fun p hp => I.pin p (List.mem_append_right _ (List.mem_append_left _ hp))
theorem ps_for {iter : Expr} {body : List Stmt} {wi : TI} {g : TG} {tb : TS} {pos : Pos} (hp : PassesOwn (model X.prog X.w) X.A X.env X.xe) (hc : X.calm = true) (hi : PI X tg iter wi) (hg : PG X tg g) (hb : PSs X body tb)
    (hs : ∀ x, foldedSetIterable iter X.env x = pure x := by intro _; rfl) : PS X (.For tg iter body [] pos) (tFor wi g tb) := by
  intro pins s σ H D I h
  refine wpAny_For (thn (hi pins s σ H _ I h) fun v s1 h1 => thn h1 fun itv s2 h2 => ?_) hs
  obtain ⟨it, fp, tn, J, H2, e, I2, T, st2, f2, W, ⟨m0, w0⟩, turn⟩ := h2
  subst e
  -- what stays true of the iterator's objects through the loop
  have stat : ∀ {H' : Hp}, (∀ b ∈ fp, H' b = none) → ∀ b ∈ fp, FpOk X pins H' b := fun hn b hb => ⟨hn b hb, (f2 b hb).2⟩
  refine codeAny_forLoop_any (fun n s' => ∃ i σ' H', Inv X pins σ' H' s' ∧ tn i s'.heap ∧ (∀ b ∈ fp, H' b = none) ∧ W i n σ' H') ?_ m0 ⟨0, σ, H2, I2, st2, fun b hb => (f2 b hb).1, w0⟩
  rintro n s3 ⟨i, σ3, H3, I3, st3, fr3, w3⟩
  rcases turn i n σ3 H3 w3 with ⟨stop, qn⟩ | ⟨go, N, hN, step⟩
  · refine wpAny_passesOwn hp (thn (T.done X rfl rfl rfl hc i pins s3 σ3 H3 X.xe I3 (stat fr3) st3 stop) fun r s4 ⟨hr, I4⟩ => ?_)
    subst hr
    exact wpAny_execs_nil ⟨σ3, H3, I4, qn⟩
  · refine wpAny_passesOwn hp (thn (T.item X rfl rfl rfl hc i pins s3 σ3 H3 X.xe I3 (stat fr3) st3 go) fun r s4 ⟨u, hr, h4⟩ => ?_)
    subst hr
    refine wpAny_passesOwn hp (thn h4 fun _ s5 ⟨x, H5, I5, r5, y5, st5, fr5⟩ => ?_)
    have I5' := I5.pinned (stat fr5) (T.obj _ _ st5)
    refine wpAny_passesOwn hp (thn (hg _ s5 σ3 H5 x u _ I5' r5 (step x H5 y5)) fun _ s6 ⟨σ6, H6, I6, q6⟩ => ?_)
    refine wpAny_passesOwn hp (thn (hb _ s6 σ6 H6 _ I6 q6) fun f s7 q7 => ?_)
    have again : ∀ {σ7 : St} {H7 : Hp}, Inv X (pins ++ pinsAt fp s5.heap) σ7 H7 s7 → N σ7 H7 → ∃ m, m < n ∧ ∃ i σ' H', Inv X pins σ' H' s7 ∧ tn i s7.heap ∧ (∀ b ∈ fp, H' b = none) ∧ W i m σ' H' := fun {σ7 H7} I7 n7 => by
      obtain ⟨m', hm, w7⟩ := hN σ7 H7 n7
      refine ⟨m', hm, i + 1, σ7, H7, I7.unpinned, T.keep _ _ _ st5 fun b hb o e => (I7.pin (b, o) (List.mem_append_right _ (List.mem_append_right _ (mem_pinsAt hb e)))).1, fun b hb => ?_, w7⟩
      obtain ⟨o, e, d⟩ := T.obj _ _ st5 b hb
      exact (I7.pin (b, o) (List.mem_append_right _ (List.mem_append_right _ (mem_pinsAt hb e)))).2.1
    cases f with
    | next => obtain ⟨σ7, H7, I7, n7⟩ := q7; exact again I7 n7
    | cont => obtain ⟨σ7, H7, I7, n7⟩ := q7; exact again I7 n7
    | brk => obtain ⟨σ7, H7, I7, q7⟩ := q7; exact ⟨σ7, H7, I7.unpinned, q7⟩
    | ret v => obtain ⟨x7, σ7, H7, I7, r7, q7⟩ := q7; exact ⟨x7, σ7, H7, I7.unpinned, r7, q7⟩
end
theorem for_list {K : PySem.W.Frag} {a : Addr} {xs : List V} {g : TG} {tb : TS} {D : Ends} {σ : St} {H : Hp} (Pv : Nat → St → Hp → Prop) (h0 : Pv 0 σ H) (hl : ∀ i σ H, i ≤ xs.length → Pv i σ H → SqL K H a xs)
    (hs : ∀ i x σ H, xs[i]? = some x → Pv i σ H → g x σ H fun σ2 H2 => tb { D with nx := Pv (i + 1), ct := Pv (i + 1), bk := D.nx } σ2 H2) (hd : ∀ σ H, Pv xs.length σ H → D.nx σ H) :
    ∃ W : Nat → Nat → St → Hp → Prop, (∃ m, W 0 m σ H) ∧ ∀ i m σ H, W i m σ H →
      ((Itl K a).stop i H ∧ D.nx σ H) ∨ ((Itl K a).go i H ∧ ∃ N : St → Hp → Prop, (∀ σ' H', N σ' H' → ∃ m', m' < m ∧ W (i + 1) m' σ' H') ∧ ∀ x H', (Itl K a).yld i H x H' → g x σ H' fun σ2 H2 => tb { D with nx := N, ct := N, bk := D.nx } σ2 H2) := by
  refine ⟨fun i m σ H => m = xs.length - i ∧ i ≤ xs.length ∧ Pv i σ H, ⟨xs.length, by simp, Nat.zero_le _, h0⟩, ?_⟩
  rintro i m σ H ⟨rfl, hi, p⟩
  have q := hl i σ H hi p
  by_cases hlt : i < xs.length
  · refine .inr ⟨⟨xs, xs[i], q, by simp [hlt]⟩, Pv (i + 1), fun σ' H' p' => ⟨xs.length - (i + 1), by omega, rfl, hlt, p'⟩, fun x H' y => ?_⟩
    obtain ⟨e, y⟩ := y
    subst e
    exact hs i x σ _ (y xs q) p
  · have e : i = xs.length := by omega
    subst e
    exact .inl ⟨⟨xs, q, Nat.le_refl _⟩, hd σ H p⟩
theorem for_range {lo : Int} {n : Nat} {g : TG} {tb : TS} {D : Ends} {σ : St} {H : Hp} (Pv : Nat → St → Hp → Prop) (h0 : Pv 0 σ H)
    (hs : ∀ i σ H, i < n → Pv i σ H → g (.int (lo + i)) σ H fun σ2 H2 => tb { D with nx := Pv (i + 1), ct := Pv (i + 1), bk := D.nx } σ2 H2) (hd : ∀ σ H, Pv n σ H → D.nx σ H) :
    ∃ W : Nat → Nat → St → Hp → Prop, (∃ m, W 0 m σ H) ∧ ∀ i m σ H, W i m σ H →
      ((Itr lo n).stop i H ∧ D.nx σ H) ∨ ((Itr lo n).go i H ∧ ∃ N : St → Hp → Prop, (∀ σ' H', N σ' H' → ∃ m', m' < m ∧ W (i + 1) m' σ' H') ∧ ∀ x H', (Itr lo n).yld i H x H' → g x σ H' fun σ2 H2 => tb { D with nx := N, ct := N, bk := D.nx } σ2 H2) := by
  refine ⟨fun i m σ H => m = n - i ∧ i ≤ n ∧ Pv i σ H, ⟨n, by simp, Nat.zero_le _, h0⟩, ?_⟩
  rintro i m σ H ⟨rfl, hi, p⟩
  by_cases hlt : i < n
  · refine .inr ⟨hlt, Pv (i + 1), fun σ' H' p' => ⟨n - (i + 1), by omega, rfl, hlt, p'⟩, fun x H' y => ?_⟩
    obtain ⟨e, y⟩ := y
    subst e y
    exact hs i σ _ hlt p
  · have e : i = n := by omega
    subst e
    exact .inl ⟨Nat.le_refl _, hd σ H p⟩
end L2
namespace L2
open PySem PySem.Spec PyProof.Rows
abbrev R2 := V → V → Hp → VK → Prop
def OpR (X : Cx) (f : Value → Value → Sem Value) (r : R2) : Prop :=
  ∀ (pins : List (Addr × Obj)) (s : Shared) (σ : St) (H : Hp) (x y : V) (v u : Value) (Q : VK), Inv X pins σ H s → RelV x v → RelV y u → r x y H Q →
    wpAny (model X.prog X.w) X.A (f v u) (EP X pins σ Q) X.xe s
def UnR (X : Cx) (f : Value → Sem Value) (r : V → Hp → VK → Prop) : Prop :=
  ∀ (pins : List (Addr × Obj)) (s : Shared) (σ : St) (H : Hp) (x : V) (v : Value) (Q : VK), Inv X pins σ H s → RelV x v → r x H Q →
    wpAny (model X.prog X.w) X.A (f v) (EP X pins σ Q) X.xe s
def CallR (X : Cx) (f : Value) (r : List V → Hp → VK → Prop) : Prop :=
  ∀ (pins : List (Addr × Obj)) (s : Shared) (σ : St) (H : Hp) (xs : List V) (us : List Value) (Q : VK), Inv X pins σ H s → Vals xs us → r xs H Q →
    wpAny (model X.prog X.w) X.A (call f us) (EP X pins σ Q) X.xe s
def TruR (X : Cx) (r : V → Hp → (Bool → Hp → Prop) → Prop) : Prop :=
  ∀ (pins : List (Addr × Obj)) (s : Shared) (σ : St) (H : Hp) (x : V) (v : Value) (Q : Bool → Hp → Prop), Inv X pins σ H s → RelV x v → r x H Q →
    wpAny (model X.prog X.w) X.A (truthy v) (TP X pins σ Q) X.xe s
def tOp (r : R2) (ta tb : TE) : TE := fun σ H Q => ta σ H fun x H1 => tb σ H1 fun y H2 => r x y H2 Q
def tUn (r : V → Hp → VK → Prop) (ta : TE) : TE := fun σ H Q => ta σ H fun x H1 => r x H1 Q
def rI (C : Int → Int → Prop) (g : Int → Int → V) : R2 := fun x y H Q => ∃ i j, x = .int i ∧ y = .int j ∧ C i j ∧ Q (g i j) H
def rI0 (g : Int → Int → V) : R2 := fun x y H Q => ∃ i j, x = .int i ∧ y = .int j ∧ Q (g i j) H
def rU (g : Int → V) : V → Hp → VK → Prop := fun x H Q => ∃ i, x = .int i ∧ Q (g i) H
section
variable {X : Cx} {a b c : Expr} {ta tb tc : TE} {pos : Pos}
theorem binT (ha : PE X a ta) (hb : PE X b tb) {pins : List (Addr × Obj)} {s : Shared} {σ : St} {H : Hp} {R : V → V → Hp → Prop} (I : Inv X pins σ H s)
    (h : ta σ H fun x H1 => tb σ H1 fun y H2 => R x y H2) {Q : Value → Shared → Prop} {f : Value → Value → Sem Value}
    (hf : ∀ v u s2 x y H2, Inv X pins σ H2 s2 → RelV x v → RelV y u → R x y H2 → wpAny (model X.prog X.w) X.A (f v u) Q X.xe s2) :
    wpAny (model X.prog X.w) X.A (eval a X.env) (fun v s₁ => wpAny (model X.prog X.w) X.A (eval b X.env) (fun u s₂ => wpAny (model X.prog X.w) X.A (f v u) Q X.xe s₂) X.xe s₁) X.xe s := by
  refine thn (ha pins s σ H _ I h) fun v s1 ⟨x, H1, I1, r1, q1⟩ => ?_
  refine thn (hb pins s1 σ H1 _ I1 q1) fun u s2 ⟨y, H2, I2, r2, q2⟩ => ?_
  exact hf v u s2 x y H2 I2 r1 r2 q2
theorem pe_op {op : Operator} {r : R2} (ho : OpR X (binaryOp op) r) (ha : PE X a ta) (hb : PE X b tb) : PE X (.BinOp a op b pos) (tOp r ta tb) := by
  intro pins s σ H Q I h
  exact wpAny_BinOp (binT ha hb I h fun v u s2 x y H2 I2 rx ry q => ho pins s2 σ H2 x y v u Q I2 rx ry q)
theorem pe_un {op : UnaryOp} {r : V → Hp → VK → Prop} (ho : UnR X (unaryOp op) r) (ha : PE X a ta) : PE X (.UnaryOp op a pos) (tUn r ta) := by
  intro pins s σ H Q I h
  exact UnaryOp_ (thn (ha pins s σ H _ I h) fun v s1 ⟨x, H1, I1, r1, q1⟩ => ho pins s1 σ H1 x v Q I1 r1 q1)
theorem opI {f : Value → Value → Sem Value} {C : Int → Int → Prop} {g : Int → Int → Int}
    (rule : ∀ (i j : Int) (t u : Tok) (s : Shared) (Q : Value → Shared → Prop) (E : Value → Shared → Prop), C i j → Q (.int (g i j) s.toks) { s with toks := s.toks + 1 } → wpAny (model X.prog X.w) X.A (f (.int i t) (.int j u)) Q E s) :
    OpR X f (rI C fun i j => .int (g i j)) := by
  intro pins s σ H x y v u Q I rx ry h
  obtain ⟨i, j, rfl, rfl, hc, q⟩ := h
  obtain ⟨t, rfl⟩ := rx
  obtain ⟨t', rfl⟩ := ry
  exact rule i j t t' s _ _ hc ⟨.int (g i j), H, I.tok _, ⟨_, rfl⟩, q⟩
theorem opI0 {f : Value → Value → Sem Value} {g : Int → Int → Int}
    (rule : ∀ (i j : Int) (t u : Tok) (s : Shared) (Q : Value → Shared → Prop) (E : Value → Shared → Prop), Q (.int (g i j) s.toks) { s with toks := s.toks + 1 } → wpAny (model X.prog X.w) X.A (f (.int i t) (.int j u)) Q E s) :
    OpR X f (rI0 fun i j => .int (g i j)) := by
  intro pins s σ H x y v u Q I rx ry h
  obtain ⟨i, j, rfl, rfl, q⟩ := h
  obtain ⟨t, rfl⟩ := rx
  obtain ⟨t', rfl⟩ := ry
  exact rule i j t t' s _ _ ⟨.int (g i j), H, I.tok _, ⟨_, rfl⟩, q⟩
theorem opB0 {f : Value → Value → Sem Value} {g : Int → Int → Bool}
    (rule : ∀ (i j : Int) (t u : Tok) (s : Shared) (Q : Value → Shared → Prop) (E : Value → Shared → Prop), Q (.bool (g i j)) s → wpAny (model X.prog X.w) X.A (f (.int i t) (.int j u)) Q E s) :
    OpR X f (rI0 fun i j => .bl (g i j)) := by
  intro pins s σ H x y v u Q I rx ry h
  obtain ⟨i, j, rfl, rfl, q⟩ := h
  obtain ⟨t, rfl⟩ := rx
  obtain ⟨t', rfl⟩ := ry
  exact rule i j t t' s _ _ ⟨.bl (g i j), H, I, rfl, q⟩
def CDiv (i j : Int) : Prop := 0 < j ∧ j < 1073741824
def CMul (i j : Int) : Prop := (-(2 ^ 64) < i ∧ i < 2 ^ 64) ∨ (-(2 ^ 64) < j ∧ j < 2 ^ 64)
theorem CMul.ok {i j : Int} (h : CMul i j) : IntMulOk i j := by
  rcases h with ⟨h1, h2⟩ | ⟨h1, h2⟩
  · exact .of_left (intBits_le_64 h1 h2)
  · exact .of_right (intBits_le_64 h1 h2)
theorem op_add : OpR X (binaryOp .Add) (rI0 fun i j => .int (i + j)) := opI0 fun _ _ _ _ _ _ _ q => add_int q
theorem op_sub : OpR X (binaryOp .Sub) (rI0 fun i j => .int (i - j)) := opI0 fun _ _ _ _ _ _ _ q => sub_int q
theorem op_mul : OpR X (binaryOp .Mult) (rI CMul fun i j => .int (i * j)) := opI fun _ _ _ _ _ _ _ hc q => mul_int q hc.ok
theorem op_fdiv : OpR X (binaryOp .FloorDiv) (rI CDiv fun i j => .int (i / j)) := opI fun i j _ _ _ _ _ hc q => by
  have h1 : (0 : Int) < j := hc.1
  have h2 : j < 1073741824 := hc.2
  exact floordiv_int (by omega) (by rw [Int.fdiv_eq_ediv_of_nonneg i (by omega)]; exact q) (.inl (PyProof.noPylong_small (by omega)))
theorem op_mod : OpR X (binaryOp .Mod) (rI (fun _ j => 0 < j) fun i j => .int (i % j)) := opI fun i j _ _ _ _ _ hc q => by
  have h1 : (0 : Int) < j := hc
  exact mod_int' (by omega) (by rw [Int.fmod_eq_emod_of_nonneg i (by omega)]; exact q)
theorem unI {f : Value → Sem Value} {g : Int → Int}
    (rule : ∀ (i : Int) (t : Tok) (s : Shared) (Q : Value → Shared → Prop) (E : Value → Shared → Prop), Q (.int (g i) s.toks) { s with toks := s.toks + 1 } → wpAny (model X.prog X.w) X.A (f (.int i t)) Q E s) :
    UnR X f (rU fun i => .int (g i)) := by
  intro pins s σ H x v Q I rx h
  obtain ⟨i, rfl, q⟩ := h
  obtain ⟨t, rfl⟩ := rx
  exact rule i t s _ _ ⟨.int (g i), H, I.tok _, ⟨_, rfl⟩, q⟩
theorem un_neg : UnR X (unaryOp .USub) (rU fun i => .int (-i)) := unI fun _ _ _ _ _ q => neg_int q
end
def scal : V → V → Bool
  | .non, .non => true | .non, .int _ => true | .int _, .non => true | .non, .bl _ => true | .bl _, .non => true | .non, .str _ => true | .str _, .non => true
  | .int _, .int _ => true | .bl _, .bl _ => true | .str _, .str _ => true | .byt _, .byt _ => true
  | .int _, .str _ => true | .str _, .int _ => true | .bl _, .str _ => true | .str _, .bl _ => true
  | _, _ => false
def rEq : R2 := fun x y H Q => scal x y = true ∧ Q (.bl (decide (x = y))) H
def rNe : R2 := fun x y H Q => scal x y = true ∧ Q (.bl (!decide (x = y))) H
theorem dec_int {i j : Int} : decide (V.int i = V.int j) = (i == j) := by
  rw [Bool.eq_iff_iff]
  simp
theorem dec_bl {i j : Bool} : decide (V.bl i = V.bl j) = (i == j) := by
  rw [Bool.eq_iff_iff]
  simp
theorem dec_str {i j : Str} : decide (V.str i = V.str j) = (i == j) := by
  rw [Bool.eq_iff_iff]
  simp
theorem dec_byt {i j : Array UInt8} : decide (V.byt i = V.byt j) = (i.toList == j.toList) := by
  rw [Bool.eq_iff_iff]
  cases i
  cases j
  simp
section
variable {X : Cx} {a b c : Expr} {ta tb tc : TE} {pos : Pos}
theorem fin_bl {pins : List (Addr × Obj)} {σ : St} {H : Hp} {s : Shared} {Q : VK} {k k' : Bool} (I : Inv X pins σ H s) (q : Q (.bl k) H) (e : k = k') : EP X pins σ Q (.bool k') s := by
  subst e
  exact ⟨.bl k, H, I, rfl, q⟩
theorem op_eq : OpR X (compareOp .Eq) rEq := by
  intro pins s σ H x y v u Q I rx ry h
  obtain ⟨hs, q⟩ := h
  cases x with
  | non =>
    cases rx
    cases y with
    | non => cases ry; exact PySem.EqNone.eq_none_none (fin_bl I q (by simp))
    | bl j => cases ry; exact PySem.EqNone.eq_none_bool (fin_bl I q (by simp))
    | int j => obtain ⟨t', rfl⟩ := ry; exact PySem.EqNone.eq_none_int (fin_bl I q (by simp))
    | str j => obtain ⟨t', rfl⟩ := ry; exact PySem.EqNone.eq_none_str (fin_bl I q (by simp))
    | _ => exact absurd (show false = true from hs) Bool.false_ne_true
  | bl i =>
    cases rx
    cases y with
    | non => cases ry; exact PySem.EqNone.eq_bool_none (fin_bl I q (by simp))
    | bl j => cases ry; exact eq_bool (fin_bl I q dec_bl)
    | str j => obtain ⟨t', rfl⟩ := ry; exact PySem.EqMixed.eq_bool_str (fin_bl I q (by simp))
    | _ => exact absurd (show false = true from hs) Bool.false_ne_true
  | int i =>
    obtain ⟨t, rfl⟩ := rx
    cases y with
    | non => cases ry; exact PySem.EqNone.eq_int_none (fin_bl I q (by simp))
    | int j => obtain ⟨t', rfl⟩ := ry; exact eq_int (fin_bl I q dec_int)
    | str j => obtain ⟨t', rfl⟩ := ry; exact PySem.EqMixed.eq_int_str (fin_bl I q (by simp))
    | _ => exact absurd (show false = true from hs) Bool.false_ne_true
  | str i =>
    obtain ⟨t, rfl⟩ := rx
    cases y with
    | non => cases ry; exact PySem.EqNone.eq_str_none (fin_bl I q (by simp))
    | bl j => cases ry; exact PySem.EqMixed.eq_str_bool (fin_bl I q (by simp))
    | int j => obtain ⟨t', rfl⟩ := ry; exact PySem.EqMixed.eq_str_int (fin_bl I q (by simp))
    | str j => obtain ⟨t', rfl⟩ := ry; exact eq_str (fin_bl I q dec_str)
    | _ => exact absurd (show false = true from hs) Bool.false_ne_true
  | byt i =>
    obtain ⟨t, rfl⟩ := rx
    cases y with
    | byt j => obtain ⟨t', rfl⟩ := ry; exact PySem.W.eq_bytes (fin_bl I q dec_byt)
    | _ => exact absurd (show false = true from hs) Bool.false_ne_true
  | _ => cases y <;> exact absurd (show false = true from hs) Bool.false_ne_true
theorem op_ne : OpR X (compareOp .NotEq) rNe := by
  intro pins s σ H x y v u Q I rx ry h
  obtain ⟨hs, q⟩ := h
  cases x with
  | non =>
    cases rx
    cases y with
    | non => cases ry; exact PySem.EqNone.ne_none_none (fin_bl I q (by simp))
    | bl j => cases ry; exact PySem.EqNone.ne_none_bool (fin_bl I q (by simp))
    | int j => obtain ⟨t', rfl⟩ := ry; exact PySem.EqNone.ne_none_int (fin_bl I q (by simp))
    | str j => obtain ⟨t', rfl⟩ := ry; exact PySem.EqNone.ne_none_str (fin_bl I q (by simp))
    | _ => exact absurd (show false = true from hs) Bool.false_ne_true
  | bl i =>
    cases rx
    cases y with
    | non => cases ry; exact PySem.EqNone.ne_bool_none (fin_bl I q (by simp))
    | bl j => cases ry; exact ne_bool (fin_bl I q (congrArg not dec_bl))
    | str j => obtain ⟨t', rfl⟩ := ry; exact PySem.EqMixed.ne_bool_str (fin_bl I q (by simp))
    | _ => exact absurd (show false = true from hs) Bool.false_ne_true
  | int i =>
    obtain ⟨t, rfl⟩ := rx
    cases y with
    | non => cases ry; exact PySem.EqNone.ne_int_none (fin_bl I q (by simp))
    | int j => obtain ⟨t', rfl⟩ := ry; exact ne_int (fin_bl I q (congrArg not dec_int))
    | str j => obtain ⟨t', rfl⟩ := ry; exact PySem.EqMixed.ne_int_str (fin_bl I q (by simp))
    | _ => exact absurd (show false = true from hs) Bool.false_ne_true
  | str i =>
    obtain ⟨t, rfl⟩ := rx
    cases y with
    | non => cases ry; exact PySem.EqNone.ne_str_none (fin_bl I q (by simp))
    | bl j => cases ry; exact PySem.EqMixed.ne_str_bool (fin_bl I q (by simp))
    | int j => obtain ⟨t', rfl⟩ := ry; exact PySem.EqMixed.ne_str_int (fin_bl I q (by simp))
    | str j => obtain ⟨t', rfl⟩ := ry; exact ne_str (fin_bl I q (congrArg not dec_str))
    | _ => exact absurd (show false = true from hs) Bool.false_ne_true
  | byt i =>
    obtain ⟨t, rfl⟩ := rx
    cases y with
    | byt j => obtain ⟨t', rfl⟩ := ry; exact PySem.W.ne_bytes (fin_bl I q (congrArg not dec_byt))
    | _ => exact absurd (show false = true from hs) Bool.false_ne_true
  | _ => cases y <;> exact absurd (show false = true from hs) Bool.false_ne_true
theorem op_lt : OpR X (compareOp .Lt) (rI0 fun i j => .bl (decide (i < j))) := opB0 fun _ _ _ _ _ _ _ q => lt_int q
theorem op_le : OpR X (compareOp .LtE) (rI0 fun i j => .bl (decide (i ≤ j))) := opB0 fun _ _ _ _ _ _ _ q => le_int q
theorem op_gt : OpR X (compareOp .Gt) (rI0 fun i j => .bl (decide (j < i))) := opB0 fun _ _ _ _ _ _ _ q => gt_int q
theorem op_ge : OpR X (compareOp .GtE) (rI0 fun i j => .bl (decide (j ≤ i))) := opB0 fun _ _ _ _ _ _ _ q => ge_int q
theorem op_isN : OpR X (compareOp .Is) (fun x y H Q => y = .non ∧ Q (.bl (decide (x = .non))) H) := by
  intro pins s σ H x y v u Q I rx ry h
  obtain ⟨rfl, q⟩ := h
  cases ry
  refine is_none_gen (fin_bl I q ?_)
  cases x <;> first
    | (cases rx; rfl)
    | (obtain ⟨t, rfl⟩ := rx; rfl)
theorem op_notN : OpR X (compareOp .IsNot) (fun x y H Q => y = .non ∧ Q (.bl (!decide (x = .non))) H) := by
  intro pins s σ H x y v u Q I rx ry h
  obtain ⟨rfl, q⟩ := h
  cases ry
  refine isnot_none_gen (fin_bl I q ?_)
  cases x <;> first
    | (cases rx; rfl)
    | (obtain ⟨t, rfl⟩ := rx; rfl)
theorem nomark (b : Expr) {op : CmpOp} (h : op ≠ .In := by decide) (h2 : op ≠ .NotIn := by decide) : behindInMarks op b = false := by
  have e1 : (op == CmpOp.In) = false := by cases op <;> first | rfl | exact absurd rfl h
  have e2 : (op == CmpOp.NotIn) = false := by cases op <;> first | rfl | exact absurd rfl h2
  cases b <;> simp [behindInMarks, e1, e2]
theorem pe_cmpR {op : CmpOp} {r : R2} (ho : OpR X (compareOp op) r) (ha : PE X a ta) (hb : PE X b tb) (hm : behindInMarks op b = false) : PE X (.Compare a [op] [b] pos) (tOp r ta tb) := by
  intro pins s σ H Q I h
  exact wpAny_Compare1 (binT ha hb I h fun v u s2 x y H2 I2 rx ry q => ho pins s2 σ H2 x y v u Q I2 rx ry q) hm
def tTest (t : TE) : TT := fun σ H Q => t σ H fun x H' => ∃ k, x = .bl k ∧ Q k H'
theorem pt_cmpR {op : CmpOp} {r : R2} (ho : OpR X (compareOp op) r) (ha : PE X a ta) (hb : PE X b tb) (hm : behindInMarks op b = false) : PT X (.Compare a [op] [b] pos) (tTest (tOp r ta tb)) := by
  intro pins s σ H Q I h
  refine wpAny_isTrue_Compare1 (thn (ha pins s σ H _ I h) fun v s1 ⟨x, H1, I1, r1, q1⟩ => thn (hb pins s1 σ H1 _ I1 q1) fun u s2 ⟨y, H2, I2, r2, q2⟩ =>
    thn (ho pins s2 σ H2 x y v u _ I2 r1 r2 q2) fun c s3 ⟨z, H3, I3, r3, k, e, q3⟩ => ?_) hm
  subst e
  cases r3
  exact wpAny_truthy_bool ⟨H3, I3, q3⟩
def TruV (K : PySem.W.Frag) (x : V) (H : Hp) (k : Bool) : Prop :=
  match x with
  | .non => k = false
  | .bl b => k = b
  | .int i => k = (i != 0)
  | .str y => y.length ≤ sizeLine ∧ k = ((y.length : Int) != 0)
  | .byt y => y.size ≤ sizeLine ∧ k = ((y.size : Int) != 0)
  | .ref p => (∃ xs, SqL K H p xs ∧ k = !xs.isEmpty) ∨ (∃ xs, SqT K H p xs ∧ k = !xs.isEmpty) ∨ ∃ kvs, H p = some (.dK kvs) ∧ k = !kvs.isEmpty
  | _ => False
theorem isEmpty_kv {κ : Type} {kvs : List (κ × V)} {vs : List (κ × Value)} (r : KV kvs vs) : (!vs.isEmpty) = !kvs.isEmpty := by
  cases r <;> rfl
theorem isEmpty_of {xs : List V} {its : List Value} (r : Vals xs its) : (!its.toArray.isEmpty) = !xs.isEmpty := by
  cases r <;> simp
theorem line63 : (sizeLine : Nat) < 2 ^ 63 := by rw [sizeLine_eq]; decide
theorem tru_ok : TruR X (fun x H Q => ∃ k, TruV X.K x H k ∧ Q k H) := by
  intro pins s σ H x v Q I rx h
  obtain ⟨k, e, q⟩ := h
  have hl := line63
  have hs : sizeLine = 16777216 := sizeLine_eq
  cases x with
  | non =>
    cases rx
    have e' : k = false := e
    subst e'
    exact truthy_none ⟨H, I, q⟩
  | bl b =>
    cases rx
    have e' : k = b := e
    subst e'
    exact wpAny_truthy_bool ⟨H, I, q⟩
  | int i =>
    obtain ⟨t, rfl⟩ := rx
    have e' : k = (i != 0) := e
    subst e'
    exact PySem.P.truthy_int ⟨H, I, q⟩
  | str y =>
    obtain ⟨t, rfl⟩ := rx
    obtain ⟨hy, e'⟩ : y.length ≤ sizeLine ∧ k = ((y.length : Int) != 0) := e
    subst e'
    exact PySem.P.truthy_str (by omega) ⟨H, I.tok _, q⟩
  | byt y =>
    obtain ⟨t, rfl⟩ := rx
    obtain ⟨hy, e'⟩ : y.size ≤ sizeLine ∧ k = ((y.size : Int) != 0) := e
    subst e'
    exact PySem.W.truthy_bytes (by omega) ⟨H, I.tok _, q⟩
  | ref p =>
    cases rx
    have e' : (∃ xs, SqL X.K H p xs ∧ k = !xs.isEmpty) ∨ (∃ xs, SqT X.K H p xs ∧ k = !xs.isEmpty) ∨ ∃ kvs, H p = some (.dK kvs) ∧ k = !kvs.isEmpty := e
    rcases e' with ⟨xs, hx, e'⟩ | ⟨xs, hx, e'⟩ | ⟨kvs, hx, e'⟩
    · subst e'
      obtain ⟨its, r, pl, hz⟩ := I.list hx
      have hlen := r.length
      exact wpAny_truthy_list pl.isList (by simp only [List.size_toArray]; omega) ⟨H, I.tok _, by rw [isEmpty_of r]; exact q⟩
    · subst e'
      obtain ⟨its, r, pl, hz⟩ := I.tuple hx
      have hlen := r.length
      exact truthy_tuple pl (by simp only [List.size_toArray]; omega) ⟨H, I.tok _, by rw [isEmpty_of r]; exact q⟩
    · subst e'
      obtain ⟨hz, hS, vs, r, m⟩ : kvs.length ≤ sizeLine ∧ (p == sysModules) = false ∧ ∃ vs, KV kvs vs ∧ s.heap.DictOf (mixKind X.prog X.w) p vs := I.hok p _ hx
      have hlen : kvs.length = vs.length := Paired.length r
      exact wpAny_truthy_dict hS m (by omega) ⟨H, I.tok _, by rw [isEmpty_kv r]; exact q⟩
  | _ => exact (show False from e).elim
theorem pt_truth (ha : PE X a ta) (he : ∀ whole, isTrue a X.env whole = (do let v ← whole; standAt a.pos; holding [v] (truthy v))) :
    PT X a (fun σ H Q => ta σ H fun x H' => ∃ k, TruV X.K x H' k ∧ Q k H') := by
  intro pins s σ H Q I h
  exact isTrue_plain (thn (ha pins s σ H _ I h) fun v s1 ⟨x, H1, I1, r1, q1⟩ => tru_ok pins s1 σ H1 x v Q I1 r1 q1) (he _)
theorem vals1 {x : V} {us : List Value} (r : Vals [x] us) : ∃ u, us = [u] ∧ RelV x u := by
  cases r with
  | cons r1 r2 => cases r2; exact ⟨_, rfl, r1⟩
theorem vals2 {x y : V} {us : List Value} (r : Vals [x, y] us) : ∃ u w', us = [u, w'] ∧ RelV x u ∧ RelV y w' := by
  cases r with
  | cons r1 r2 =>
    cases r2 with
    | cons r3 r4 => cases r4; exact ⟨_, _, rfl, r1, r3⟩
theorem call_max2 (hc : X.calm = true) : CallR X (.builtin "max") (fun xs H Q => ∃ i j, xs = [.int i, .int j] ∧ Q (.int (if j > i then j else i)) H) := by
  intro pins s σ H xs us Q I r h
  obtain ⟨i, j, rfl, q⟩ := h
  obtain ⟨u, w', rfl, ⟨t, rfl⟩, ⟨t', rfl⟩⟩ := vals2 r
  refine max_two_ints (I.ok.hd hc) fun h' tk k => ⟨_, H, I.kept k, ?_, q⟩
  by_cases hj : j > i
  · rw [if_pos hj, if_pos hj]; exact ⟨_, rfl⟩
  · rw [if_neg hj, if_neg hj]; exact ⟨_, rfl⟩
end
end L2
namespace L2
open PySem PySem.Spec PyProof.Rows
structure ObjM (h : Heap) (x dx C : Addr) (mA : Str → Option Value) : Prop where
  obj : h.get? x = some (PySem.W.instObj C dx)
  ns : h.Ns1 dx mA
  ne : dx ≠ x
theorem lookIn_ns {h : Heap} {dx : Addr} {mA : Str → Option Value} (n : h.Ns1 dx mA) : ∃ od, h.get? dx = some od ∧ ∀ name, PySem.W.lookIn name od = some (mA name) := by
  obtain ⟨o, es, ep, ho, hd, hk, _, hm⟩ := n
  refine ⟨o, ho, fun name => ?_⟩
  have e := hm name
  unfold nsFind findBy at e
  rw [← Array.find?_toList] at e
  unfold PySem.W.lookIn
  rw [hd]
  dsimp only
  split
  · rename_i y q
    rw [q] at e
    exact congrArg some e
  · rename_i q
    rw [q] at e
    have a : es.toList.any (·.refKey) = false := by
      rw [List.any_eq_false]
      intro y hy
      obtain ⟨z, t, hkey⟩ := hk y (Array.mem_toList_iff.mp hy)
      simp [DictEntry.refKey, hkey]
    have a' : ¬ es.toList.any (·.refKey) = true := by rw [a]; exact Bool.false_ne_true
    rw [if_neg a']
    exact congrArg some e
theorem ObjM.look {h : Heap} {x dx C : Addr} {mA : Str → Option Value} (I : ObjM h x dx C mA) : ∃ od, PySem.W.InstAt h x (PySem.W.instObj C dx) C (some od) ∧ ∀ name, PySem.W.lookIn name od = some (mA name) :=
  let ⟨od, ho, hl⟩ := lookIn_ns I.ns
  ⟨od, ⟨I.obj, rfl, rfl, ho⟩, hl⟩
section
variable {prog : Program} {w : World} {A : Around} {E : Value → Shared → Prop} {s : Shared} {K : PySem.W.Frag} {x dx C f : Addr} {mA : Str → Option Value} {name : Str} {v : Value}
theorem get_map {expr : Bool} {Q : Value → Shared → Prop} (X : K.In s.heap) (I : ObjM s.heap x dx C mA) (hg : PySem.W.plainGet K C name = true) (hh : PySem.W.hasDictIn K C = true)
    (ha : PySem.W.findIn K (.ref C) name = some none) (hv : mA name = some v) (hv' : PySem.W.handedIn v = true) (h : Q v { s with toks := s.toks + 1 }) :
    wpAny (model prog w) A (getAttr (.ref x) name expr) Q E s := by
  obtain ⟨od, J, hl⟩ := I.look
  exact PySem.W.get_value X J (PySem.W.plainGet_of hg).1 (PySem.W.findObj_own hh ha rfl (by rw [hl, hv])) hv' h
theorem get_meth {pl : Sem Bool} {Q : Value × List Value → Shared → Prop} (X : K.In s.heap) (I : ObjM s.heap x dx C mA) (hg : PySem.W.plainGet K C name = true)
    (hf : PySem.W.findIn K (.ref C) name = some (some (.ref f))) (ht : PySem.W.isFn K (.ref f) = true) (hv : mA name = none) (h : Q (.ref f, [.ref x]) s) :
    wpAny (model prog w) A (getMethod (.ref x) name pl) Q E s := by
  obtain ⟨od, J, hl⟩ := I.look
  exact PySem.W.method_fn X J (PySem.W.plainGet_of hg).1 (PySem.W.plainGet_of hg).2 hf (beq_iff_eq.mp ht) (by show (PySem.W.lookIn name od).map (·.isSome) = some false; rw [hl, hv]; rfl) h
theorem set_map {ns : List Str} {Q : Unit → Shared → Prop} (X : K.In s.heap) (I : ObjM s.heap x dx C mA)
    (hs : PySem.W.findIn K (.ref C) "__setattr__" = some (some (.builtin "object.__setattr__"))) (hp : PySem.W.plainOver K C = true) (ht : PySem.W.takerIn K C name = some none) (hh : PySem.W.hasDictIn K C = true)
    (hw : PySem.Within mA ns) (hsz : ns.length ≤ sizeLine)
    (h : ∀ h', ObjM h' x dx C (fun y => if y = name then some v else mA y) → Heap.SameBut dx s.heap h' → Q () { s with heap := h', toks := s.toks + 2 }) :
    wpAny (model prog w) A (setAttr (.ref x) name v) Q E s := by
  obtain ⟨od, J, hl⟩ := I.look
  refine PySem.W.set_plain X J hs (PySem.W.osa_open (s := { s with toks := s.toks + 1 }) (r := none) X J hp ht fun b => ?_)
  obtain ⟨cd, hc, hd'⟩ := PySem.W.any_some hh
  have hx : s.heap.get? x = some ⟨.ref C, some dx, .plain, #[]⟩ := I.obj
  refine wpAny_bind (wpAny_pure (wpAny_bind (wpAny_bind (wpAny_loadPart hx (wpAny_bind (PySem.W.Looks.here (s := { s with toks := s.toks + 1 }) (PySem.W.looks_clsIn X hc) ?_))))))
  rw [hd']
  refine wpAny_pure (a := some dx) (wpAny_bind (wpAny_pure (wpAny_bind ?_)))
  refine wpAny_nsSet1 (s := { s with toks := s.toks + 1 }) I.ns fun h' hn2 hs2 => ?_
  obtain ⟨oD, esD, epD, hoD, hdD, hcD⟩ := hn2.count (PySem.Within.cons name v hw)
  refine wpAny_bind (wpAny_lookBehind hoD (by rw [hdD]; exact pastItsLine_dict (Nat.le_trans hcD (by rw [List.length_cons]; omega))) ?_)
  exact wpAny_pure (h _ ⟨(hs2.2 _ (Ne.symm I.ne)).trans I.obj, hn2, I.ne⟩ hs2)
theorem make_map {R : Result → Shared → Prop} {vs : List Value} {kw : List (Str × Value)} (X : K.In s.heap) (hm : PySem.W.makesIn K C = true)
    (hi : PySem.W.findIn K (.ref C) "__init__" = some (some (.ref f))) (hf : PySem.W.typeIn K (.ref f) = some (.type "function"))
    (h : codeAny (model prog w) (A.under (.builtin "type.__call__" ⟨.ref C :: vs, kw⟩)) (.call (.ref f) ⟨.ref (s.heap.objs.size + 1) :: vs, kw⟩) (PySem.W.InitBack (s.heap.objs.size + 1) R)
      { s with heap := (s.heap.push PySem.W.emptyDict).push (PySem.W.instObj C s.heap.objs.size) }) :
    codeAny (model prog w) A (.call (.ref C) ⟨vs, kw⟩) R s := by
  obtain ⟨hh, g, d, t, os⟩ := s
  exact PySem.W.make_core (PySem.W.makes_of X hm) (PySem.W.looks_findIn X hi) (fun self => PySem.W.bind_fn X self hf) (.inl rfl) h
end
def putF (f : Str) (v : V) : List (Str × V) → List (Str × V)
  | [] => [(f, v)]
  | (g, x) :: r => if g = f then (g, v) :: r else (g, x) :: putF f v r
theorem lookup_putF (f g : Str) (v : V) : ∀ fs : List (Str × V), (putF f v fs).lookup g = if g = f then some v else fs.lookup g
  | [] => by
    show List.lookup g [(f, v)] = _
    by_cases h : g = f
    · have hb : (g == f) = true := beq_iff_eq.mpr h
      simp only [List.lookup, hb, if_pos h]
    · have hb : (g == f) = false := beq_eq_false_iff_ne.mpr h
      simp only [List.lookup, hb, if_neg h]
  | (k, x) :: r => by
    have ih := lookup_putF f g v r
    rw [show putF f v ((k, x) :: r) = (if k = f then (k, v) :: r else (k, x) :: putF f v r) from rfl]
    by_cases hk : k = f
    · rw [if_pos hk]
      by_cases h : g = k
      · have hb : (g == k) = true := beq_iff_eq.mpr h
        simp only [List.lookup, hb, if_pos (h.trans hk)]
      · have hb : (g == k) = false := beq_eq_false_iff_ne.mpr h
        simp only [List.lookup, hb, if_neg (fun e : g = f => h (e.trans hk.symm))]
    · rw [if_neg hk]
      by_cases h : g = k
      · have hb : (g == k) = true := beq_iff_eq.mpr h
        simp only [List.lookup, hb, if_neg (fun e : g = f => hk (h.symm.trans e))]
      · have hb : (g == k) = false := beq_eq_false_iff_ne.mpr h
        simp only [List.lookup, hb]
        exact ih
theorem keys_putF (f : Str) (v : V) : ∀ fs : List (Str × V), f ∈ (putF f v fs).map (·.1) ∧ ∀ g, g ∈ fs.map (·.1) → g ∈ (putF f v fs).map (·.1)
  | [] => ⟨by simp [putF], fun g h => by simp at h⟩
  | (k, x) :: r => by
    obtain ⟨i1, i2⟩ := keys_putF f v r
    rw [show putF f v ((k, x) :: r) = (if k = f then (k, v) :: r else (k, x) :: putF f v r) from rfl]
    by_cases hk : k = f
    · rw [if_pos hk]
      subst hk
      exact ⟨by simp, fun g h => by simpa using h⟩
    · rw [if_neg hk]
      refine ⟨?_, fun g h => ?_⟩
      · rw [List.map_cons]
        exact List.mem_cons_of_mem _ i1
      · rw [List.map_cons] at h ⊢
        rcases List.mem_cons.mp h with e | e
        · exact List.mem_cons.mpr (.inl e)
        · exact List.mem_cons_of_mem _ (i2 g e)
theorem length_putF (f : Str) (v : V) : ∀ fs : List (Str × V), (putF f v fs).length ≤ fs.length + 1
  | [] => by simp [putF]
  | (k, x) :: r => by
    have ih := length_putF f v r
    rw [show putF f v ((k, x) :: r) = (if k = f then (k, v) :: r else (k, x) :: putF f v r) from rfl]
    by_cases hk : k = f
    · rw [if_pos hk, List.length_cons, List.length_cons]; omega
    · rw [if_neg hk, List.length_cons, List.length_cons]; omega
theorem RelO.some_of {v : V} {o : Option Value} (r : RelO (some v) o) : ∃ u, o = some u ∧ RelV v u := by
  cases o with
  | none => exact (show False from r).elim
  | some u => exact ⟨u, rfl, r⟩
theorem RelO.none_of {o : Option Value} (r : RelO none o) : o = none := by
  cases o with
  | none => rfl
  | some u => exact (show False from r).elim
theorem handed_of {v : V} {u : Value} (r : RelV v u) : PySem.W.handedIn u = true := by
  cases v with
  | non => cases (show u = Value.none from r); rfl
  | bl b => cases (show u = Value.bool b from r); rfl
  | int i => obtain ⟨t, e⟩ := (show ∃ t, u = Value.int i t from r); cases e; rfl
  | str x => obtain ⟨t, e⟩ := (show ∃ t, u = Value.str x t from r); cases e; rfl
  | byt b => obtain ⟨t, e⟩ := (show ∃ t, u = Value.bytes b t from r); cases e; rfl
  | flt b => obtain ⟨t, e⟩ := (show ∃ t, u = Value.float b t from r); cases e; rfl
  | ref a => cases (show u = Value.ref a from r); rfl
  | ty n => cases (show u = Value.type n from r); rfl
section
variable {P : Program} {w : World} {H H' : Hp} {h h' : Heap} {a C dx : Addr} {fs fs' : List (Str × V)}
theorem ins_get (hok : HOk P w H h) (e : H a = some (.ins C dx fs)) : ∃ mA, ObjM h a dx C mA ∧ (∀ f, RelO (fs.lookup f) (mA f)) ∧ PySem.Within mA (fs.map (·.1)) ∧ fs.length ≤ 1000 ∧ H dx = some (.own a) := by
  obtain ⟨d, z, ne, ob, mA, n, r, q⟩ := (show ObjOk P w H h a (.ins C dx fs) from hok a _ e)
  exact ⟨mA, ⟨ob, n, ne⟩, r, q, z, d⟩
end
structure Cls (K : PySem.W.Frag) (C : Addr) : Prop where
  pg : PySem.W.plainGet K C Str.empty = true
  hd : PySem.W.hasDictIn K C = true
  po : PySem.W.plainOver K C = true
  sa : PySem.W.findIn K (.ref C) "__setattr__" = some (some (.builtin "object.__setattr__"))
theorem Cls.get {K : PySem.W.Frag} {C : Addr} (c : Cls K C) (f : Str) : PySem.W.plainGet K C f = true := c.pg
def NoAttr (K : PySem.W.Frag) (C : Addr) (f : Str) : Prop := PySem.W.findIn K (.ref C) f = some none
theorem NoAttr.taker {K : PySem.W.Frag} {C : Addr} {f : Str} (n : NoAttr K C f) : PySem.W.takerIn K C f = some none := by
  unfold PySem.W.takerIn
  rw [show PySem.W.findIn K (.ref C) f = some none from n]
  rfl
structure Meth (K : PySem.W.Frag) (C : Addr) (m : Str) (f : Addr) : Prop where
  at_ : PySem.W.findIn K (.ref C) m = some (some (.ref f))
  fn : PySem.W.isFn K (.ref f) = true
  kp : PySem.W.keepIn K (.ref f) = true
section
variable {X : Cx} {pins : List (Addr × Obj)} {σ : St} {H : Hp} {s : Shared} {a C dx : Addr} {fs : List (Str × V)} {f : Str} {v : V} {A : Around} {E : Value → Shared → Prop}
theorem getattr_ok {b : Bool} {Q : Value → Shared → Prop} (I : Inv X pins σ H s) (e : H a = some (.ins C dx fs)) (c : Cls X.K C) (n : NoAttr X.K C f) (l : fs.lookup f = some v)
    (h : ∀ u s', Inv X pins σ H s' → RelV v u → Q u s') : wpAny (model X.prog X.w) A (getAttr (.ref a) f b) Q E s := by
  obtain ⟨mA, O, r, _, _, _⟩ := ins_get I.hok e
  obtain ⟨u, hu, ru⟩ := RelO.some_of (v := v) (o := mA f) (by rw [← l]; exact r f)
  exact get_map I.kIn O (c.get f) c.hd n hu (handed_of ru) (h u _ (I.tok _) ru)
theorem getmeth_ok {m : Str} {g : Addr} {pl : Sem Bool} {Q : Value × List Value → Shared → Prop} (I : Inv X pins σ H s) (e : H a = some (.ins C dx fs)) (c : Cls X.K C) (k : Meth X.K C m g) (l : fs.lookup m = none)
    (h : Q (.ref g, [.ref a]) s) : wpAny (model X.prog X.w) A (getMethod (.ref a) m pl) Q E s := by
  obtain ⟨mA, O, r, _, _, _⟩ := ins_get I.hok e
  have hn : mA m = none := RelO.none_of (by rw [← l]; exact r m)
  exact get_meth I.kIn O (c.get m) k.at_ k.fn hn h
theorem setattr_ok {y : V} {u : Value} {Q : Unit → Shared → Prop} (I : Inv X pins σ H s) (e : H a = some (.ins C dx fs)) (c : Cls X.K C) (n : NoAttr X.K C f) (hl : fs.length < 1000) (ry : RelV y u)
    (h : ∀ s', Inv X pins σ (upd H a (.ins C dx (putF f y fs))) s' → Q () s') : wpAny (model X.prog X.w) A (setAttr (.ref a) f u) Q E s := by
  obtain ⟨mA, O, r, wi, _, ho⟩ := ins_get I.hok e
  have hz : (fs.map (·.1)).length ≤ sizeLine := by rw [List.length_map, sizeLine_eq]; omega
  refine set_map I.kIn O c.sa c.po n.taker c.hd wi hz fun h' O' sb => h _ ?_
  have hd : ∃ o, h'.get? dx = some o := let ⟨o, _, _, e', _⟩ := O'.ns; ⟨o, e'⟩
  refine I.write (x := a) (e := dx) (by rw [e]; exact True.intro) (.inr ho) (fun b q hb z => (sb.2 b hb).trans z) hd ?_
  refine ⟨by rw [upd_ne O.ne]; exact ho, ?_, O.ne, O'.obj, _, O'.ns, fun g => ?_, fun g hg => ?_⟩
  · have := length_putF f y fs; omega
  · show RelO ((putF f y fs).lookup g) (if g = f then some u else mA g)
    rw [lookup_putF]
    by_cases q : g = f
    · rw [if_pos q, if_pos q]; exact ry
    · rw [if_neg q, if_neg q]; exact r g
  · by_cases q : g = f
    · rw [q]; exact (keys_putF f y fs).1
    · refine (keys_putF f y fs).2 g (wi g fun z => hg ?_)
      show (if g = f then some u else mA g) = none
      rw [if_neg q]; exact z
theorem Inv.made (I : Inv X pins σ H s) : Inv X pins σ (upd (upd H s.heap.objs.size (.own (s.heap.objs.size + 1))) (s.heap.objs.size + 1) (.ins C s.heap.objs.size []))
    { s with heap := (s.heap.push PySem.W.emptyDict).push (PySem.W.instObj C s.heap.objs.size) } := by
  have e1 : (s.heap.push PySem.W.emptyDict).get? s.heap.objs.size = some PySem.W.emptyDict := Heap.get?_push_size s.heap rfl
  have e2 : ((s.heap.push PySem.W.emptyDict).push (PySem.W.instObj C s.heap.objs.size)).get? (s.heap.objs.size + 1) = some (PySem.W.instObj C s.heap.objs.size) := by
    have := Heap.get?_push_size (s.heap.push PySem.W.emptyDict) (o := PySem.W.instObj C s.heap.objs.size) rfl
    rwa [Heap.size_push] at this
  have e3 : (s.heap.push PySem.W.emptyDict).Ns s.heap.objs.size (fun _ => none) := ⟨PySem.W.emptyDict, #[], _, e1, rfl, (fun e he => absurd he (by simp)), fun _ => rfl⟩
  have I1 := I.laid (a := s.heap.objs.size) (o := .own (s.heap.objs.size + 1)) (h' := s.heap.push PySem.W.emptyDict) (t' := s.toks) (fun b u q => Heap.get?_push_of_some _ q) (Nat.le_refl _) ⟨_, e1⟩
  refine I1.laid (a := s.heap.objs.size + 1) (o := .ins C s.heap.objs.size []) (t' := s.toks) (fun b u q => Heap.get?_push_of_some _ q) (Nat.le_of_eq (Heap.size_push _ _)) ?_
  have ne : s.heap.objs.size ≠ s.heap.objs.size + 1 := Nat.ne_of_lt (Nat.lt_succ_self _)
  refine ⟨by rw [upd_ne ne, upd_same], Nat.zero_le _, ne, e2, fun _ => none, (Heap.Ns1.of_empty e3).at fun o q => Heap.get?_push_of_some _ q, fun _ => True.intro, fun y hy => absurd rfl hy⟩
theorem attr_of {prog : Program} {w : World} {env : Env} {e : Expr} {f : Str} {pos : Pos} {s : Shared} {Q : Value → Shared → Prop} (hb : attributeBase e f env (eval e env) = eval e env)
    (h : wpAny (model prog w) A (eval e env) (fun o s₁ => wpAny (model prog w) A (getAttr o f true) Q E s₁) E s) : wpAny (model prog w) A (eval (.Attribute e f pos) env) Q E s :=
  Attribute_any_ h (by rw [arm_eval_Attribute, hb])
end
def tFld (K : PySem.W.Frag) (ta : TE) (f : Str) : TE := fun σ H Q => ta σ H fun x H1 => ∃ a C dx fs v, x = .ref a ∧ H1 a = some (.ins C dx fs) ∧ Cls K C ∧ NoAttr K C f ∧ fs.lookup f = some v ∧ Q v H1
def sFld (K : PySem.W.Frag) (ta tv : TE) (f : Str) : TS := fun D σ H => tv σ H fun y H1 => ta σ H1 fun x H2 => ∃ a C dx fs, x = .ref a ∧ H2 a = some (.ins C dx fs) ∧ Cls K C ∧ NoAttr K C f ∧ fs.length < 1000 ∧
  D.nx σ (upd H2 a (.ins C dx (putF f y fs)))
section
variable {X : Cx} {o e value : Expr} {f : Str} {pos pos' tpos : Pos} {ta tv : TE}
theorem pe_fld (he : PE X e ta) (hb : attributeBase e f X.env (eval e X.env) = eval e X.env) : PE X (.Attribute e f pos) (tFld X.K ta f) := by
  intro pins s σ H Q I h
  refine attr_of hb (thn (he pins s σ H _ I h) fun u s1 ⟨x, H1, I1, rx, a, C, dx, fs, v, ex, ea, c, n, l, q⟩ => ?_)
  subst ex
  obtain rfl : u = Value.ref a := rx
  exact getattr_ok I1 ea c n l fun u' s2 I2 ru => ⟨v, H1, I2, ru, q⟩
theorem ps_fld (ha : PE X o ta) (hv : PE X value tv) (hs : swapsWith value (some (.Attribute o f pos')) pos.line X.env = pure false) : PS X (.Assign [.Attribute o f pos'] value pos) (sFld X.K ta tv f) := by
  intro pins s σ H D I h
  refine plainObj_wpAny_Assign_Attribute (thn (hv pins s σ H _ I h) fun u s1 ⟨y, H1, I1, ry, q⟩ => thn (ha pins s1 σ H1 _ I1 q) fun ov s2 ⟨x, H2, I2, rx, a, C, dx, fs, ex, ea, c, n, l, q2⟩ => ?_) hs
  subst ex
  obtain rfl : ov = Value.ref a := rx
  exact setattr_ok I2 ea c n l ry fun s3 I3 => ⟨σ, _, I3, q2⟩
theorem methcall_of {pl : Sem Bool} {m : Str} {apos : Pos} {args : List Expr} {pins : List (Addr × Obj)} {s : Shared} {σ : St} {H : Hp} {Q : Value → Shared → Prop} {te : TE} (he : PE X e te) (I : Inv X pins σ H s)
    (h : te σ H fun x H1 => ∃ a C dx fs g, x = .ref a ∧ H1 a = some (.ins C dx fs) ∧ Cls X.K C ∧ Meth X.K C m g ∧ fs.lookup m = none ∧
      ∀ s1, Inv X pins σ H1 s1 → wpAny (model X.prog X.w) X.A (callWith pos (.ref g) [.ref a] (backTo pos (starEach args X.env)) (backToKw pos (keywordEach [] X.env))) Q X.xe s1)
    (ht : eval (.Call (.Attribute e m apos) args [] pos) X.env = (do
      let ov ← eval e X.env
      standAt apos.atName
      let (f, first) ← holding [ov] (getMethod ov m pl)
      callWith pos f first (backTo pos (starEach args X.env)) (backToKw pos (keywordEach [] X.env)))) :
    wpAny (model X.prog X.w) X.A (eval (.Call (.Attribute e m apos) args [] pos) X.env) Q X.xe s := by
  refine PySem.W.methodCall_KW (pl := pl) (thn (he pins s σ H _ I h) fun u s1 ⟨x, H1, I1, rx, a, C, dx, fs, g, ex, ea, c, k, l, q⟩ => ?_) ht
  subst ex
  obtain rfl : u = Value.ref a := rx
  exact getmeth_ok I1 ea c k l (q s1 I1)
end
end L2
namespace L2
open PySem PySem.Spec PyProof.Rows
structure Room (k : Nat) (A : Around) : Prop where
  hd : A.handled = none
  dp : A.depth + 3 * k + 5 < recursionLimit
  un : A.units + 16 * k + 200 < cLine
theorem Room.mono {j k : Nat} {A : Around} (r : Room k A) (h : j ≤ k) : Room j A := ⟨r.hd, by have := r.dp; omega, by have := r.un; omega⟩
theorem Room.deeper {k : Nat} {A : Around} (r : Room (k + 1) A) (env : Env) : Room k (A.deeper env) :=
  ⟨r.hd, by have := r.dp; show A.depth + 1 + 3 * k + 5 < _; omega, by have := r.un; show A.units + 3 + 16 * k + 200 < _; omega⟩
theorem make_depth {A : Around} {C : Addr} {us : List Value} {kw : List (Str × Value)} : (A.under (.builtin "type.__call__" ⟨.ref C :: us, kw⟩)).depth = A.depth + 1 := by
  first | rfl | simp [Around.under, Code.weight, Code.isCreation, Code.isGuard, Code.isCaller, Code.frames, Code.isFrame, guardIds]
theorem make_units {A : Around} {C : Addr} {us : List Value} {kw : List (Str × Value)} : (A.under (.builtin "type.__call__" ⟨.ref C :: us, kw⟩)).units = A.units + 1 := by
  first | rfl | simp [Around.under, Code.cUnits, Code.frames, Code.isFrame]
theorem Room.make {k : Nat} {A : Around} (r : Room (k + 1) A) (C : Addr) (us : List Value) (kw : List (Str × Value)) : Room k (A.under (.builtin "type.__call__" ⟨.ref C :: us, kw⟩)) :=
  ⟨r.hd, by have := r.dp; rw [make_depth]; omega, by have := r.un; rw [make_units]; omega⟩
theorem Room.depth {k : Nat} {A : Around} (r : Room k A) : A.depth < recursionLimit := by have := r.dp; omega
def tNil : TA := fun _ H Q => Q [] H
def tCons (ta : TE) (tr : TA) : TA := fun σ H Q => ta σ H fun x H1 => tr σ H1 fun xs H2 => Q (x :: xs) H2
section
variable {X : Cx} {e : Expr} {es : List Expr} {te : TE} {t : TA} {pos : Pos}
theorem pa_nil : PA X [] tNil := fun _ _ _ _ H Q I h => Calls.spliced_nil ⟨[], H, I, .nil, h⟩
theorem pa_cons (ha : PE X e te) (hr : PA X es t) (hs : starEach (e :: es) X.env = (false, eval e X.env) :: starEach es X.env := by rfl) : PA X (e :: es) (tCons te t) := by
  intro pos pins s σ H Q I h
  rw [hs]
  show wpAny _ _ (spliced ((false, eval e X.env) :: backTo pos (starEach es X.env))) _ _ s
  refine Calls.spliced_cons (thn (ha pins s σ H _ I h) fun u s1 ⟨x, H1, I1, r1, q1⟩ => ?_)
  exact thn (hr pos pins s1 σ H1 _ I1 q1) fun us s2 ⟨xs, H2, I2, r2, q2⟩ => ⟨x :: xs, H2, I2, .cons r1 r2, q2⟩
def tTup (t : TA) : TE := fun σ H Q => t σ H fun xs H1 => xs.length ≤ sizeLine ∧ ∀ p, H1 p = none → Q (.ref p) (upd H1 p (.tup xs))
def tLst (t : TA) : TE := fun σ H Q => t σ H fun xs H1 => xs.length ≤ sizeLine ∧ ∀ p, H1 p = none → Q (.ref p) (upd H1 p (.lst xs))
theorem pe_tup {x1} (h : PA X es t) : PE X (.Tuple es x1 pos) (tTup t) := by
  intro pins s σ H Q I hq
  refine wpAny_Tuple_spliced (thn (h pos pins s σ H _ I hq) fun us s1 ⟨xs, H1, I1, r, z, q⟩ => ⟨by rw [← r.length]; exact z, ?_⟩)
  have hf : H1 s1.heap.objs.size = none := I1.hok.fresh (Nat.le_refl _)
  refine ⟨.ref s1.heap.objs.size, upd H1 s1.heap.objs.size (.tup xs), I1.laid (t' := s1.toks) (fun b u e => Heap.get?_push_of_some _ e) (Nat.le_refl _) ?_, rfl, q _ hf⟩
  exact ⟨z, us, r, ⟨_, Heap.get?_push_size _ rfl, rfl, _, rfl⟩⟩
theorem pe_lst (h : PA X es t) : PE X (.List es pos) (tLst t) := by
  intro pins s σ H Q I hq
  refine wpAny_List_spliced (thn (h pos pins s σ H _ I hq) fun us s1 ⟨xs, H1, I1, r, z, q⟩ => ⟨by rw [← r.length]; exact z, ?_⟩)
  have hf : H1 s1.heap.objs.size = none := I1.hok.fresh (Nat.le_refl _)
  refine ⟨.ref s1.heap.objs.size, upd H1 s1.heap.objs.size (.lst xs), I1.laid (t' := s1.toks) (fun b u e => Heap.get?_push_of_some _ e) (Nat.le_refl _) ?_, rfl, q _ hf⟩
  exact ⟨z, us, 0, r, Heap.get?_push_size _ rfl⟩
end
abbrev Sp := List V → Hp → VK → XK → Prop
abbrev CXT := List Env → Hp → Shared → XK → Value → Shared → Prop
structure Env0 (P : Program) (w : World) (K : PySem.W.Frag) (mg : Str → Option Value) (base : Heap) (A : Around) (outer : List Env) (s : Shared) (H : Hp) : Prop where
  frames : A.frames = some outer
  mod : Mod K mg base
  bs : ∀ b o, base.get? b = some o → s.heap.get? b = some o ∧ H b = none
  bsz : base.objs.size ≤ s.heap.objs.size
  funs : s.heap.FunFrames base outer
  frf : ∀ b ∈ frs outer, H b = none
  hok : HOk P w H s.heap
  bare : AllBare s.gens
def CE (outer : List Env) (P : Program) (w : World) (H : Hp) (s : Shared) (Q : VK) (u : Value) (s' : Shared) : Prop :=
  ∃ v H', s'.os = s.os ∧ AllBare s'.gens ∧ Un (frs outer) [] H H' s.heap s'.heap ∧ HOk P w H' s'.heap ∧ RelV v u ∧ Q v H'
def CR (CX : CXT) (outer : List Env) (P : Program) (w : World) (H : Hp) (s : Shared) (Q : VK) (E : XK) (r : Result) (s' : Shared) : Prop :=
  match r with
  | .ok (.ret u) => CE outer P w H s Q u s'
  | .ok _ => False
  | .error e => CX outer H s E e s'
structure FnOk (P : Program) (w : World) (K : PySem.W.Frag) (mg : Str → Option Value) (base : Heap) (CX : CXT) (k : Nat) (f : Addr) (fd : FuncData) (ps : List Str) (sp : Sp) : Prop where
  len : ∀ vs H Q E, sp vs H Q E → vs.length = ps.length
  run : ∀ (A : Around) (outer : List Env) (s : Shared) (H : Hp) (args : Args) (us : List Value) (vs : List V) (Q : VK) (E : XK), Room k A → Env0 P w K mg base A outer s H → BindsTo s fd args (ps.zip us) → Vals vs us → sp vs H Q E →
    codeAny (model P w) A (.call (.ref f) args) (CR CX outer P w H s Q E) s
theorem Env0.make {P : Program} {w : World} {K : PySem.W.Frag} {mg : Str → Option Value} {base : Heap} {A : Around} {outer : List Env} {s : Shared} {H : Hp} (e : Env0 P w K mg base A outer s H) (C : Addr) (us : List Value) (kw : List (Str × Value)) :
    Env0 P w K mg base (A.under (.builtin "type.__call__" ⟨.ref C :: us, kw⟩)) outer s H := ⟨by first | exact e.frames | (simpa [Around.under, Code.envs, Code.isFrame, pushEnvs] using e.frames), e.mod, e.bs, e.bsz, e.funs, e.frf, e.hok, e.bare⟩
theorem Env0.in1 {P : Program} {w : World} {K : PySem.W.Frag} {mg : Str → Option Value} {base : Heap} {A : Around} {outer : List Env} {s : Shared} {H : Hp} (e : Env0 P w K mg base A outer s H) :
    Env0 P w K mg base A.in1 outer s H := ⟨e.frames, e.mod, e.bs, e.bsz, e.funs, e.frf, e.hok, e.bare⟩
section
variable {X : Cx} {pins : List (Addr × Obj)} {σ : St} {H : Hp} {s s' : Shared}
theorem Inv.env0 (I : Inv X pins σ H s) : Env0 X.prog X.w X.K X.mg X.base X.A X.stack s H :=
  ⟨I.ok.frames, I.ok.mod, I.bs, Nat.le_trans I.ok.bsz I.sz, I.stack, I.stkFree, I.hok, I.bare⟩
theorem Inv.after {Q : VK} {u : Value} (I : Inv X pins σ H s) (h : CE X.stack X.prog X.w H s Q u s') : EP X pins σ Q u s' := by
  obtain ⟨v, H', os, bare, un, hok, r, q⟩ := h
  obtain ⟨hh, g, d, t, os'⟩ := s'
  obtain rfl : os' = s.os := os
  exact ⟨v, H', I.call (h' := hh) (g' := g) (d' := d) (t' := t) (ch := []) un hok bare (fun b z => absurd z (by simp)), r, q⟩
end
def tCall (sp : Sp) (dvs : List V) (E : XK) (t : TA) : TE := fun σ H Q => t σ H fun vs H1 => sp (vs ++ dvs) H1 Q E
def tMeth (C : Addr) (m : Str) (sp : Sp) (dvs : List V) (E : XK) (ta : TE) (t : TA) : TE := fun σ H Q => ta σ H fun x H1 => ∃ a dx fs, x = .ref a ∧ H1 a = some (.ins C dx fs) ∧ fs.lookup m = none ∧
  t σ H1 fun vs H2 => sp (x :: (vs ++ dvs)) H2 Q E
def tMake (C : Addr) (sp : Sp) (dvs : List V) (E : XK) (t : TA) : TE := fun σ H Q => t σ H fun vs H1 => ∀ x dx, H1 x = none → H1 dx = none → dx ≠ x →
  sp (.ref x :: (vs ++ dvs)) (upd (upd H1 dx (.own x)) x (.ins C dx [])) (fun v H2 => v = .non ∧ Q (.ref x) H2) E
def Binds (K : PySem.W.Frag) (fd : FuncData) (ps : List Str) (ds : List Value) : Prop :=
  ∀ (s : Shared) (us : List Value), K.In s.heap → (us ++ ds).length = ps.length → BindsTo s fd ⟨us, []⟩ (ps.zip (us ++ ds))
theorem Binds.all {K : PySem.W.Frag} {fd : FuncData} {ps : List Str} (h : ∀ us : List Value, us.length = ps.length → bindArgs fd ⟨us, []⟩ = pure (ps.zip us)) : Binds K fd ps [] := fun s us _ hl => by
  rw [List.append_nil] at hl ⊢
  exact .of_eq (h us hl)
def Passes (CX : CXT) (X : Cx) (E : XK) : Prop := ∀ (pins : List (Addr × Obj)) (σ : St) (H : Hp) (s : Shared) (e : Value) (s' : Shared), Inv X pins σ H s → CX X.stack H s E e s' → X.xe e s'
section
variable {X : Cx} {CX : CXT} {k : Nat} {f C : Addr} {fd : FuncData} {ps : List Str} {sp : Sp} {dvs : List V} {ds : List Value} {E : XK} {x m : Str} {p pos apos : Pos} {e o : Expr} {es : List Expr} {ta : TE} {t : TA}
theorem run_fn {pins : List (Addr × Obj)} {σ : St} {H : Hp} {s : Shared} {Q : VK} {us : List Value} {vs : List V} (F : FnOk X.prog X.w X.K X.mg X.base CX k f fd ps sp) (hr : Room k X.A) (hb : Binds X.K fd ps ds) (hd : Vals dvs ds) (hx : Passes CX X E)
    (I : Inv X pins σ H s) (r : Vals vs us) (h : sp (vs ++ dvs) H Q E) : wpAny (model X.prog X.w) X.A (call (.ref f) us) (EP X pins σ Q) X.xe s := by
  have r2 : Vals (vs ++ dvs) (us ++ ds) := r.append hd
  have hl : (us ++ ds).length = ps.length := by rw [← r2.length]; exact F.len _ _ _ _ h
  refine wpAny_call (codeAny_mono (F.run X.A X.stack s H ⟨us, []⟩ (us ++ ds) (vs ++ dvs) Q E hr I.env0 (hb s us I.kIn hl) r2 h) fun r s' hq => ?_)
  cases r with
  | error e => exact hx pins σ H s e s' I hq
  | ok fl =>
    cases fl with
    | ret u => exact I.after hq
    | next => exact False.elim hq
    | brk => exact False.elim hq
    | cont => exact False.elim hq
theorem pe_call (F : FnOk X.prog X.w X.K X.mg X.base CX k f fd ps sp) (hr : Room k X.A) (hg : Gl X x) (hm : X.mg x = some (.ref f)) (hk : PySem.W.keepIn X.K (.ref f) = true) (hb : Binds X.K fd ps ds) (hd : Vals dvs ds) (hx : Passes CX X E)
    (ha : PA X (e :: es) t) (hdb : (x == ("__debug__" : Str)) = false := by decide) (he : starEach (e :: es) X.env = (false, eval e X.env) :: starEach es X.env := by rfl) (hpl : (backTo pos (starEach es X.env)).any (·.1) = false := by rfl) :
    PE X (.Call (.Name x p) (e :: es) [] pos) (tCall sp dvs E t) := by
  intro pins s σ H Q I h
  refine wpAny_Call_Name_kw (ld_glob I hg hm ?_ hdb)
  refine PySem.W.callWith_K (h₀ := X.base) I.ok.mod.kin hk (thn (ha pos pins s σ H _ I h) fun us s1 ⟨vs, H1, I1, r, q⟩ => ⟨I1.kIn, ?_⟩) he hpl
  exact run_fn F hr hb hd hx I1 r q
theorem pe_meth {pl : Sem Bool} (he : PE X o ta) (c : Cls X.K C) (hm : Meth X.K C m f) (F : FnOk X.prog X.w X.K X.mg X.base CX k f fd ps sp) (hr : Room k X.A) (hb : Binds X.K fd ps ds) (hd : Vals dvs ds) (hx : Passes CX X E) (ha : PA X (e :: es) t)
    (hst : starEach (e :: es) X.env = (false, eval e X.env) :: starEach es X.env := by rfl) (hpl : (backTo pos (starEach es X.env)).any (·.1) = false := by rfl)
    (ht : eval (.Call (.Attribute o m apos) (e :: es) [] pos) X.env = (do
      let ov ← eval o X.env
      standAt apos.atName
      let (f, first) ← holding [ov] (getMethod ov m pl)
      callWith pos f first (backTo pos (starEach (e :: es) X.env)) (backToKw pos (keywordEach [] X.env))) := by rfl) :
    PE X (.Call (.Attribute o m apos) (e :: es) [] pos) (tMeth C m sp dvs E ta t) := by
  intro pins s σ H Q I h
  refine PySem.W.methodCall_KW (pl := pl) (thn (he pins s σ H _ I h) fun u s1 ⟨x, H1, I1, rx, a, dx, fs, ex, ea, l, q⟩ => ?_) ht
  subst ex
  obtain rfl : u = Value.ref a := rx
  refine getmeth_ok I1 ea c hm l ?_
  refine PySem.W.callWith_K (first := [.ref a]) (h₀ := X.base) I.ok.mod.kin hm.kp (thn (ha pos pins s1 σ H1 _ I1 q) fun us s2 ⟨vs, H2, I2, r, q2⟩ => ⟨I2.kIn, ?_⟩) hst hpl
  exact run_fn (us := .ref a :: us) (vs := .ref a :: vs) F hr hb hd hx I2 (.cons rfl r) q2
theorem pe_meth0 {pl : Sem Bool} (he : PE X o ta) (c : Cls X.K C) (hm : Meth X.K C m f) (F : FnOk X.prog X.w X.K X.mg X.base CX k f fd ps sp) (hr : Room k X.A) (hb : Binds X.K fd ps ds) (hd : Vals dvs ds) (hx : Passes CX X E)
    (ht : eval (.Call (.Attribute o m apos) [] [] pos) X.env = (do
      let ov ← eval o X.env
      standAt apos.atName
      let (f, first) ← holding [ov] (getMethod ov m pl)
      callWith pos f first (backTo pos (starEach [] X.env)) (backToKw pos (keywordEach [] X.env))) := by rfl) :
    PE X (.Call (.Attribute o m apos) [] [] pos) (tMeth C m sp dvs E ta tNil) := by
  intro pins s σ H Q I h
  refine PySem.W.methodCall_KW (pl := pl) (thn (he pins s σ H _ I h) fun u s1 ⟨x, H1, I1, rx, a, dx, fs, ex, ea, l, q⟩ => ?_) ht
  subst ex
  obtain rfl : u = Value.ref a := rx
  refine getmeth_ok I1 ea c hm l ?_
  exact PySem.W.callWith_K0 (first := [.ref a]) I1.kIn hm.kp (run_fn (us := [.ref a]) (vs := [.ref a]) F hr hb hd hx I1 (.cons rfl .nil) q)
structure Mk (K : PySem.W.Frag) (C f : Addr) : Prop where
  makes : PySem.W.makesIn K C = true
  init : PySem.W.findIn K (.ref C) "__init__" = some (some (.ref f))
  fn : PySem.W.isFn K (.ref f) = true
  kp : PySem.W.keepIn K (.ref C) = true
theorem run_make {pins : List (Addr × Obj)} {σ : St} {H : Hp} {s : Shared} {Q : VK} {us : List Value} {vs : List V} (M : Mk X.K C f) (F : FnOk X.prog X.w X.K X.mg X.base CX k f fd ps sp) (hr : Room (k + 1) X.A) (hb : Binds X.K fd ps ds) (hd : Vals dvs ds)
    (hx : Passes CX X E) (I : Inv X pins σ H s) (r : Vals vs us)
    (h : ∀ x dx, H x = none → H dx = none → dx ≠ x → sp (.ref x :: (vs ++ dvs)) (upd (upd H dx (.own x)) x (.ins C dx [])) (fun v H2 => v = .non ∧ Q (.ref x) H2) E) :
    wpAny (model X.prog X.w) X.A (call (.ref C) us) (EP X pins σ Q) X.xe s := by
  have hq := h (s.heap.objs.size + 1) s.heap.objs.size (I.hok.fresh (Nat.le_succ _)) (I.hok.fresh (Nat.le_refl _)) (Nat.ne_of_lt (Nat.lt_succ_self _))
  have I2 := Inv.made (C := C) I
  have r2 : Vals (V.ref (s.heap.objs.size + 1) :: (vs ++ dvs)) (Value.ref (s.heap.objs.size + 1) :: (us ++ ds)) := .cons rfl (r.append hd)
  have hl : (Value.ref (s.heap.objs.size + 1) :: us ++ ds).length = ps.length := by
    have e := r2.length
    rw [F.len _ _ _ _ hq] at e
    exact e.symm
  refine wpAny_call (make_map (f := f) I.kIn M.makes M.init (beq_iff_eq.mp M.fn) (codeAny_mono (F.run _ X.stack _ _ ⟨Value.ref (s.heap.objs.size + 1) :: us, []⟩ (Value.ref (s.heap.objs.size + 1) :: (us ++ ds)) _ _ E (hr.make C us [])
    (I2.env0.make C us []) (hb _ (Value.ref (s.heap.objs.size + 1) :: us) I2.kIn hl) r2 hq) fun r s' hq' => ?_))
  cases r with
  | error e => exact hx pins σ _ _ e s' I2 hq'
  | ok fl =>
    cases fl with
    | ret u =>
      obtain ⟨v, H', I3, rv, ev, q3⟩ := I2.after hq'
      subst ev
      exact ⟨rv, ⟨V.ref (s.heap.objs.size + 1), H', I3, rfl, q3⟩⟩
    | next => exact False.elim hq'
    | brk => exact False.elim hq'
    | cont => exact False.elim hq'
theorem pe_make (M : Mk X.K C f) (F : FnOk X.prog X.w X.K X.mg X.base CX k f fd ps sp) (hr : Room (k + 1) X.A) (hg : Gl X x) (hm : X.mg x = some (.ref C)) (hb : Binds X.K fd ps ds) (hd : Vals dvs ds) (hx : Passes CX X E)
    (ha : PA X (e :: es) t) (hdb : (x == ("__debug__" : Str)) = false := by decide) (he : starEach (e :: es) X.env = (false, eval e X.env) :: starEach es X.env := by rfl) (hpl : (backTo pos (starEach es X.env)).any (·.1) = false := by rfl) :
    PE X (.Call (.Name x p) (e :: es) [] pos) (tMake C sp dvs E t) := by
  intro pins s σ H Q I h
  refine wpAny_Call_Name_kw (ld_glob I hg hm ?_ hdb)
  refine PySem.W.callWith_K (h₀ := X.base) I.ok.mod.kin M.kp (thn (ha pos pins s σ H _ I h) fun us s1 ⟨vs, H1, I1, r, q⟩ => ⟨I1.kIn, ?_⟩) he hpl
  exact run_make M F hr hb hd hx I1 r q
end
structure FnScope (N P : List Str) (sc : Scope) : Prop where
  kind : sc.kind = .function
  co : sc.isCoroutine = false
  gen : sc.isGenerator = false
  nd : N.Nodup
  pre : N.take P.length = P
  par : ∀ x ∈ P, sc.names.lookup x = some .local ∨ sc.names.lookup x = some .cell
  nofree : ∀ y ∈ sc.names, y.2 ≠ .free
theorem bindL_out {kindOf : Str → Option NameKind} {x : Str} : ∀ {binds : List (Str × Value)} {m : Str → Option Value}, (∀ v, (x, v) ∉ binds) → bindL kindOf binds m x = m x
  | [], _, _ => rfl
  | (n, v) :: r, m, h => by
    unfold bindL
    rw [bindL_out fun w hw => h w (List.mem_cons_of_mem _ hw)]
    split
    · have : x ≠ n := by rintro rfl; exact h v List.mem_cons_self
      simp [this]
    · rfl
theorem bindC_out {kindOf : Str → Option NameKind} {x : Str} : ∀ {binds : List (Str × Value)} {m : Str → Option Value}, (∀ v, (x, v) ∉ binds) → bindC kindOf binds m x = m x
  | [], _, _ => rfl
  | (n, v) :: r, m, h => by
    unfold bindC
    rw [bindC_out fun w hw => h w (List.mem_cons_of_mem _ hw)]
    split
    · rfl
    · have : x ≠ n := by rintro rfl; exact h v List.mem_cons_self
      simp [this]
theorem bindL_get {kindOf : Str → Option NameKind} {x : Str} {v : Value} : ∀ {P : List Str} {vs : List Value} {i : Nat} {m : Str → Option Value}, P.Nodup → P[i]? = some x → vs[i]? = some v → kindOf x = some .local →
    bindL kindOf (P.zip vs) m x = some v
  | [], _, _, _, _, h, _, _ => by simp at h
  | _ :: _, [], _, _, _, _, h, _ => by simp at h
  | p :: P, w :: vs, 0, m, nd, h1, h2, hk => by
    simp at h1 h2; subst h1; subst h2
    show bindL kindOf ((p, w) :: P.zip vs) m p = _
    unfold bindL
    rw [bindL_out fun v hv => (List.nodup_cons.mp nd).1 (List.of_mem_zip hv).1, if_pos hk]
    simp
  | p :: P, w :: vs, i + 1, m, nd, h1, h2, hk => by
    show bindL kindOf ((p, w) :: P.zip vs) m x = _
    unfold bindL
    exact bindL_get (i := i) (List.nodup_cons.mp nd).2 (by simpa using h1) (by simpa using h2) hk
theorem bindC_get {kindOf : Str → Option NameKind} {x : Str} {v : Value} : ∀ {P : List Str} {vs : List Value} {i : Nat} {m : Str → Option Value}, P.Nodup → P[i]? = some x → vs[i]? = some v → kindOf x ≠ some .local →
    bindC kindOf (P.zip vs) m x = some v
  | [], _, _, _, _, h, _, _ => by simp at h
  | _ :: _, [], _, _, _, _, h, _ => by simp at h
  | p :: P, w :: vs, 0, m, nd, h1, h2, hk => by
    simp at h1 h2; subst h1; subst h2
    show bindC kindOf ((p, w) :: P.zip vs) m p = _
    unfold bindC
    rw [bindC_out fun v hv => (List.nodup_cons.mp nd).1 (List.of_mem_zip hv).1, if_neg hk]
    simp
  | p :: P, w :: vs, i + 1, m, nd, h1, h2, hk => by
    show bindC kindOf ((p, w) :: P.zip vs) m x = _
    unfold bindC
    exact bindC_get (i := i) (List.nodup_cons.mp nd).2 (by simpa using h1) (by simpa using h2) hk
def start (N : List Str) (vs : List V) : St := vs.map some ++ List.replicate (N.length - vs.length) none
def cxOf (CX : CXT) (P : Program) (w : World) (K : PySem.W.Frag) (mg : Str → Option Value) (base : Heap) (N : List Str) (qual : Str) (scope : Scope) (f : Addr) (cd : Value) (A : Around) (outer : List Env) (s : Shared) (H : Hp) (E : XK) : Cx where
  prog := P
  w := w
  K := K
  mg := mg
  base := base
  A := A.deeper (envOfC qual scope s.heap.objs.size f cd)
  N := N
  s_0 := s
  H_0 := H
  env := envOfC qual scope s.heap.objs.size f cd
  outer := outer
  stack := envOfC qual scope s.heap.objs.size f cd :: outer
  ex := []
  calm := true
  fn := fun _ => true
  pn := []
  xe := fun e s' => wpAny (model P w) (A.deeper (envOfC qual scope s.heap.objs.size f cd)) (leaving (envOfC qual scope s.heap.objs.size f cd) e) (fun _ s'' => CX outer H s E e s'') (fun e' s'' => CX outer H s E e' s'') s'
theorem cell_has {sc : Scope} {n : Nat} {x : Str} (h : sc.names.lookup x = some .cell) : ∃ c, (cellsFrom n sc.names []).lookup x = some c := by
  have q := PySem.W.cellsFrom_some sc.names n [] (.inl h)
  exact Option.isSome_iff_exists.mp q
theorem inv_start {CX : CXT} {P : Program} {w : World} {K : PySem.W.Frag} {mg : Str → Option Value} {base : Heap} {N ps : List Str} {qual : Str} {scope : Scope} {f : Addr} {cd : Value} {A : Around} {outer : List Env} {s s1 : Shared} {H : Hp} {E : XK} {us : List Value} {vs : List V}
    (S : FnScope N ps scope) (hd : A.handled = none) (e0 : Env0 P w K mg base A outer s H) (hl : vs.length = ps.length) (r : Vals vs us)
    (x : InCallC s s.heap.objs.size (bindL (envOfC qual scope s.heap.objs.size f cd).kindOf (ps.zip us) fun _ => none) (cellsFrom (s.heap.objs.size + 1) scope.names []) (bindC (envOfC qual scope s.heap.objs.size f cd).kindOf (ps.zip us) fun _ => none) s1) :
    Inv (cxOf CX P w K mg base N qual scope f cd A outer s H E) [] (start N vs) H s1 := by
  have hpl : ps.length ≤ N.length := by have := congrArg List.length S.pre; rw [List.length_take] at this; omega
  obtain ⟨h1, tk, rfl, hk⟩ := x.done
  have noA : ∀ b : Addr, b ∉ (cxOf CX P w K mg base N qual scope f cd A outer s H E).ex := fun b z => absurd (show b ∈ ([] : List Addr) from z) (by simp)
  refine ⟨⟨e0.mod, S.kind, rfl, rfl, Nat.le_refl _, fun y z c h1 h2 => ?_, fun y hy => ?_, fun y c _ h => ?_, fun _ => hd, Around.frames_deeper e0.frames, .inr ⟨rfl, rfl⟩, fun b z => absurd z (noA b), e0.bs, e0.bsz, fun b _ _ => noA b, fun b z => absurd z (noA b), e0.funs, e0.frf⟩,
    rfl, e0.bare, Un.kept hk, ⟨_, x.toInCall.ns, fun i y v h1 h2 h3 => ?_⟩, fun y c h => ⟨_, x.cell y c h⟩, e0.hok.fresh (Nat.le_refl _), fun y c h => ?_, fun p hp => absurd (show p ∈ ([] : List (Addr × Obj)) from hp) (by simp), e0.hok.kept hk, ?_⟩
  · exact name_of_addr x.apart (PySem.mem_of_lookup h1) (PySem.mem_of_lookup h2)
  · have hy : scope.names.lookup y = some .cell ∨ scope.names.lookup y = some .free := hy
    rcases hy with hy | hy
    · exact cell_has hy
    · exact absurd rfl (S.nofree _ (PySem.mem_of_lookup hy))
  · exact Nat.le_of_lt (x.above y c (PySem.mem_of_lookup h))
  · have hi : i < vs.length := by
      unfold start at h2
      by_cases hi : i < vs.length
      · exact hi
      · rw [List.getElem?_append_right (by simpa using hi)] at h2
        rw [List.getElem?_replicate] at h2
        split at h2 <;> cases h2
    have ha : vs[i]? = some v := by
      unfold start at h2
      rw [List.getElem?_append_left (by simpa using hi), List.getElem?_map] at h2
      cases e : vs[i]? with
      | none => rw [e] at h2; cases h2
      | some a => rw [e] at h2; cases h2; rfl
    obtain ⟨u, hu, rv⟩ := r.get ha
    have hp : ps[i]? = some y := by
      rw [← S.pre, List.getElem?_take_of_lt (by omega)]; exact h1
    have ndP : ps.Nodup := by rw [← S.pre]; exact S.nd.sublist (List.take_sublist _ _)
    refine ⟨u, rv, ?_⟩
    rcases S.par y (List.mem_of_getElem? hp) with k | k
    · exact .inl ⟨k, bindL_get ndP hp hu k⟩
    · obtain ⟨c, e⟩ := cell_has (n := s.heap.objs.size + 1) k
      refine .inr ⟨.inl k, c, e, ?_⟩
      have q := x.cell y c e
      rw [bindC_get ndP hp hu (by show scope.names.lookup y ≠ _; rw [k]; decide)] at q
      exact q
  · exact e0.hok.fresh (Nat.le_of_lt (x.above y c (PySem.mem_of_lookup h)))
  · unfold start
    show _ = N.length
    rw [List.length_append, List.length_map, List.length_replicate]
    omega
theorem fn_of {CX : CXT} {P : Program} {w : World} {K : PySem.W.Frag} {mg : Str → Option Value} {base : Heap} {k : Nat} {f : Addr} {name qual : Str} {params : Arguments} {body : List Stmt} {scope : Scope} {dV kV doc pm cdv ct oc : Value} {an od : Option Addr}
    {osl : Array (Option Value)} {N ps : List Str} {sp : Sp} (lk : K.lookup f = some ⟨oc, od, .func (PySem.W.fnOf name qual params body scope dV kV doc pm an cdv ct), osl⟩) (hcd : PySem.W.codeIn K cdv qual = true) (S : FnScope N ps scope)
    (len : ∀ vs H Q E, sp vs H Q E → vs.length = ps.length)
    (hbody : ∀ (A : Around) (outer : List Env) (s : Shared) (H : Hp) (vs : List V) (Q : VK) (E : XK), Room k (A.deeper (envOfC qual scope s.heap.objs.size f cdv)) → sp vs H Q E →
      ∃ t, PSs (cxOf CX P w K mg base N qual scope f cdv A outer s H E) body t ∧ t { nx := fun _ H' => Q .non H', rt := Q } (start N vs) H) :
    FnOk P w K mg base CX (k + 1) f (PySem.W.fnOf name qual params body scope dV kV doc pm an cdv ct) ps sp := by
  refine ⟨len, fun A outer s H args us vs Q E hr e0 hb r hsp => ?_⟩
  have hl := len _ _ _ _ hsp
  have KX : K.In s.heap := e0.mod.kin.keeps fun b o e => (e0.bs b o e).1
  have lim : s.heap.NoLimit := e0.mod.nolimit.keeps fun b o e => (e0.bs b o e).1
  have hkind : ∀ y ∈ ps.zip us, scope.names.lookup y.1 = some .local ∨ (scope.names.lookup y.1 = some .cell ∧ ((cellsFrom (s.heap.objs.size + 1) scope.names []).lookup y.1).isSome = true) := fun ⟨n, v⟩ hy => by
    rcases S.par n (List.of_mem_zip hy).1 with q | q
    · exact .inl q
    · exact .inr ⟨q, PySem.W.cellsFrom_some _ _ _ (.inl q)⟩
  refine codeAny_call_function hr.depth (KX _ _ lk) rfl S.co S.gen rfl (PySem.W.codeRec_of KX hcd) (hb _ _ _ _ ?_)
  refine wpAny_newFunctionEnv_cells S.kind hkind fun env he s1 x => ?_
  subst he
  refine ⟨lim.keeps x.toInCall.keep, codeAny_func ?_⟩
  obtain ⟨t, ht, hq⟩ := hbody A outer s H vs Q E (hr.deeper _) hsp
  have I : Inv (cxOf CX P w K mg base N qual scope f cdv A outer s H E) [] (start N vs) H s1 := inv_start S hr.hd e0 hl r x
  refine wpAny_mono (ht [] s1 (start N vs) H _ I hq) (fun fl s' hs => ?_) fun e s' hs => hs
  have fin : ∀ {σ' : St} {H' : Hp} {v : V} {u : Value}, Inv (cxOf CX P w K mg base N qual scope f cdv A outer s H E) [] σ' H' s' → RelV v u → Q v H' → CE outer P w H s Q u s' :=
    fun {σ' H' v u} J rv q => ⟨v, H', J.os, J.bare, J.base, J.hok, rv, q⟩
  cases fl with
  | ret u =>
    obtain ⟨v, σ', H', J, rv, q⟩ := hs
    exact fin J rv q
  | next =>
    obtain ⟨σ', H', J, q⟩ := hs
    exact fin (v := V.non) (u := Value.none) J rfl q
  | brk =>
    obtain ⟨_, _, _, q⟩ := hs
    exact False.elim q
  | cont =>
    obtain ⟨_, _, _, q⟩ := hs
    exact False.elim q
end L2
namespace L2
open PySem PySem.Spec PyProof.Rows
section
variable {X : Cx} {x : Str} {p pos : Pos} {e : Expr} {es : List Expr} {t : TA} {id T : String} {r : List V → Hp → VK → Prop}
def tCB (r : List V → Hp → VK → Prop) (t : TA) : TE := fun σ H Q => t σ H fun vs H1 => r vs H1 Q
theorem pe_callB (hc : CallR X (.builtin id) r) (hg : Gl X x) (hm : X.mg x = none) (hv : bootBuiltins x = some (.builtin id)) (ha : PA X (e :: es) t) (hn : x ≠ "__name__" := by decide) (hdb : (x == ("__debug__" : Str)) = false := by decide)
    (he : starEach (e :: es) X.env = (false, eval e X.env) :: starEach es X.env := by rfl) (hpl : (backTo pos (starEach es X.env)).any (·.1) = false := by rfl) : PE X (.Call (.Name x p) (e :: es) [] pos) (tCB r t) := by
  intro pins s σ H Q I h
  refine wpAny_Call_Name_kw (ld_blt I hg hm hv ?_ hn hdb)
  exact PyProof.Rows.callWith_builtin1 (thn (ha pos pins s σ H _ I h) fun us s1 ⟨vs, H1, I1, r1, q1⟩ => hc pins s1 σ H1 vs us Q I1 r1 q1) he hpl
theorem pe_callTy (hc : CallR X (.type T) r) (hg : Gl X x) (hm : X.mg x = none) (hv : bootBuiltins x = some (.type T)) (ha : PA X (e :: es) t) (hn : x ≠ "__name__" := by decide) (hdb : (x == ("__debug__" : Str)) = false := by decide)
    (he : starEach (e :: es) X.env = (false, eval e X.env) :: starEach es X.env := by rfl) (hpl : (backTo pos (starEach es X.env)).any (·.1) = false := by rfl) : PE X (.Call (.Name x p) (e :: es) [] pos) (tCB r t) := by
  intro pins s σ H Q I h
  refine wpAny_Call_Name_kw (ld_blt I hg hm hv ?_ hn hdb)
  exact PyProof.Rows.callWith_type1 (thn (ha pos pins s σ H _ I h) fun us s1 ⟨vs, H1, I1, r1, q1⟩ => hc pins s1 σ H1 vs us Q I1 r1 q1) he hpl
end
end L2
namespace HT
open PySem PyProof.Rows
section
open PySem.SeqAt
open PySem.AutoSeq1 (wpAny_loadPart')
open PySem.MeetsSeq PySem.MeetsSeq2 PySem.MeetsSeq3
end
section
variable {prog : Program} {w : World} {A : Around} {E : Value → Shared → Prop} {s : Shared}
def sIx (n d : Nat) : Option Int → Nat
  | none => d
  | some v => if v < 0 then (v + (n : Int)).toNat else min v.toNat n
theorem sIx_nat (n d k : Nat) : sIx n d (some (k : Int)) = min k n := by
  show (if (k : Int) < 0 then ((k : Int) + (n : Int)).toNat else min (k : Int).toNat n) = min k n
  rw [if_neg (by omega), Int.toNat_natCast]
end
end HT
namespace L2
open PySem PySem.Spec PyProof.Rows
abbrev TO := St → Hp → (Option Int → Hp → Prop) → Prop
def PO (X : Cx) (e : Option Expr) (t : TO) : Prop :=
  ∀ (pins : List (Addr × Obj)) (s : Shared) (σ : St) (H : Hp) (Q : Option Int → Hp → Prop), Inv X pins σ H s → t σ H Q →
    wpAny (model X.prog X.w) X.A (evalPart e X.env) (fun u s' => ∃ o H', Inv X pins σ H' s' ∧ IsPart u o ∧ Q o H') X.xe s
def tPart (t : TE) : TO := fun σ H Q => t σ H fun x H1 => ∃ i, x = .int i ∧ Q (some i) H1
section
variable {X : Cx} {e : Expr} {te : TE} {lo hi : Option Expr} {tl th : TO} {pos p2 : Pos}
theorem po_some (h : PE X e te) : PO X (some e) (tPart te) := by
  intro pins s σ H Q I hw
  rw [evalPart_some]
  refine thn (h pins s σ H _ I hw) fun u s1 ⟨x, H1, I1, r1, q1⟩ => ?_
  obtain ⟨i, rfl, q⟩ := q1
  obtain ⟨t, rfl⟩ := r1
  exact ⟨some i, H1, I1, .int i t, q⟩
def SlR (X : Cx) (r : V → Option Int → Option Int → Hp → VK → Prop) : Prop :=
  ∀ (pins : List (Addr × Obj)) (s : Shared) (σ : St) (H : Hp) (x : V) (v vl vu : Value) (lo hi : Option Int) (sl : Addr) (Q : VK), Inv X pins σ H s → RelV x v → s.heap.IsSliceOf sl vl vu .none → IsPart vl lo → IsPart vu hi → r x lo hi H Q →
    ∃ T id, typeLookup (.type T) "__getitem__" = pure (some (.builtin id)) ∧ s.TypeIs v T ∧ wpAny (model X.prog X.w) X.A (getItem v (.ref sl)) (EP X pins σ Q) X.xe s
def tSl (r : V → Option Int → Option Int → Hp → VK → Prop) (te : TE) (tl th : TO) : TE := fun σ H Q => te σ H fun x H1 => tl σ H1 fun l H2 => th σ H2 fun u H3 => r x l u H3 Q
theorem pe_slice {r : V → Option Int → Option Int → Hp → VK → Prop} (hr : SlR X r) (he : PE X e te) (hl : PO X lo tl) (hu : PO X hi th) : PE X (.Subscript e (.Slice lo hi none p2) pos) (tSl r te tl th) := by
  intro pins s σ H Q I h
  refine Subscript_ (thn (he pins s σ H _ I h) fun v s1 ⟨x, H1, I1, r1, q1⟩ => ?_)
  refine wpAny_Slice (thn (hl pins s1 σ H1 _ I1 q1) fun vl s2 ⟨l, H2, I2, pl, q2⟩ => thn (hu pins s2 σ H2 _ I2 q2) fun vu s3 ⟨u, H3, I3, pu, q3⟩ => ?_)
  rw [evalPart_none]
  refine wpAny_pure ?_
  have I4 : Inv X pins σ H3 { s3 with heap := s3.heap.push { cls := .type "slice", data := .fields #[vl, vu, .none] } } := I3.kept (t' := s3.toks) fun b ob q => Heap.get?_push_of_some _ q
  obtain ⟨T, id, hT, ht, hg⟩ := hr pins { s3 with heap := s3.heap.push { cls := .type "slice", data := .fields #[vl, vu, .none] } } σ H3 x v vl vu l u s3.heap.objs.size Q I4 r1 (Heap.IsSliceOf.new ..) pl pu q3
  show wpAny (model X.prog X.w) X.A (subscriptTail e (.Slice lo hi none p2) v (.ref s3.heap.objs.size)) (EP X pins σ Q) X.xe { s3 with heap := s3.heap.push { cls := .type "slice", data := .fields #[vl, vu, .none] } }
  exact tail_any (ops := [.ref s3.heap.objs.size, v]) ht hT hg (by with_unfolding_all rfl)
def cutV (xs : List V) (lo hi : Option Int) : List V := (xs.drop (HT.sIx xs.length 0 lo)).take (HT.sIx xs.length xs.length hi - HT.sIx xs.length 0 lo)
theorem cutV_length (xs : List V) (lo hi : Option Int) : (cutV xs lo hi).length ≤ xs.length := by
  unfold cutV
  rw [List.length_take, List.length_drop]
  omega
end
end L2
namespace L2
open PySem PySem.Spec PyProof.Rows
def ixN (n : Nat) (i : Int) : Option Nat := if 0 ≤ i then (if i < n then some i.toNat else none) else if -(n : Int) ≤ i then some (i + n).toNat else none
def atI {α : Type} (xs : List α) (i : Int) : Option α := (ixN xs.length i).bind fun j => xs[j]?
theorem ixN_seq {n : Nat} {i : Int} {j : Nat} (h : ixN n i = some j) : seqIndex? i n = some j ∧ j < n ∧ -(n : Int) ≤ i ∧ i < n := by
  unfold ixN at h
  by_cases h0 : 0 ≤ i
  · rw [if_pos h0] at h
    by_cases h1 : i < n
    · rw [if_pos h1] at h
      have e : i.toNat = j := Option.some.inj h
      exact ⟨by rw [seqIndex_of h0 h1, e], by omega, by omega, h1⟩
    · rw [if_neg h1] at h; cases h
  · rw [if_neg h0] at h
    by_cases h1 : -(n : Int) ≤ i
    · rw [if_pos h1] at h
      have e : (i + n).toNat = j := Option.some.inj h
      exact ⟨by rw [seqIndex_neg (by omega) h1, e], by omega, h1, by omega⟩
    · rw [if_neg h1] at h; cases h
theorem atI_get {α : Type} {xs : List α} {i : Int} {v : α} (h : atI xs i = some v) : ∃ j, seqIndex? i xs.length = some j ∧ xs[j]? = some v ∧ j < xs.length ∧ -(xs.length : Int) ≤ i ∧ i < xs.length := by
  unfold atI at h
  cases e : ixN xs.length i with
  | none => rw [e] at h; cases h
  | some j =>
    rw [e] at h
    obtain ⟨h1, h2, h3, h4⟩ := ixN_seq e
    exact ⟨j, h1, h, h2, h3, h4⟩
theorem atI_nat {α : Type} {xs : List α} {j : Nat} {v : α} (h : xs[j]? = some v) : atI xs (j : Int) = some v := by
  have hj : j < xs.length := (List.getElem?_eq_some_iff.mp h).1
  have e : ixN xs.length (j : Int) = some j := by
    unfold ixN
    rw [if_pos (by omega), if_pos (by omega)]; simp
  unfold atI; rw [e]; exact h
def PlainIx (b : Expr) : Prop := ∀ o i, subscripted b false o i = operate [o, i] (getItem o i)
def IxR (X : Cx) (r : R2) : Prop :=
  ∀ (value slice : Expr) (pins : List (Addr × Obj)) (s : Shared) (σ : St) (H : Hp) (x y : V) (v u : Value) (Q : VK), Inv X pins σ H s → RelV x v → RelV y u → r x y H Q →
    subscripted slice false v u = operate [v, u] (getItem v u) → wpAny (model X.prog X.w) X.A (subscriptTail value slice v u) (EP X pins σ Q) X.xe s
def MtR (X : Cx) (id : String) (r : V → List V → Hp → VK → Prop) : Prop :=
  ∀ (pins : List (Addr × Obj)) (s : Shared) (σ : St) (H : Hp) (x : V) (xs : List V) (v : Value) (us : List Value) (Q : VK), Inv X pins σ H s → RelV x v → Vals xs us → r x xs H Q →
    wpAny (model X.prog X.w) X.A (call (.builtin id) (v :: us)) (EP X pins σ Q) X.xe s
section
variable {X : Cx} {a b : Expr} {ta tb : TE} {pos : Pos}
theorem pe_ix {r : R2} (hr : IxR X r) (ha : PE X a ta) (hb : PE X b tb) (hs : PlainIx b) : PE X (.Subscript a b pos) (tOp r ta tb) := by
  intro pins s σ H Q I h
  exact Subscript_ (binT ha hb I h fun v u s2 x y H2 I2 rx ry q => hr a b pins s2 σ H2 x y v u Q I2 rx ry q (hs _ _))
def rIxL (K : PySem.W.Frag) : R2 := fun x y H Q => ∃ p xs i v, x = .ref p ∧ y = .int i ∧ SqL K H p xs ∧ atI xs i = some v ∧ Q v H
def rIxT (K : PySem.W.Frag) : R2 := fun x y H Q => ∃ p xs i v, x = .ref p ∧ y = .int i ∧ SqT K H p xs ∧ atI xs i = some v ∧ Q v H
theorem ix_list : IxR X (rIxL X.K) := by
  intro value slice pins s σ H x y v u Q I rx ry h hs
  obtain ⟨p, xs, i, z, rfl, rfl, hq, he, q⟩ := h
  cases rx
  obtain ⟨t, rfl⟩ := ry
  obtain ⟨its, r, pl, hz⟩ := I.list hq
  obtain ⟨j, h1, h2, h3, h4, h5⟩ := atI_get he
  obtain ⟨w, ew, rw'⟩ := r.get h2
  have hl := r.length
  have hn := line63
  have fin : EP X pins σ Q w s := ⟨z, H, I, rw', q⟩
  by_cases h0 : 0 ≤ i
  · have hj : i.toNat = j := by
      rw [seqIndex_of h0 h5] at h1
      exact Option.some.inj h1
    exact item_listR pl.isList h0 (by omega) (by rw [hj]; simpa using ew) fin hs
  · have hj : (i + (its.toArray.size : Int)).toNat = j := by
      rw [seqIndex_neg (by omega) h4] at h1
      rw [List.size_toArray, ← hl]
      exact Option.some.inj h1
    exact subscriptTail_builtinR (x := w) pl.isList.typeIs slot_list_getitem.lookup
      (wpAny_getItem_list_neg (Q := fun r s' => r = w ∧ EP X pins σ Q r s') pl.isList (by omega) (by rw [List.size_toArray] <;> omega) (by omega) (by rw [hj]; simpa using ew) ⟨rfl, fin⟩) hs
theorem ix_tup : IxR X (rIxT X.K) := by
  intro value slice pins s σ H x y v u Q I rx ry h hs
  obtain ⟨p, xs, i, z, rfl, rfl, hq, he, q⟩ := h
  cases rx
  obtain ⟨t, rfl⟩ := ry
  obtain ⟨its, r, pl, hz⟩ := I.tuple hq
  obtain ⟨j, h1, h2, h3, h4, h5⟩ := atI_get he
  obtain ⟨w, ew, rw'⟩ := r.get h2
  have hl := r.length
  have hn := line63
  have fin : EP X pins σ Q w s := ⟨z, H, I, rw', q⟩
  exact subscriptTail_builtinR (x := w) pl.typeIs slot_tuple_getitem.lookup
    (getItem_tuple (j := j) (Q := fun r s' => r = w ∧ EP X pins σ Q r s') pl (by omega) (by omega) (by rw [List.size_toArray, ← hl]; exact h1) (by simpa using ew) ⟨rfl, fin⟩) hs
theorem mapSeq_set (its : List Value) (n j : Nat) (u : Value) : Obj.mapSeq (·.setIfInBounds j u) { cls := .type "list", data := .seq its.toArray n } = { cls := .type "list", data := .seq (its.set j u).toArray n } := by
  simp [Obj.mapSeq]
theorem Inv.lst {pins : List (Addr × Obj)} {σ : St} {H : Hp} {s : Shared} {p : Addr} {xs : List V} (I : Inv X pins σ H s) (h : H p = some (.lst xs)) :
    ∃ (its : List Value) (n : Nat), Vals xs its ∧ s.heap.get? p = some { cls := .type "list", data := .seq its.toArray n } ∧ xs.length ≤ sizeLine := by
  obtain ⟨z, its, n, r, e⟩ := I.hok p _ h
  exact ⟨its, n, r, e, z⟩
theorem Inv.lstUpd {pins : List (Addr × Obj)} {σ : St} {H : Hp} {s : Shared} {p : Addr} {xs ys : List V} {its its' : List Value} {n n' : Nat} {f : Obj → Obj} (I : Inv X pins σ H s) (h : H p = some (.lst xs))
    (ho : s.heap.get? p = some { cls := .type "list", data := .seq its.toArray n }) (hf : f { cls := .type "list", data := .seq its.toArray n } = { cls := .type "list", data := .seq its'.toArray n' }) (r : Vals ys its') (hz : ys.length ≤ sizeLine) (t : Nat) :
    Inv X pins σ (upd H p (.lst ys)) { s with heap := s.heap.update p f, toks := t } := by
  have e : (s.heap.update p f).get? p = some { cls := .type "list", data := .seq its'.toArray n' } := by
    rw [Heap.get?_update_self f ho (by rw [hf] <;> rfl), hf]
  refine I.write (x := p) (e := p) (by rw [h]; trivial) (.inl rfl) (fun b u hb q => (Heap.get?_update_other _ _ (Ne.symm hb)).trans q) ⟨_, e⟩ ?_
  exact ⟨hz, its', n', r, e⟩
def rSetL : V → V → V → Hp → (Hp → Prop) → Prop := fun o i v H Q => ∃ p xs k j, o = .ref p ∧ i = .int k ∧ H p = some (.lst xs) ∧ ixN xs.length k = some j ∧ Q (upd H p (.lst (xs.set j v)))
theorem set_list : PSet X rSetL := by
  intro pins s σ H o i v ov iv u Q I ro ri rv h
  obtain ⟨p, xs, k, j, rfl, rfl, hp, hj, q⟩ := h
  cases ro
  obtain ⟨t, rfl⟩ := ri
  obtain ⟨its, n, r, ho, hz⟩ := I.lst hp
  obtain ⟨h1, h2, h3, h4⟩ := ixN_seq hj
  have hl := r.length
  have hn := line63
  have I' : Inv X pins σ (upd H p (.lst (xs.set j v))) { s with heap := s.heap.update p (Obj.mapSeq (·.setIfInBounds j u)) } :=
    I.lstUpd hp ho (mapSeq_set its n j u) (r.set rv j) (by rw [List.length_set]; exact hz) s.toks
  by_cases h0 : 0 ≤ k
  · have hk : k.toNat = j := by
      rw [seqIndex_of h0 h4] at h1
      exact Option.some.inj h1
    exact PySem.W.ki_setAt ho h0 (by omega) (by rw [List.size_toArray, ← hl]; exact h4) (by rw [hk]; exact ⟨_, I', q⟩)
  · have hk : (k + (its.toArray.size : Int)).toNat = j := by
      rw [seqIndex_neg (by omega) h3] at h1
      rw [List.size_toArray, ← hl]
      exact Option.some.inj h1
    exact PySem.W.ki_setBack ho (by omega) (by rw [List.size_toArray, ← hl]; exact h3) (by omega) (by rw [hk]; exact ⟨_, I', q⟩)
theorem slice_bounds (lo hi : Option Int) (n : Nat) : (sliceBounds lo hi none n).1 = ((HT.sIx n 0 lo : Nat) : Int) ∧ (sliceBounds lo hi none n).2.1 = ((HT.sIx n n hi : Nat) : Int) ∧ (sliceBounds lo hi none n).2.2 = 1 := by
  refine ⟨?_, ?_, rfl⟩
  · cases lo with
    | none => simp [sliceBounds, HT.sIx]
    | some i =>
      simp only [sliceBounds, HT.sIx, Option.getD_none, show (1 : Int) > 0 by decide, if_true]
      by_cases h : i < 0
      · simp only [h, if_true] <;> omega
      · simp only [h, if_false] <;> omega
  · cases hi with
    | none => simp [sliceBounds, HT.sIx]
    | some i =>
      simp only [sliceBounds, HT.sIx, Option.getD_none, show (1 : Int) > 0 by decide, if_true]
      by_cases h : i < 0
      · simp only [h, if_true] <;> omega
      · simp only [h, if_false] <;> omega
theorem slicePick_cut (its : List Value) (lo hi : Option Int) : slicePick its.toArray lo hi none = ((its.drop (HT.sIx its.length 0 lo)).take (HT.sIx its.length its.length hi - HT.sIx its.length 0 lo)).toArray := by
  obtain ⟨h1, h2, h3⟩ := slice_bounds lo hi its.toArray.size
  unfold slicePick
  rw [h1, h2, h3]
  simp only [sliceRange_one, pick_run, List.size_toArray] <;> rfl
def rSlL (K : PySem.W.Frag) : V → Option Int → Option Int → Hp → VK → Prop := fun x lo hi H Q => ∃ a xs, x = .ref a ∧ SqL K H a xs ∧ ∀ p, H p = none → Q (.ref p) (upd H p (.lst (cutV xs lo hi)))
theorem sl_list : SlR X (rSlL X.K) := by
  intro pins s σ H x v vl vu lo hi sl Q I rx hs pl pu h
  obtain ⟨a, xs, rfl, hx, q⟩ := h
  cases rx
  obtain ⟨its, r, ht, hz⟩ := I.list hx
  have hlen := r.length
  refine ⟨"list", _, slot_list_getitem.lookup, ht.isList.typeIs, ?_⟩
  refine wpAny_getItem_list_slice ht.isList hs pl pu .none (by simp) ?_ (by rw [List.size_toArray] <;> omega)
  rw [slicePick_cut, ← hlen]
  refine ⟨.ref s.heap.objs.size, _, I.laid (t' := s.toks) (o := .lst (cutV xs lo hi)) (fun b ob q => Heap.get?_push_of_some _ q) (Nat.le_refl _) ?_, rfl, q _ (I.hok.fresh (Nat.le_refl _))⟩
  exact ⟨Nat.le_trans (cutV_length xs lo hi) hz, _, 0, (r.drop (HT.sIx xs.length 0 lo)).take (HT.sIx xs.length xs.length hi - HT.sIx xs.length 0 lo), Heap.get?_push_size _ rfl⟩
def flatV : V → Bool
  | .non => true
  | .bl _ => true
  | .int _ => true
  | .str _ => true
  | _ => false
def eqV : V → V → Bool
  | .non, .non => true
  | .bl a, .bl b => a == b
  | .bl a, .int b => (if a then 1 else 0) == b
  | .int a, .bl b => a == (if b then 1 else 0)
  | .int a, .int b => a == b
  | .str a, .str b => a == b
  | _, _ => false
theorem eqAt_V {A : Around} {s : Shared} {y x : V} {u v : Value} (ry : RelV y u) (rx : RelV x v) (fy : flatV y = true) (fx : flatV x = true) : SeqAt.EqAt A s u v (eqV y x) := by
  cases y with
  | non =>
    cases ry
    cases x with
    | non => cases rx; exact SeqAt.EqAt.same _
    | bl b => cases rx; exact SeqAt.EqAt.none_bool b
    | int b => obtain ⟨t, rfl⟩ := rx; exact SeqAt.EqAt.none_int b t
    | str b => obtain ⟨t, rfl⟩ := rx; exact SeqAt.EqAt.none_str b t
    | _ => exact absurd (show false = true from fx) Bool.false_ne_true
  | bl a =>
    cases ry
    cases x with
    | non => cases rx; exact SeqAt.EqAt.bool_none a
    | bl b => cases rx; exact SeqAt.EqAt.bool_bool a b
    | int b => obtain ⟨t, rfl⟩ := rx; exact SeqAt.EqAt.bool_int a b t
    | str b => obtain ⟨t, rfl⟩ := rx; exact SeqAt.EqAt.bool_str a b t
    | _ => exact absurd (show false = true from fx) Bool.false_ne_true
  | int a =>
    obtain ⟨t', rfl⟩ := ry
    cases x with
    | non => cases rx; exact SeqAt.EqAt.int_none a t'
    | bl b => cases rx; exact SeqAt.EqAt.int_bool a t' b
    | int b => obtain ⟨t, rfl⟩ := rx; exact SeqAt.EqAt.int_int a t' b t
    | str b => obtain ⟨t, rfl⟩ := rx; exact SeqAt.EqAt.int_str a t' b t
    | _ => exact absurd (show false = true from fx) Bool.false_ne_true
  | str a =>
    obtain ⟨t', rfl⟩ := ry
    cases x with
    | non => cases rx; exact SeqAt.EqAt.str_none a t'
    | bl b => cases rx; exact SeqAt.EqAt.str_bool a t' b
    | int b => obtain ⟨t, rfl⟩ := rx; exact SeqAt.EqAt.str_int a t' b t
    | str b => obtain ⟨t, rfl⟩ := rx; exact SeqAt.EqAt.str_str a t' b t
    | _ => exact absurd (show false = true from fx) Bool.false_ne_true
  | _ => exact absurd (show false = true from fy) Bool.false_ne_true
def eqU (x : V) (u : Value) : Bool := match u with
  | .none => eqV .non x
  | .bool b => eqV (.bl b) x
  | .int i _ => eqV (.int i) x
  | .str z _ => eqV (.str z) x
  | _ => false
theorem eqU_of {x y : V} {u : Value} (r : RelV y u) (f : flatV y = true) : eqU x u = eqV y x := by
  cases y with
  | non => cases r; rfl
  | bl b => cases r; rfl
  | int i => obtain ⟨t, rfl⟩ := r; rfl
  | str z => obtain ⟨t, rfl⟩ := r; rfl
  | _ => exact absurd (show false = true from f) Bool.false_ne_true
theorem any_eqU {x : V} : ∀ {xs : List V} {us : List Value}, Vals xs us → xs.all flatV = true → us.any (eqU x) = xs.any fun y => eqV y x
  | _, _, .nil, _ => rfl
  | y :: xs, u :: us, .cons r t, f => by
    rw [List.all_cons, Bool.and_eq_true] at f
    rw [List.any_cons, List.any_cons, eqU_of r f.1, any_eqU t f.2]
theorem mem_eqAt {A : Around} {s : Shared} {x : V} {v : Value} (rx : RelV x v) (fx : flatV x = true) : ∀ {xs : List V} {us : List Value}, Vals xs us → xs.all flatV = true → ∀ u ∈ us, SeqAt.EqAt A s u v (eqU x u)
  | _, _, .nil, _ => fun u hu => by cases hu
  | y :: xs, u :: us, .cons r t, f => fun u' hu => by
    rw [List.all_cons, Bool.and_eq_true] at f
    rcases List.mem_cons.mp hu with rfl | hu
    · rw [eqU_of r f.1]; exact eqAt_V r rx f.1 fx
    · exact mem_eqAt rx fx t f.2 u' hu
def inV (x : V) (xs : List V) : Bool := xs.any fun y => eqV y x
def rIn (K : PySem.W.Frag) (neg : Bool) : R2 := fun x y H Q => ∃ p xs, y = .ref p ∧ (SqL K H p xs ∨ SqT K H p xs) ∧ flatV x = true ∧ xs.all flatV = true ∧ Q (.bl (if neg then !inV x xs else inV x xs)) H
theorem op_in_seq : OpR X (compareOp .In) (rIn X.K false) := by
  intro pins s σ H x y v u Q I rx ry h
  obtain ⟨p, xs, rfl, hq, fx, fs, q⟩ := h
  cases ry
  rcases hq with hq | hq
  · obtain ⟨its, r, pl, hz⟩ := I.list hq
    refine SeqAt.in_listAt (eqU x) pl.isList (fun w hw => mem_eqAt rx fx r fs w (by simpa using hw)) ⟨.bl _, H, I, rfl, ?_⟩
    rw [show its.toArray.any (eqU x) = its.any (eqU x) by simp, any_eqU r fs]
    exact q
  · obtain ⟨its, r, pl, hz⟩ := I.tuple hq
    refine SeqAt.in_tupleAt (eqU x) pl (fun w hw => mem_eqAt rx fx r fs w (by simpa using hw)) ⟨.bl _, H, I, rfl, ?_⟩
    rw [show its.toArray.any (eqU x) = its.any (eqU x) by simp, any_eqU r fs]
    exact q
theorem call_len_seq : CallR X (.builtin "len") (fun xs H Q => ∃ p ys, xs = [.ref p] ∧ (SqL X.K H p ys ∨ SqT X.K H p ys) ∧ Q (.int ys.length) H) := by
  intro pins s σ H xs us Q I r h
  obtain ⟨p, ys, rfl, hq, q⟩ := h
  obtain ⟨u, rfl, rx⟩ := vals1 r
  cases rx
  have hn := line63
  rcases hq with hq | hq
  · obtain ⟨its, r', pl, hz⟩ := I.list hq
    have hlen := r'.length
    exact Calls.call_len_list pl.isList (by simp only [List.size_toArray] <;> omega) ⟨.int ys.length, H, I.tok _, ⟨s.toks + 1, by rw [List.size_toArray, hlen]⟩, q⟩
  · obtain ⟨its, r', pl, hz⟩ := I.tuple hq
    have hlen := r'.length
    exact len_tuple pl (by simp only [List.size_toArray] <;> omega) ⟨.int ys.length, H, I.tok _, ⟨s.toks + 1, by rw [List.size_toArray, hlen]⟩, q⟩
theorem call_list_of : CallR X (.type "list") (fun xs H Q => ∃ p ys, xs = [.ref p] ∧ (SqL X.K H p ys ∨ SqT X.K H p ys) ∧ ∀ l, H l = none → Q (.ref l) (upd H l (.lst ys))) := by
  intro pins s σ H xs us Q I r h
  obtain ⟨p, ys, rfl, hq, q⟩ := h
  obtain ⟨u, rfl, rx⟩ := vals1 r
  cases rx
  have fin : ∀ (its : List Value), Vals ys its → ys.length ≤ sizeLine → ∀ (h' : Heap) (c' : Nat), (∀ b o', s.heap.get? b = some o' → h'.get? b = some o') →
      h'.get? s.heap.objs.size = some { cls := .type "list", dict := none, data := .seq its.toArray c', slots := #[] } → EP X pins σ Q (.ref s.heap.objs.size) { s with heap := h' } := fun its r' hz h' c' kp e =>
    ⟨.ref s.heap.objs.size, _, I.laid (t' := s.toks) kp (Nat.le_refl _) (show ObjOk X.prog X.w _ h' _ (.lst ys) from ⟨hz, its, c', r', e⟩), rfl, q _ (I.hok.fresh (Nat.le_refl _))⟩
  rcases hq with hq | hq
  · obtain ⟨its, r', pl, hz⟩ := I.list hq
    have hlen := r'.length
    obtain ⟨o, ho, hc, n, hd⟩ := pl.isList
    exact call_list_seq p (.inl rfl) ho hc hd (fun h' c' kp e => fin its r' hz h' c' kp e) (by simp only [List.size_toArray] <;> omega)
  · obtain ⟨its, r', pl, hz⟩ := I.tuple hq
    have hlen := r'.length
    obtain ⟨o, ho, hc, n, hd⟩ := pl
    exact call_list_seq p (.inr rfl) ho hc hd (fun h' c' kp e => fin its r' hz h' c' kp e) (by simp only [List.size_toArray] <;> omega)
def tyV (K : PySem.W.Frag) (T : String) (x : V) (H : Hp) : Prop := match x with
  | .str _ => T = "str"
  | .int _ => T = "int"
  | .ref p => (T = "list" ∧ ∃ xs, SqL K H p xs) ∨ (T = "tuple" ∧ ∃ o, K.lookup p = some o ∧ o.cls = .type "tuple" ∧ o.dict = none) ∨
      (T = "dict" ∧ ((∃ kvs, H p = some (.dK kvs)) ∨ ∃ kvs, H p = some (.dT kvs))) ∨ (T = "set" ∧ ∃ S n, H p = some (.set S n))
  | _ => False
theorem tyV_is {pins : List (Addr × Obj)} {σ : St} {H : Hp} {s : Shared} {T : String} {x : V} {v : Value} (I : Inv X pins σ H s) (r : RelV x v) (ty : tyV X.K T x H) :
    s.TypeIs v T ∧ ∀ a, v = .ref a → ∃ ob, s.heap.get? a = some ob ∧ ob.dict = none := by
  cases x with
  | str z =>
    obtain ⟨t, rfl⟩ := r
    cases (show T = "str" from ty)
    exact ⟨typeIs_str s z t, fun _ e => nomatch e⟩
  | int i =>
    obtain ⟨t, rfl⟩ := r
    cases (show T = "int" from ty)
    exact ⟨typeIs_int s i t, fun _ e => nomatch e⟩
  | ref p =>
    cases r
    rcases ty with ⟨rfl, xs, hq⟩ | ⟨rfl, o, hk, hc, hd⟩ | ⟨rfl, hk⟩ | ⟨rfl, S, n, hk⟩
    · obtain ⟨its, _, pl, _⟩ := I.list hq
      refine ⟨pl.isList.typeIs, fun a e => ?_⟩
      cases e
      obtain ⟨o, n, e, c, hd, _⟩ := pl
      exact ⟨o, e, hd⟩
    · refine ⟨⟨o, I.kIn p o hk, hc⟩, fun a e => ?_⟩
      cases e
      exact ⟨o, I.kIn _ o hk, hd⟩
    · have z : ∃ o, s.heap.get? p = some o ∧ o.ExactDict := by
        rcases hk with ⟨kvs, hk⟩ | ⟨kvs, hk⟩
        · obtain ⟨_, _, _, _, o, _, _, e, ex, _⟩ := I.hok p _ hk
          exact ⟨o, e, ex⟩
        · obtain ⟨_, _, _, _, o, _, _, e, ex, _⟩ := I.hok p _ hk
          exact ⟨o, e, ex⟩
      obtain ⟨o, e, ex⟩ := z
      refine ⟨⟨o, e, ex.1⟩, fun a e2 => ?_⟩
      cases e2
      exact ⟨o, e, ex.2.1⟩
    · obtain ⟨o, _, _, _, e, ex, _⟩ := I.hok p _ hk
      refine ⟨⟨o, e, ex.1⟩, fun a e2 => ?_⟩
      cases e2
      exact ⟨o, e, ex.2.1⟩
  | _ => exact False.elim ty
def tBM (K : PySem.W.Frag) (T : String) (r : V → List V → Hp → VK → Prop) (to : TE) (t : TA) : TE := fun σ H Q => to σ H fun x H1 => tyV K T x H1 ∧ t σ H1 fun xs H2 => r x xs H2 Q
variable {o e : Expr} {es : List Expr} {to : TE} {t : TA} {name : Str} {apos cpos : Pos} {T id : String} {r : V → List V → Hp → VK → Prop}
theorem pe_bm (pa : PlainAttrs T) (slot : Slot T name id) (hty : typeOf (.builtin id) = pure (.type "method_descriptor")) (hm : MtR X id r) (ho : PE X o to) (ha : PA X (e :: es) t)
    (hbase : attributeBase o name X.env (eval o X.env) = eval o X.env := by rfl)
    (hfew : ((backTo cpos (starEach (e :: es) X.env)).all (fun x => !x.1) && (backToKw cpos (keywordEach [] X.env)).all (fun x => x.1.isSome)
      && decide ((e :: es).length + ([] : List Keyword).length + (if ([] : List Keyword).isEmpty then 0 else 1) < 30)) = true := by rfl)
    (hline : (apos.endLine == cpos.line) = true := by rfl) (hs : starEach (e :: es) X.env = (false, eval e X.env) :: starEach es X.env := by rfl) (hplain : (backTo cpos (starEach es X.env)).any (·.1) = false := by rfl) :
    PE X (.Call (.Attribute o name apos) (e :: es) [] cpos) (tBM X.K T r to t) := by
  intro pins s σ H Q I h
  refine wpAny_Call_method_late hbase hfew hline rfl (thn (ho pins s σ H _ I h) fun v s1 ⟨x, H1, I1, r1, ty, q1⟩ => ?_)
  obtain ⟨h1, h2⟩ := tyV_is I1 r1 ty
  refine ⟨T, id, pa, slot, hty, h1, h2, ?_⟩
  have hA := ha cpos pins s1 σ H1 _ I1 q1
  rw [hs] at hA ⊢
  refine Calls.callWith_builtin (by show (false || (backTo cpos (starEach es X.env)).any (·.1)) = false; rw [hplain] <;> rfl) (Calls.evalArgs_plain ?_)
  exact thn hA fun us s2 ⟨vs, H2, I2, r2, q2⟩ => hm pins s2 σ H2 x vs v us Q I2 r1 r2 q2
end
end L2
namespace L2
open PySem PySem.Spec PyProof.Rows
def MtM (X : Cx) (id : String) (r : V → List V → Hp → VK → Prop) : Prop :=
  ∀ (pins : List (Addr × Obj)) (s : Shared) (σ : St) (H : Hp) (x : V) (xs : List V) (v : Value) (us : List Value) (Q : VK), Inv X pins σ H s → RelV x v → Vals xs us → r x xs H Q →
    wpAny (model X.prog X.w) X.A (call (.builtin id) (v :: us)) (EP X pins σ Q) X.xe s
theorem Vals.one : ∀ {x : V} {us : List Value}, Vals [x] us → ∃ u, us = [u] ∧ RelV x u
  | _, _, .cons r .nil => ⟨_, rfl, r⟩
theorem Vals.rep {xs : List V} {us : List Value} (h : Vals xs us) : ∀ k : Nat, Vals (List.replicate k xs).flatten (List.replicate k us).flatten
  | 0 => .nil
  | k + 1 => by
    rw [List.replicate_succ, List.replicate_succ, List.flatten_cons, List.flatten_cons]
    exact Vals.append h (Vals.rep h k)
theorem foldl_rep (its : List Value) : ∀ (k : Nat) (acc : List Value),
    List.foldl (fun x1 x2 => x1 ++ x2) acc.toArray (List.replicate k its.toArray) = (acc ++ (List.replicate k its).flatten).toArray
  | 0, acc => by simp
  | k + 1, acc => by
    have e : acc.toArray ++ its.toArray = (acc ++ its).toArray := by simp
    have e2 : (acc ++ its) ++ (List.replicate k its).flatten = acc ++ (List.replicate (k + 1) its).flatten := by
      rw [List.replicate_succ, List.flatten_cons, List.append_assoc]
    rw [← e2, ← foldl_rep its k (acc ++ its), ← e, List.replicate_succ, List.foldl_cons]
section
variable {X : Cx} {pins : List (Addr × Obj)} {σ : St} {H : Hp} {s : Shared} {l b : Addr} {xs ys zs : List V}
theorem Inv.lset {its its' : List Value} {n : Nat} {f : Array Value → Array Value} {t' : Nat} (I : Inv X pins σ H s) (hH : H l = some (.lst xs))
    (e : s.heap.get? l = some { cls := .type "list", data := .seq its.toArray n }) (hf : f its.toArray = its'.toArray) (hv : Vals ys its') (hz : ys.length ≤ sizeLine) :
    Inv X pins σ (upd H l (.lst ys)) { s with heap := s.heap.update l (Obj.mapSeq f), toks := t' } := by
  have q := PySem.IsL.update e f
  rw [hf] at q
  refine I.write (x := l) (e := l) (by rw [hH]; exact trivial) (.inl rfl) (fun b' u hb hu => (Heap.get?_update_other s.heap (Obj.mapSeq f) (Ne.symm hb)).trans hu) ⟨_, q⟩ ?_
  exact ⟨hz, its', _, hv, q⟩
theorem Inv.lnew {its : List Value} {t' : Nat} (I : Inv X pins σ H s) (hv : Vals ys its) (hz : ys.length ≤ sizeLine) :
    Inv X pins σ (upd H s.heap.objs.size (.lst ys)) { s with heap := s.heap.push { cls := .type "list", data := .seq its.toArray }, toks := t' } :=
  I.laid (fun _ _ q => Heap.get?_push_of_some _ q) (Nat.le_refl _) ⟨hz, its, 0, hv, Heap.get?_push_size _ rfl⟩
theorem Inv.fresh (I : Inv X pins σ H s) : H s.heap.objs.size = none := I.hok.fresh (Nat.le_refl _)
theorem Inv.lstM (I : Inv X pins σ H s) (hH : H l = some (.lst xs)) : xs.length ≤ sizeLine ∧ ∃ (its : List Value) (n : Nat), Vals xs its ∧ xs.length = its.length ∧ s.heap.get? l = some { cls := .type "list", data := .seq its.toArray n } := by
  obtain ⟨z, its, n, r, e⟩ := I.hok l _ hH
  exact ⟨z, its, n, r, r.length, e⟩
theorem notLongL {n : Nat} (h : n ≤ sizeLine) : Builtin.List.listTooLong n = false := by
  unfold Builtin.List.listTooLong
  exact decide_eq_false (by omega)
end
section
variable {X : Cx}
def rAppend : V → List V → Hp → VK → Prop := fun x vs H Q => ∃ l xs y, x = .ref l ∧ vs = [y] ∧ H l = some (.lst xs) ∧ xs.length < sizeLine ∧ Q .non (upd H l (.lst (xs ++ [y])))
theorem mt_append : MtM X "list.append" rAppend := by
  intro pins s σ H x vs v us Q I rx rv h
  obtain ⟨l, xs, y, rfl, rfl, hH, hz, q⟩ := h
  cases rx
  obtain ⟨u, rfl, ru⟩ := rv.one
  obtain ⟨z, its, n, r, hl, e⟩ := I.lstM hH
  refine call_meets F.slot_list_append ⟨_, e, rfl⟩ F.entry_list_append (F.args_list_append_2 _ _) (PySem.list_append l its.toArray n u (by rw [List.size_toArray]; omega)) ⟨e, ?_⟩
  refine ⟨.non, _, I.lset (its' := its ++ [u]) hH e (by simp) (r.append (.cons ru .nil)) ?_, rfl, q⟩
  rw [List.length_append, List.length_singleton]
  omega
def rExtend : V → List V → Hp → VK → Prop := fun x vs H Q => ∃ l b xs zs, x = .ref l ∧ vs = [.ref b] ∧ H l = some (.lst xs) ∧ H b = some (.lst zs) ∧ xs.length + zs.length ≤ sizeLine ∧ Q .non (upd H l (.lst (xs ++ zs)))
theorem mt_extend : MtM X "list.extend" rExtend := by
  intro pins s σ H x vs v us Q I rx rv h
  obtain ⟨l, b, xs, zs, rfl, rfl, hH, hB, hz, q⟩ := h
  cases rx
  obtain ⟨u, rfl, ru⟩ := rv.one
  cases ru
  obtain ⟨z, its, n, r, hl, e⟩ := I.lstM hH
  obtain ⟨z2, its2, n2, r2, hl2, e2⟩ := I.lstM hB
  have hsz : its.toArray.size + its2.toArray.size ≤ sizeLine := by rw [List.size_toArray, List.size_toArray]; omega
  have hlong : ¬ (!its.toArray.isEmpty && Builtin.List.listTooLong (its.toArray.size + its2.toArray.size)) = true := by
    rw [notLongL hsz, Bool.and_false]
    exact Bool.false_ne_true
  refine call_meets F.slot_list_extend ⟨_, e, rfl⟩ F.entry_list_extend (F.args_list_extend_2 _ _)
    (AutoSeq1.list_extend_list_list_0 l its.toArray n b its2.toArray n2 hlong (by rw [List.size_toArray]; omega) (by omega)) ⟨e, e2, ?_⟩
  refine ⟨.non, _, I.lset (its' := its ++ its2) hH e (by simp) (r.append r2) ?_, rfl, q⟩
  rw [List.length_append]
  omega
def rCat : R2 := fun x y H Q => ∃ l b xs zs, x = .ref l ∧ y = .ref b ∧ H l = some (.lst xs) ∧ H b = some (.lst zs) ∧ xs.length + zs.length ≤ sizeLine ∧ ∀ p, H p = none → Q (.ref p) (upd H p (.lst (xs ++ zs)))
theorem op_cat : OpR X (binaryOp .Add) rCat := by
  intro pins s σ H x y v u Q I rx ry h
  obtain ⟨l, b, xs, zs, rfl, rfl, hH, hB, hz, q⟩ := h
  cases rx
  cases ry
  obtain ⟨z, its, n, r, hl, e⟩ := I.lstM hH
  obtain ⟨z2, its2, n2, r2, hl2, e2⟩ := I.lstM hB
  refine PySem.P.add_list e e2 ?_ (by rw [List.size_toArray, List.size_toArray]; omega)
  have ea : its.toArray ++ its2.toArray = (its ++ its2).toArray := by simp
  rw [ea]
  exact ⟨.ref _, _, I.lnew (t' := s.toks) (r.append r2) (by rw [List.length_append]; omega), rfl, q _ I.fresh⟩
def rRep : R2 := fun x y H Q => ∃ l k xs, x = .ref l ∧ y = .int k ∧ H l = some (.lst xs) ∧ -(2 ^ 63) ≤ k ∧ k < 2 ^ 63 ∧ xs.length * k.toNat ≤ sizeLine ∧
  ∀ p, H p = none → Q (.ref p) (upd H p (.lst (List.replicate k.toNat xs).flatten))
theorem len_rep {α : Type} (xs : List α) (k : Nat) : (List.replicate k xs).flatten.length = k * xs.length := by
  induction k with
  | zero => simp
  | succ k ih => rw [List.replicate_succ, List.flatten_cons, List.length_append, ih, Nat.succ_mul, Nat.add_comm]
theorem op_rep : OpR X (binaryOp .Mult) rRep := by
  intro pins s σ H x y v u Q I rx ry h
  obtain ⟨l, k, xs, rfl, rfl, hH, h1, h2, hz, q⟩ := h
  cases rx
  obtain ⟨t, rfl⟩ := ry
  obtain ⟨z, its, n, r, hl, e⟩ := I.lstM hH
  have hlen : its.toArray.size * k.toNat ≤ sizeLine := by rw [List.size_toArray, ← hl]; exact hz
  have hcap : ¬ its.toArray.size * k.toNat > (2 ^ 63 - 1) / 8 := by
    have : (sizeLine : Nat) ≤ (2 ^ 63 - 1) / 8 := by decide
    omega
  have hfit : ¬ (!Builtin.List.listFitsIndex k) = true := by
    rw [fitsIndex_both h1 h2]
    exact Bool.false_ne_true
  have hlong : ¬ Builtin.List.listTooLong (its.toArray.size * k.toNat) = true := by
    rw [notLongL hlen]
    exact Bool.false_ne_true
  have hnew : List.foldl (fun x1 x2 => x1 ++ x2) #[] (List.replicate (if its.toArray.isEmpty = true then 0 else k.toNat) its.toArray) = (List.replicate k.toNat its).flatten.toArray := by
    have f0 : ∀ m : Nat, List.foldl (fun x1 x2 => x1 ++ x2) #[] (List.replicate m its.toArray) = (List.replicate m its).flatten.toArray := fun m => by
      have := foldl_rep its m []
      rw [List.nil_append] at this
      exact this
    rw [f0]
    cases its with
    | nil => simp
    | cons a r' => rw [if_neg (by simp)]
  refine wpAny_binaryOp_repeat_ref (T := "list") (U := "int") (by decide) ⟨_, e, rfl⟩ (fun s' => typeIs_int s' k t) noFill_list_mul F.fills_int_mul F.slot_int_rmul repeat_list F.slot_int_index.lookup
    (call_meets F.slot_int_rmul (typeIs_int s k t) F.entry_int_rmul (F.args_int_rmul_2 _ _) (int___rmul___int_list k t l its.toArray n)
      ⟨e, rfl, ⟨_, e, rfl⟩, call_meets F.slot_list_mul ⟨_, e, rfl⟩ F.entry_list_mul (F.args_list_mul_2 _ _) (AutoListH.list___mul___list_int_3 l its.toArray n k t hfit hcap hlong) ⟨e, ?_⟩⟩)
  rw [hnew]
  exact ⟨.ref _, _, I.lnew (t' := s.toks) (r.rep k.toNat) (by rw [len_rep, Nat.mul_comm]; exact hz), rfl, q _ I.fresh⟩
end
end L2
namespace L2
open PySem PySem.Spec PyProof.Rows
theorem Vals.ints : ∀ {ns : List Int} {us : List Value}, Vals (ns.map V.int) us → IntsAre us ns
  | [], us, h => by
    rw [List.map_nil] at h
    cases h
    exact IntsAre.nil
  | n :: ns, us, h => by
    rw [List.map_cons] at h
    cases h with
    | cons r t =>
      obtain ⟨k, rfl⟩ := r
      exact IntsAre.cons n k (Vals.ints t)
theorem vals_of_ints : ∀ {us : List Value} {ns : List Int}, IntsAre us ns → Vals (ns.map V.int) us
  | _, _, .nil => by rw [List.map_nil]; exact Paired.nil
  | _, _, .cons n t h => by rw [List.map_cons]; exact Paired.cons (show RelV (V.int n) (Value.int n t) from ⟨t, rfl⟩) (vals_of_ints h)
theorem Vals.ref1 {a : Addr} {us : List Value} (r : Vals [V.ref a] us) : us = [Value.ref a] := by
  cases r with
  | cons r t =>
    cases t
    cases r
    rfl
theorem Vals.int2 {i j : Int} {us : List Value} (r : Vals [V.int i, V.int j] us) : ∃ t u, us = [Value.int i t, Value.int j u] := by
  cases r with
  | cons r t =>
    cases t with
    | cons r2 t2 =>
      cases t2
      obtain ⟨t, rfl⟩ := r
      obtain ⟨u, rfl⟩ := r2
      exact ⟨t, u, rfl⟩
section
variable {prog : Program} {w : World} {A : Around} {E : Value → Shared → Prop} {s : Shared} {l : Addr} {its : List Value} {ns : List Int} {Q : Value → Shared → Prop}
theorem sum_raw (hh : A.handled = none) (hl : s.heap.IsList l its.toArray) (hi : IntsAre its ns)
    (h : ∀ h' tk t', (∀ b o, s.heap.get? b = some o → h'.get? b = some o) → Q (.int ns.sum t') { s with heap := h', toks := tk }) : wpAny (model prog w) A (call (.builtin "sum") [.ref l]) Q E s := by
  obtain ⟨xs, e⟩ := hi.allInts.items
  have hn : numsOf (intItems xs).toList = ns := by rw [← e]; exact hi.numsOf
  rw [nums_intItems] at hn
  rw [e] at hl
  refine PySem.sum_intListG hh hl fun h' tk t' hk => ?_
  have := h h' tk t' hk
  rw [preSum_eq, List.take_of_length_le (by simp), hn]; exact this
end
section
variable {X : Cx}
def rSum (K : PySem.W.Frag) : List V → Hp → VK → Prop := fun vs H Q => ∃ (a : Addr) (ns : List Int), vs = [V.ref a] ∧ SqL K H a (ns.map V.int) ∧ Q (.int ns.sum) H
theorem cr_sum (hc : X.calm = true) : CallR X (.builtin "sum") (rSum X.K) := by
  intro pins s σ H vs us Q I r h
  obtain ⟨a, ns, rfl, hs, q⟩ := h
  obtain ⟨its, rv, hl, _⟩ := I.list hs
  rw [Vals.ref1 r]
  exact sum_raw (I.ok.hd hc) hl.isList rv.ints fun h' tk t' hk => ⟨.int _, H, I.kept hk, ⟨_, rfl⟩, q⟩
end
end L2
namespace L2
open PySem PySem.Spec PyProof.Rows
abbrev CellAt (h : Heap) (c : Addr) (v : Option Value) : Prop := h.IsCell c v
def relS (scope sc : Scope) : Scope :=
  { scope with names := scope.names.map fun (n, k) => if (k == .free && sc.kind == .function && sc.names.lookup n == some .cell) then (n, .cell) else (n, k) }
def cloFrom (cells : List (Str × Addr)) : List (Str × NameKind) → List (Str × Addr) → List (Str × Addr)
  | [], acc => acc
  | (n, k) :: r, acc => if k == .free then cloFrom cells r ((n, (cells.lookup n).getD 0) :: acc) else cloFrom cells r acc
theorem closure_loop (env : Env) (f : Str × NameKind → List (Str × Addr) → Sem (ForInStep (List (Str × Addr))))
    (hf : ∀ n k c, f (n, k) c = if k == .free then (do let a ← cellOf env n; pure (.yield ((n, a) :: c))) else pure (.yield c)) :
    ∀ (names : List (Str × NameKind)) (acc : List (Str × Addr)), (∀ y ∈ names, y.2 = .free → ∃ c, env.cells.lookup y.1 = some c) → forIn names acc f = pure (cloFrom env.cells names acc)
  | [], acc, _ => by rw [List.forIn_nil]; rfl
  | (n, k) :: r, acc, h => by
    rw [List.forIn_cons, hf]
    have ih := fun acc => closure_loop env f hf r acc fun y hy => h y (List.mem_cons_of_mem _ hy)
    unfold cloFrom
    by_cases hk : (k == NameKind.free) = true
    · rw [if_pos hk, if_pos hk]
      obtain ⟨c, hc⟩ := h (n, k) List.mem_cons_self (by simpa using hk)
      have e : cellOf env n = pure c := by unfold cellOf; rw [hc]
      rw [e]
      have e2 : (env.cells.lookup n).getD 0 = c := by rw [hc]; rfl
      rw [e2]
      exact ih _
    · rw [if_neg hk, if_neg hk]
      exact ih _
theorem closure_ok {scope : Scope} {env : Env} (h : ∀ y ∈ scope.names, y.2 = .free → ∃ c, env.cells.lookup y.1 = some c) : closureFor scope env = pure (cloFrom env.cells scope.names []) := by
  simp only [closureFor]
  rw [closure_loop env _ (fun n k c => rfl) scope.names [] h]
  rfl
theorem mem_lookup {α : Type} : ∀ {l : List (Str × α)} {n : Str} {c : α}, (n, c) ∈ l → ∃ c', l.lookup n = some c'
  | (k, v) :: r, n, c, h => by
    rw [List.lookup_cons]
    cases hb : n == k with
    | true => exact ⟨_, rfl⟩
    | false =>
      rcases List.mem_cons.mp h with e | h
      · cases e; simp at hb
      · exact mem_lookup h
theorem cloFrom_mem {cells : List (Str × Addr)} : ∀ {names : List (Str × NameKind)} {acc : List (Str × Addr)} {n : Str} {c : Addr}, (n, c) ∈ cloFrom cells names acc → (n, c) ∈ acc ∨ ((n, .free) ∈ names ∧ c = (cells.lookup n).getD 0)
  | [], _, _, _, h => .inl h
  | (m, k) :: r, acc, n, c, h => by
    unfold cloFrom at h
    split at h
    · rename_i hk
      have hk : k = .free := by simpa using hk
      rcases cloFrom_mem h with h | ⟨h1, h2⟩
      · rcases List.mem_cons.mp h with e | h
        · cases e; exact .inr ⟨hk ▸ List.mem_cons_self, rfl⟩
        · exact .inl h
      · exact .inr ⟨List.mem_cons_of_mem _ h1, h2⟩
    · rcases cloFrom_mem h with h | ⟨h1, h2⟩
      · exact .inl h
      · exact .inr ⟨List.mem_cons_of_mem _ h1, h2⟩
theorem cloFrom_acc {cells : List (Str × Addr)} : ∀ {names : List (Str × NameKind)} {acc : List (Str × Addr)} {p : Str × Addr}, p ∈ acc → p ∈ cloFrom cells names acc
  | [], _, _, h => h
  | (m, k) :: r, acc, p, h => by
    unfold cloFrom
    split
    · exact cloFrom_acc (List.mem_cons_of_mem _ h)
    · exact cloFrom_acc h
theorem cloFrom_has {cells : List (Str × Addr)} : ∀ {names : List (Str × NameKind)} {acc : List (Str × Addr)} {n : Str}, (n, .free) ∈ names → (n, (cells.lookup n).getD 0) ∈ cloFrom cells names acc
  | (m, k) :: r, acc, n, h => by
    unfold cloFrom
    rcases List.mem_cons.mp h with e | h
    · cases e
      exact cloFrom_acc List.mem_cons_self
    · split
      · exact cloFrom_has h
      · exact cloFrom_has h
theorem cells_mem : ∀ {names : List (Str × NameKind)} {h : Heap} {acc : List (Str × Addr)} {x : Str} {c : Addr}, (x, c) ∈ cellsFrom h.objs.size names acc →
    (x, c) ∈ acc ∨ ((x, .cell) ∈ names ∧ h.objs.size ≤ c ∧ CellAt (pushCells h names) c none)
  | [], _, _, _, _, h => .inl h
  | (n, k) :: r, h, acc, x, c, hm => by
    unfold cellsFrom at hm
    unfold pushCells
    split at hm
    · rename_i hk
      rw [if_pos hk]
      have hk : k = .cell := by simpa using hk
      rw [← Heap.size_push h { cls := .type "cell", data := .cell none }] at hm
      rcases cells_mem hm with hm | ⟨h1, h2, h3⟩
      · rcases List.mem_cons.mp hm with e | hm
        · cases e
          exact .inr ⟨hk ▸ List.mem_cons_self, Nat.le_refl _, _, pushCells_keeps r _ _ _ (Heap.get?_push_size _ rfl), rfl⟩
        · exact .inl hm
      · rw [Heap.size_push] at h2
        exact .inr ⟨List.mem_cons_of_mem _ h1, Nat.le_of_succ_le h2, h3⟩
    · rename_i hk
      rw [if_neg hk]
      rcases cells_mem hm with hm | ⟨h1, h2, h3⟩
      · exact .inl hm
      · exact .inr ⟨List.mem_cons_of_mem _ h1, h2, h3⟩
theorem cells_acc : ∀ {names : List (Str × NameKind)} {n : Nat} {acc : List (Str × Addr)} {p : Str × Addr}, p ∈ acc → p ∈ cellsFrom n names acc
  | [], _, _, _, h => h
  | (m, k) :: r, n, acc, p, h => by
    unfold cellsFrom
    split
    · exact cells_acc (List.mem_cons_of_mem _ h)
    · exact cells_acc h
theorem cells_has : ∀ {names : List (Str × NameKind)} {n : Nat} {acc : List (Str × Addr)} {x : Str}, (x, .cell) ∈ names → ∃ c, (x, c) ∈ cellsFrom n names acc
  | (m, k) :: r, n, acc, x, h => by
    unfold cellsFrom
    rcases List.mem_cons.mp h with e | h
    · cases e
      exact ⟨n, cells_acc List.mem_cons_self⟩
    · split
      · exact cells_has h
      · exact cells_has h
theorem cells_inj : ∀ {names : List (Str × NameKind)} {h : Heap} {acc : List (Str × Addr)} {x y : Str} {c : Addr}, (∀ p ∈ acc, p.2 < h.objs.size) → (∀ x y c, (x, c) ∈ acc → (y, c) ∈ acc → x = y) →
    (x, c) ∈ cellsFrom h.objs.size names acc → (y, c) ∈ cellsFrom h.objs.size names acc → x = y
  | [], _, _, _, _, _, _, hi, h1, h2 => hi _ _ _ h1 h2
  | (n, k) :: r, h, acc, x, y, c, hl, hi, h1, h2 => by
    unfold cellsFrom at h1 h2
    split at h1
    · rename_i hk
      rw [if_pos hk] at h2
      rw [← Heap.size_push h { cls := .type "cell", data := .cell none }] at h1 h2
      refine cells_inj (h := h.push _) (fun p hp => ?_) (fun x y c a b => ?_) h1 h2
      · rw [Heap.size_push]
        rcases List.mem_cons.mp hp with rfl | hp
        · exact Nat.lt_succ_self _
        · exact Nat.lt_succ_of_lt (hl p hp)
      · rcases List.mem_cons.mp a with e | a <;> rcases List.mem_cons.mp b with e' | b
        · cases e; cases e'; rfl
        · cases e; exact absurd (hl _ b) (Nat.lt_irrefl _)
        · cases e'; exact absurd (hl _ a) (Nat.lt_irrefl _)
        · exact hi _ _ _ a b
    · rename_i hk
      rw [if_neg hk] at h2
      exact cells_inj hl hi h1 h2
theorem newEnv_comp {M : Model} {A : Around} {E : Value → Shared → Prop} {s : Shared} {scope : Scope} {globals : Addr} {closure : List (Str × Addr)} {qual : Str} {func : Option Addr} {code : Value} {around : Env} {builtins : Addr} {Q : Env → Shared → Prop}
    (h : Q (newEnv scope s.heap.objs.size globals (cellsFrom (s.heap.objs.size + 1) scope.names closure) qual func code (some around) builtins)
      { s with heap := pushCells (s.heap.push { cls := .type "dict", data := .dict #[] }) scope.names }) :
    wpAny M A (newFunctionEnv scope globals closure [] qual func code (some around) builtins) Q E s := by
  simp only [newFunctionEnv, Option.isSome_some, if_true]
  refine wpAny_bind (wpAny_alloc ?_)
  refine wpAny_bind (wpAny_layCells _ (fun n k c => rfl) scope.names closure _ _ ?_)
  rw [show ({ s with heap := s.heap.push { cls := .type "dict", data := .dict #[] } } : Shared).heap.objs.size = s.heap.objs.size + 1 from Heap.size_push ..]
  rw [List.forIn_nil]
  exact wpAny_bind (wpAny_pure (wpAny_pure h))
theorem lookup_relS {sc : Scope} : ∀ {names : List (Str × NameKind)} {x : Str} {k : NameKind},
    (names.map fun (n, k) => if (k == NameKind.free && sc.kind == .function && sc.names.lookup n == some .cell) then (n, NameKind.cell) else (n, k)).lookup x = some k →
    ∃ k', names.lookup x = some k' ∧ (k = k' ∨ (k' = .free ∧ k = .cell))
  | [], _, _, h => by simp at h
  | (n, k₀) :: r, x, k, h => by
    have ih := @lookup_relS sc r x k
    have h' : List.lookup x ((if (k₀ == NameKind.free && sc.kind == .function && sc.names.lookup n == some .cell) = true then (n, NameKind.cell) else (n, k₀)) :: (r.map _)) = some k := h
    cases hx : x == n with
    | true =>
      simp only [List.lookup_cons, hx]
      by_cases hc : (k₀ == NameKind.free && sc.kind == .function && sc.names.lookup n == some .cell) = true
      · rw [if_pos hc] at h'
        simp only [List.lookup_cons, hx] at h'
        cases h'
        simp only [Bool.and_eq_true, beq_iff_eq] at hc
        exact ⟨k₀, rfl, .inr ⟨hc.1.1, rfl⟩⟩
      · rw [if_neg hc] at h'
        simp only [List.lookup_cons, hx] at h'
        cases h'
        exact ⟨_, rfl, .inl rfl⟩
    | false =>
      simp only [List.lookup_cons, hx]
      by_cases hc : (k₀ == NameKind.free && sc.kind == .function && sc.names.lookup n == some .cell) = true
      · rw [if_pos hc] at h'
        simp only [List.lookup_cons, hx] at h'
        exact ih h'
      · rw [if_neg hc] at h'
        simp only [List.lookup_cons, hx] at h'
        exact ih h'
structure BlkOk (N : List Str) (sc scope : Scope) (own : List (Str × Nat)) : Prop where
  kind : scope.kind = .function
  uniq : ∀ y ∈ scope.names, scope.names.lookup y.1 = some y.2
  ix : ∀ p ∈ own, N[p.2]? = some p.1
  free : ∀ y ∈ scope.names, y.2 = .free → sc.names.lookup y.1 = some .cell ∨ sc.names.lookup y.1 = some .free
  own : ∀ y ∈ scope.names, y.2 = .local ∨ y.2 = .cell → y.1 ∈ own.map (·.1) ∨ y.1 ∉ N
def wipe (σ : St) : List Nat → St
  | [] => σ
  | v :: vs => (wipe σ vs).set v none
theorem wipe_length (σ : St) : ∀ vs : List Nat, (wipe σ vs).length = σ.length
  | [] => rfl
  | v :: vs => by unfold wipe; rw [List.length_set, wipe_length σ vs]
theorem wipe_some {σ : St} {i : Nat} {x : V} : ∀ {vs : List Nat}, (wipe σ vs)[i]? = some (some x) → σ[i]? = some (some x) ∧ i ∉ vs
  | [], h => ⟨h, by simp⟩
  | v :: vs, h => by
    unfold wipe at h
    by_cases hi : v = i
    · subst hi
      by_cases hv : v < (wipe σ vs).length
      · rw [List.getElem?_set_self hv] at h; cases h
      · rw [List.getElem?_eq_none (by simpa using hv)] at h; cases h
    · rw [List.getElem?_set_ne hi] at h
      obtain ⟨h1, h2⟩ := wipe_some h
      exact ⟨h1, by simp only [List.mem_cons, not_or]; exact ⟨fun e => hi e.symm, h2⟩⟩
abbrev Cx.blk (X : Cx) (s : Shared) (H : Hp) (scope : Scope) (cenv : Env) (fp : List Addr) : Cx := { X with s_0 := s, H_0 := H, env := cenv, outer := X.stack, ex := fp, fn := fun x => scope.names.lookup x == some .cell, pn := [], xe := fun _ _ => False }
section
variable {X : Cx} {pins : List (Addr × Obj)} {σ : St} {H : Hp} {s : Shared}
theorem block_start {scope : Scope} {own : List (Str × Nat)} {fp : List Addr} (I : Inv X pins σ H s) (ok : BlkOk X.N X.env.scope scope own) (hN : X.N.Nodup) (hfp : ∀ b ∈ fp, FpOk X pins H b ∧ b < s.heap.objs.size) :
    Inv (X.blk s H scope (compEnvC scope (cellsFrom (s.heap.objs.size + 1) scope.names (cloFrom X.env.cells scope.names [])) s.heap.objs.size X.env) fp) [] (wipe σ (own.map (·.2))) H { s with heap := pushCells (s.heap.push { cls := .type "dict", data := .dict #[] }) scope.names } := by
  have hfree : ∀ y ∈ scope.names, y.2 = .free → ∃ c, X.env.cells.lookup y.1 = some c := fun y hy e => by
    rcases ok.free y hy e with k | k
    · exact I.ok.has _ (.inl k)
    · exact I.ok.has _ (.inr k)
  generalize hcenv : compEnvC scope (cellsFrom (s.heap.objs.size + 1) scope.names (cloFrom X.env.cells scope.names [])) s.heap.objs.size X.env = cenv
  have kp : ∀ b o, s.heap.get? b = some o → (pushCells (s.heap.push { cls := .type "dict", data := .dict #[] }) scope.names).get? b = some o := fun b o e => pushCells_keeps _ _ _ _ (Heap.get?_push_of_some _ e)
  have hL : cenv.locals = s.heap.objs.size := by rw [← hcenv]; rfl
  have hcl : cenv.cells = cellsFrom (s.heap.objs.size + 1) scope.names (cloFrom X.env.cells scope.names []) := by rw [← hcenv]; rfl
  have hsc : cenv.scope = relS scope X.env.scope := by rw [← hcenv]; rfl
  rw [← Heap.size_push s.heap { cls := .type "dict", data := .dict #[] }] at hcl
  have cm : ∀ {y c}, (y, c) ∈ cloFrom X.env.cells scope.names [] → X.env.cells.lookup y = some c ∧ c < s.heap.objs.size := fun {y c} hm => by
    rcases cloFrom_mem hm with hm | ⟨h1, rfl⟩
    · cases hm
    · obtain ⟨c, hc⟩ := hfree _ h1 rfl
      rw [hc]
      obtain ⟨w, z⟩ := I.cell _ _ hc
      exact ⟨rfl, z.lt⟩
  have mem : ∀ {y c}, cenv.cells.lookup y = some c → (X.env.cells.lookup y = some c ∧ c < s.heap.objs.size) ∨ (s.heap.objs.size + 1 ≤ c ∧ CellAt (pushCells (s.heap.push { cls := .type "dict", data := .dict #[] }) scope.names) c none) := fun {y c} e => by
    rw [hcl] at e
    rcases cells_mem (PySem.mem_of_lookup e) with hm | ⟨_, h2, h3⟩
    · exact .inl (cm hm)
    · rw [Heap.size_push] at h2; exact .inr ⟨h2, h3⟩
  have look : ∀ {y}, scope.names.lookup y = some .free → ∃ c, cenv.cells.lookup y = some c ∧ X.env.cells.lookup y = some c := fun {y} hl => by
    have hy : (y, NameKind.free) ∈ scope.names := PySem.mem_of_lookup hl
    obtain ⟨c', e'⟩ := mem_lookup (cells_acc (names := scope.names) (n := (s.heap.push { cls := .type "dict", data := .dict #[] }).objs.size) (cloFrom_has (cells := X.env.cells) (acc := []) hy))
    rw [← hcl] at e'
    refine ⟨c', e', ?_⟩
    rw [hcl] at e'
    rcases cells_mem (PySem.mem_of_lookup e') with hm | ⟨h1, _, _⟩
    · exact (cm hm).1
    · have := ok.uniq _ h1
      rw [hl] at this; cases this
  have okB : (X.blk s H scope cenv fp).Ok := by
    refine ⟨I.ok.mod, by show cenv.scope.kind = _; rw [hsc]; exact ok.kind, by show cenv.globals = _; rw [← hcenv]; exact I.ok.glob, by show cenv.builtins = _; rw [← hcenv]; exact I.ok.blt, by show s.heap.objs.size ≤ cenv.locals; rw [hL]; exact Nat.le_refl _,
      fun y z c e1 e2 => ?_, fun y hy => ?_, fun y c z e => ?_, I.ok.hd, I.ok.frames, .inl rfl, fun b hb => ⟨?_, fun y c e z => ?_⟩, I.bs, Nat.le_trans I.ok.bsz I.sz, fun b o e hb => ?_, fun b hb z => ?_, I.stack, I.stkFree⟩
    · have e1 : cenv.cells.lookup y = some c := e1
      have e2 : cenv.cells.lookup z = some c := e2
      rw [hcl] at e1 e2
      refine cells_inj (fun p hp => ?_) (fun y z c a b => I.ok.inj y z c (cm a).1 (cm b).1) (PySem.mem_of_lookup e1) (PySem.mem_of_lookup e2)
      rw [Heap.size_push]
      exact Nat.lt_succ_of_lt (cm (y := p.1) (c := p.2) hp).2
    · show ∃ c, cenv.cells.lookup y = some c
      have key : ∀ k, cenv.kindOf y = some k → (k = .cell ∨ k = .free) → ∃ c, cenv.cells.lookup y = some c := fun k hk hk' => by
        unfold Env.kindOf at hk
        rw [hsc] at hk
        obtain ⟨k', e, r⟩ := lookup_relS hk
        have : k' = .cell ∨ k' = .free := by
          rcases r with rfl | ⟨rfl, _⟩
          · exact hk'
          · exact .inr rfl
        rcases this with rfl | rfl
        · obtain ⟨c, hm⟩ := cells_has (n := (s.heap.push { cls := .type "dict", data := .dict #[] }).objs.size) (acc := cloFrom X.env.cells scope.names []) (PySem.mem_of_lookup e)
          obtain ⟨c', e'⟩ := mem_lookup hm
          exact ⟨c', by rw [hcl]; exact e'⟩
        · obtain ⟨c, h1, _⟩ := look e
          exact ⟨c, h1⟩
      rcases hy with hy | hy
      · exact key _ hy (.inl rfl)
      · exact key _ hy (.inr rfl)
    · have z : (scope.names.lookup y == some NameKind.cell) = true := z
      have z : scope.names.lookup y = some .cell := by simpa using z
      have e : cenv.cells.lookup y = some c := e
      rw [hcl] at e
      rcases cells_mem (PySem.mem_of_lookup e) with hm | ⟨_, h2, _⟩
      · rcases cloFrom_mem hm with hm | ⟨h1, _⟩
        · cases hm
        · have q := ok.uniq _ h1
          rw [z] at q; cases q
      · rw [Heap.size_push] at h2
        exact Nat.le_of_succ_le h2
    · show b ≠ cenv.locals
      rw [hL]; exact Nat.ne_of_lt (hfp b hb).2
    · have e : cenv.cells.lookup y = some c := e
      rcases mem e with ⟨h1, _⟩ | ⟨h1, _⟩
      · exact (hfp b hb).1.2.2.2.2.1 y c h1 z
      · have h2 : s.heap.objs.size + 1 ≤ b := by rw [← z]; exact h1
        exact absurd (Nat.lt_of_lt_of_le (hfp b hb).2 (Nat.le_of_succ_le h2)) (Nat.lt_irrefl _)
    · rcases (hfp b hb).1.2.2.2.1 with z | z
      · exact I.ok.noex b o e z
      · exact absurd (Nat.lt_of_lt_of_le (Heap.lt_size e) (Nat.le_trans I.ok.bsz z)) (Nat.lt_irrefl _)
    · rcases List.mem_cons.mp (I.stkSub b z) with z | z
      · exact (hfp b hb).1.2.1 z
      · exact (hfp b hb).1.2.2.1 z
  refine ⟨okB, rfl, I.bare, Un.kept kp, ⟨fun _ => none, ?_, fun i y av e1 e2 e3 => ?_⟩, fun y c e => ?_, ?_, fun y c e => ?_, fun p hp => ?_, I.hok.kept kp, by rw [wipe_length]; exact I.len⟩
  · show Heap.Ns _ cenv.locals _
    rw [hL]
    exact Heap.Ns.keeps (Heap.Ns.new ..) fun b o e => pushCells_keeps _ _ _ _ e
  · obtain ⟨e2, hne⟩ := wipe_some e2
    have hfr : scope.names.lookup y = some .free ∧ (cenv.kindOf y = some .cell ∨ cenv.kindOf y = some .free) := by
      have key : ∀ k, cenv.scope.names.lookup y = some k → k = .local ∨ k = .cell ∨ k = .free → scope.names.lookup y = some .free ∧ (cenv.kindOf y = some .cell ∨ cenv.kindOf y = some .free) := fun k hk hk' => by
        have hk0 := hk
        rw [hsc] at hk
        obtain ⟨k', e, r⟩ := lookup_relS hk
        have no : ¬ (k' = .local ∨ k' = .cell) := fun hh => by
          rcases ok.own _ (PySem.mem_of_lookup e) hh with e' | e'
          · obtain ⟨p, hp, hpy⟩ := List.mem_map.mp e'
            have e3 := ok.ix p hp
            have : p.1 = y := hpy
            rw [this] at e3
            exact hne (List.mem_map.mpr ⟨p, hp, nodup_ix hN e3 e1⟩)
          · exact e' (List.mem_of_getElem? e1)
        rcases r with rfl | ⟨rfl, rfl⟩
        · rcases hk' with rfl | rfl | rfl
          · exact absurd (.inl rfl) no
          · exact absurd (.inr rfl) no
          · exact ⟨e, .inr hk0⟩
        · exact ⟨e, .inl hk0⟩
      have e3 : Vis cenv.scope y := e3
      rcases e3 with e3 | e3 | e3
      · exact key _ e3 (.inl rfl)
      · exact key _ e3 (.inr (.inl rfl))
      · exact key _ e3 (.inr (.inr rfl))
    obtain ⟨m, hn, hl⟩ := I.loc
    have hvis : Vis X.env.scope y := (ok.free _ (PySem.mem_of_lookup hfr.1) rfl).elim (fun k => .inr (.inl k)) (fun k => .inr (.inr k))
    obtain ⟨w, r, q⟩ := hl i y av e1 e2 hvis
    refine ⟨w, r, .inr ⟨hfr.2, ?_⟩⟩
    obtain ⟨c, h1, h2⟩ := look hfr.1
    rcases q with ⟨k, _⟩ | ⟨_, c', e', z⟩
    · have k : X.env.scope.names.lookup y = some .local := k
      rcases ok.free _ (PySem.mem_of_lookup hfr.1) rfl with k' | k' <;> rw [show X.env.scope.names.lookup y = _ from k'] at k <;> cases k
    · rw [h2] at e'; cases e'
      exact ⟨c, h1, z.keeps kp⟩
  · have e : cenv.cells.lookup y = some c := e
    rcases mem e with ⟨h1, _⟩ | ⟨_, z⟩
    · obtain ⟨w, z⟩ := I.cell y c h1
      exact ⟨w, z.keeps kp⟩
    · exact ⟨_, z⟩
  · show H cenv.locals = none
    rw [hL]; exact I.hok.fresh (Nat.le_refl _)
  · have e : cenv.cells.lookup y = some c := e
    rcases mem e with ⟨h1, _⟩ | ⟨h1, _⟩
    · exact I.freeC y c h1
    · exact I.hok.fresh (Nat.le_of_succ_le h1)
  · exact absurd (show p ∈ ([] : List (Addr × Obj)) ++ [] from hp) (by simp)
theorem app_ok {E : Value → Shared → Prop} {D : Addr} {xs : List V} {y : V} {v : Value} {Q : Value → Shared → Prop} (I : Inv X pins σ H s) (hD : H D = some (.lst xs)) (hz : xs.length < sizeLine) (r : RelV y v)
    (h : ∀ s', Inv X pins σ (upd H D (.lst (xs ++ [y]))) s' → Q .none s') : wpAny (model X.prog X.w) X.A (call (.builtin "list.append") [.ref D, v]) Q E s := by
  obtain ⟨hz', its, n, ri, e⟩ := I.hok D _ hD
  have hl := ri.length
  refine append_at (hsz := by rw [List.size_toArray]; omega) e fun h' sb ho' => ?_
  refine h { s with heap := h' } (I.write (t' := s.toks) (by rw [hD]; trivial) (.inl rfl) (fun b u hb q => (sb.2 b hb).trans q) ⟨_, ho'⟩ ⟨by rw [List.length_append]; exact hz, its ++ [v], n + 1, ri.append (.cons r .nil), ?_⟩)
  rw [ho']
  simp
def PTs (X : Cx) (ifs : List Expr) (t : TT) : Prop :=
  ∀ (pins : List (Addr × Obj)) (s : Shared) (σ : St) (H : Hp) (Q : Bool → Hp → Prop), Inv X pins σ H s → t σ H Q →
    wpAny (model X.prog X.w) X.A (forIn ifs true fun c r => if r = true then do let ok ← isTrue c X.env (eval c X.env); pure (ForInStep.yield ok) else pure (ForInStep.yield r)) (TP X pins σ Q) X.xe s
def tYes : TT := fun _ H Q => Q true H
theorem pts_nil : PTs X [] tYes := fun _ _ _ H _ I h => wpAny_tests_nil ⟨H, I, h⟩
theorem pts_one {c : Expr} {t : TT} (h : PT X c t) : PTs X [c] t := fun pins s σ H Q I hw => wpAny_tests_one (h pins s σ H Q I hw)
end
theorem thnF {α : Type} {t : Sem α} {Q Q' : α → Shared → Prop} {M : Model} {A : Around} {E : Value → Shared → Prop} {s : Shared} (h : wpAny M A t Q (fun _ _ => False) s) (hQ : ∀ a s, Q a s → Q' a s) : wpAny M A t Q' E s := wpAny_mono h hQ fun _ _ z => False.elim z
theorem compLoop_any {prog : Program} {w : World} {A : Around} {R : Result → Shared → Prop} {s : Shared} {elt target iter : Expr} {ifs : List Expr} {scope : Scope} {pos : Pos} {it acc : Value} {env : Env} (I : Nat → Shared → Prop)
    (turn : ∀ n s, I n s → wpAny (model prog w) A (pyNext it) (fun r s₁ => match r with
      | none => R (.ok .next) s₁
      | some v => wpAny (model prog w) A (letOwnedTupleGo target it v) (fun _ s₁' => wpAny (model prog w) A (assign target env v) (fun _ s₂ =>
          wpAny (model prog w) A (forIn ifs true fun c r => if r = true then do let ok ← isTrue c env (eval c env); pure (ForInStep.yield ok) else pure (ForInStep.yield r)) (fun ok s₃ =>
            if ok = true then wpAny (model prog w) A (eval elt env) (fun x s₄ =>
              wpAny (model prog w) A (call (.builtin "list.append") [acc, x]) (fun _ s₅ => ∃ m, m < n ∧ I m s₅) (notedBy (model prog w) A env fun e s' => R (.error e) s') s₄) (notedBy (model prog w) A env fun e s' => R (.error e) s') s₃
            else ∃ m, m < n ∧ I m s₃) (notedBy (model prog w) A env fun e s' => R (.error e) s') s₂) (notedBy (model prog w) A env fun e s' => R (.error e) s') s₁') (notedBy (model prog w) A env fun e s' => R (.error e) s') s₁) (notedBy (model prog w) A env fun e s' => R (.error e) s') s)
    (n : Nat) (h : I n s) :
    codeAny (model prog w) A (.compLoop (.ListComp elt [⟨target, iter, ifs, 0⟩] scope pos) 0 it acc env) R s := by
  refine codeAny_loop rfl I (fun n s hI => ?_) n h
  show wpAny _ A ((compTurn (.ListComp elt [⟨target, iter, ifs, 0⟩] scope pos) 0 it acc env).onRaise (fun x => do noteFrame x env; theTreesLotGoes x)) _ _ s
  refine wpAny_noted ?_
  rw [compTurn_list]
  refine wpAny_bind (wpAny_standAt (wpAny_bind (wpAny_mono (turn n s hI) (fun r s₁ h₁ => ?_) fun _ _ h' => h')))
  cases r with
  | none => exact wpAny_pure h₁
  | some v =>
    refine wpAny_bind (wpAny_mono h₁ (fun _ s₁' h₁' => ?_) fun _ _ h' => h')
    refine wpAny_bind (wpAny_mono h₁' (fun _ s₂ h₂ => wpAny_bind (wpAny_mono h₂ (fun ok s₃ h₃ => ?_) fun _ _ h' => h')) fun _ _ h' => h')
    cases ok with
    | false => exact wpAny_pure ⟨rfl, h₃⟩
    | true =>
      exact wpAny_bind (wpAny_bind (wpAny_mono h₃ (fun x s₄ h₄ => wpAny_bind (wpAny_mono h₄ (fun _ s₅ h₅ => wpAny_pure (wpAny_pure ⟨rfl, h₅⟩)) fun _ _ h' => h')) fun _ _ h' => h'))
section
variable {X : Cx}
def tLc (wi : TI) (g : TG) (tt : TT) (te : TE) (vs : List Nat) : TE := fun σ H Q => wi σ H fun J H1 => ∀ D, H1 D = none → ∃ W : Nat → Nat → Hp → Prop, (∃ m, W 0 m (upd H1 D (.lst []))) ∧ ∀ i m H, W i m H →
  (J.stop i H ∧ Q (.ref D) H) ∨ (J.go i H ∧ ∃ Nx : Hp → Prop, (∀ H', Nx H' → ∃ m', m' < m ∧ W (i + 1) m' H') ∧ ∀ x H', J.yld i H x H' → g x (wipe σ vs) H' fun σ2 H2 => wipe σ2 vs = wipe σ vs ∧ tt σ2 H2 fun b H3 =>
    if b = true then te σ2 H3 fun y H4 => ∃ acc, H4 D = some (.lst acc) ∧ acc.length < sizeLine ∧ Nx (upd H4 D (.lst (acc ++ [y]))) else Nx H3)
theorem lc_core {pins : List (Addr × Obj)} {s : Shared} {σ : St} {H : Hp} {Q : VK} {elt tg iter : Expr} {ifs : List Expr} {scope : Scope} {own : List (Str × Nat)} {pos pos' : Pos} {wi : TI} {g : TG} {tt : TT} {te : TE} {use : Option (Value → Sem Unit)} {Qf : Value → Shared → Prop}
    (hc : X.calm = true) (hN : X.N.Nodup) (I : Inv X pins σ H s) (hi : PI X tg iter wi) (ok : BlkOk X.N X.env.scope scope own)
    (hg : ∀ (s : Shared) (H : Hp) (C : Addr) (cl : List (Str × Addr)) (fp : List Addr), PG (X.blk s H scope (compEnvC scope cl C X.env) fp) tg g) (ht : ∀ (s : Shared) (H : Hp) (C : Addr) (cl : List (Str × Addr)) (fp : List Addr), PTs (X.blk s H scope (compEnvC scope cl C X.env) fp) ifs tt)
    (he : ∀ (s : Shared) (H : Hp) (C : Addr) (cl : List (Str × Addr)) (fp : List Addr), PE (X.blk s H scope (compEnvC scope cl C X.env) fp) elt te) (hs : ∀ x, foldedSetIterable iter X.env x = pure x)
    (h : tLc wi g tt te (own.map (·.2)) σ H Q)
    (hRR : ∀ D C s' m H', Inv X pins σ H' s' → Q (.ref D) H' → s'.heap.Ns C m → FpOk X pins H' C → compPost (model X.prog X.w) X.A X.xe use Qf (.ref D) C (.ok .next) s') :
    wpAny (model X.prog X.w) X.A (comprehension (.ListComp elt [⟨tg, iter, ifs, 0⟩] scope pos) scope X.env pos' (newList []) false (eval iter X.env) use) Qf X.xe s := by
  have hfree : ∀ y ∈ scope.names, y.2 = .free → ∃ c, X.env.cells.lookup y.1 = some c := fun y hy e => by
    rcases ok.free y hy e with k | k
    · exact I.ok.has _ (.inl k)
    · exact I.ok.has _ (.inr k)
  refine wpAny_comprehension_free (use := use) rfl hs (closure_ok hfree) ok.kind (fun y hy e => by rw [ok.uniq y hy, e])
    (thn (hi pins s σ H _ I h) fun xv s1 hx => thn hx fun itv s2 h2 => ?_)
  obtain ⟨it, fp, tn, J, H2, e, I2, T, st2, f2, q⟩ := h2
  subst e
  refine wpAny_newObj_type (newEnv_comp ?_) (by show 0 ≤ sizeLine; decide)
  generalize hD : s2.heap.objs.size = D
  have hDn : H2 D = none := I2.hok.fresh (Nat.le_of_eq hD)
  obtain ⟨W, ⟨m0, w0⟩, turn⟩ := q D hDn
  -- the new list
  generalize hs3 : ({ s2 with heap := s2.heap.push { cls := .type "list", data := .seq ([] : List Value).toArray } } : Shared) = s3
  have I3 : Inv X pins σ (upd H2 D (.lst [])) s3 := by
    rw [← hs3]
    refine I2.laid (t' := s2.toks) (fun b o e => Heap.get?_push_of_some _ e) (Nat.le_of_eq hD) ⟨Nat.zero_le _, [], 0, .nil, ?_⟩
    rw [← hD]
    exact Heap.get?_push_size _ rfl
  have h3 : s3.heap = s2.heap.push { cls := .type "list", data := .seq ([] : List Value).toArray } := by rw [← hs3]
  have sz : ∀ b ∈ fp, b < s2.heap.objs.size := fun b hb => by
    obtain ⟨o, e, _⟩ := T.obj _ _ st2 b hb
    exact Heap.lt_size e
  have f3 : ∀ b ∈ fp, FpOk X pins (upd H2 D (.lst [])) b ∧ b < s3.heap.objs.size := fun b hb => by
    have hlt := sz b hb
    refine ⟨⟨?_, (f2 b hb).2⟩, by rw [h3, Heap.size_push]; exact Nat.lt_succ_of_lt hlt⟩
    rw [upd_ne (by rw [← hD]; exact Nat.ne_of_lt hlt)]
    exact (f2 b hb).1
  have st3 : tn 0 s3.heap := T.keep _ _ _ st2 fun b _ o e => by rw [h3]; exact Heap.get?_push_of_some _ e
  have I4 := block_start I3 ok hN f3
  have pg := hg s3 (upd H2 D (.lst [])) s3.heap.objs.size (cellsFrom (s3.heap.objs.size + 1) scope.names (cloFrom X.env.cells scope.names [])) fp
  have pt := ht s3 (upd H2 D (.lst [])) s3.heap.objs.size (cellsFrom (s3.heap.objs.size + 1) scope.names (cloFrom X.env.cells scope.names [])) fp
  have pe := he s3 (upd H2 D (.lst [])) s3.heap.objs.size (cellsFrom (s3.heap.objs.size + 1) scope.names (cloFrom X.env.cells scope.names [])) fp
  show codeAny _ _ (.compStart (.ListComp elt [⟨tg, iter, ifs, 0⟩] scope pos) 0 (.ref it) (.ref D) (compEnvC scope (cellsFrom (s3.heap.objs.size + 1) scope.names (cloFrom X.env.cells scope.names [])) s3.heap.objs.size X.env)) (compPost (model X.prog X.w) X.A X.xe use Qf (.ref D) s3.heap.objs.size) { s3 with heap := pushCells (s3.heap.push { cls := .type "dict", data := .dict #[] }) scope.names }
  have nfp : ∀ b ∈ fp, (upd H2 D (.lst [])) b = none := fun b hb => (f3 b hb).1.1
  generalize hce : compEnvC scope (cellsFrom (s3.heap.objs.size + 1) scope.names (cloFrom X.env.cells scope.names [])) s3.heap.objs.size X.env = ce at I4 pg pt pe ⊢
  have cL : ce.locals = s3.heap.objs.size := by subst hce; rfl
  generalize hH3 : upd H2 D (.lst []) = H3 at I3 I4 pg pt pe w0 nfp f3
  generalize hs4 : ({ s3 with heap := pushCells (s3.heap.push { cls := .type "dict", data := .dict #[] }) scope.names } : Shared) = s4 at I4 ⊢
  have st4 : tn 0 s4.heap := T.keep _ _ _ st3 fun b _ o e => by rw [← hs4]; exact pushCells_keeps _ _ _ _ (Heap.get?_push_of_some _ e)
  have stat : ∀ {σ' : St} {H' : Hp} {s' : Shared}, Inv (X.blk s3 H3 scope ce fp) [] σ' H' s' → (∀ b ∈ fp, H' b = none) → ∀ b ∈ fp, FpOk (X.blk s3 H3 scope ce fp) [] H' b := fun {σ' H' s'} I' hn b hb =>
    ⟨hn b hb, (I'.ok.exf b hb).1, I'.ok.exfs b hb, .inl hb, fun x c e => (I'.ok.exf b hb).2 x c e, fun p hp => absurd (show p ∈ ([] : List (Addr × Obj)) ++ [] from hp) (by simp)⟩
  have loop : codeAny (model X.prog X.w) X.A (.compLoop (.ListComp elt [⟨tg, iter, ifs, 0⟩] scope pos) 0 (.ref it) (.ref D) ce) (compPost (model X.prog X.w) X.A X.xe use Qf (.ref D) s3.heap.objs.size) s4 := by
    refine compLoop_any (fun n s' => ∃ i H', Inv (X.blk s3 H3 scope ce fp) [] (wipe σ (own.map (·.2))) H' s' ∧ tn i s'.heap ∧ (∀ b ∈ fp, H' b = none) ∧ W i n H') ?_ m0 ⟨0, H3, I4, st4, nfp, w0⟩
    rintro n s5 ⟨i, H5, I5, st5, n5, w5⟩
    rcases turn i n H5 w5 with ⟨stop, qq⟩ | ⟨go, Nx, hNx, step⟩
    · have td := T.done (X.blk s3 H3 scope ce fp) rfl rfl rfl hc i [] s5 _ H5 (fun _ _ => False) I5 (stat I5 n5) st5 stop
      refine thnF td fun r s6 ⟨hr, I6⟩ => ?_
      subst hr
      -- back in the def's context
      have I7 : Inv X pins σ H5 s6 := I3.call' (ch := fp) I6.os I6.base I6.hok I6.bare fun b hb => ⟨(f3 b hb).1.2.2.2.1, (f3 b hb).1.2.1, (f3 b hb).1.2.2.2.2.1, (f3 b hb).1.2.2.2.2.2⟩
      have nC : H5 s3.heap.objs.size = none := by
        have z : H5 ce.locals = none := I6.free
        rw [cL] at z
        exact z
      obtain ⟨m, hn, _⟩ := I6.loc
      have hn : s6.heap.Ns ce.locals m := hn
      rw [cL] at hn
      exact hRR D s3.heap.objs.size s6 m H5 I7 qq hn (I3.fpOk (Nat.le_refl _) nC)
    · have ti := T.item (X.blk s3 H3 scope ce fp) rfl rfl rfl hc i [] s5 _ H5 (fun _ _ => False) I5 (stat I5 n5) st5 go
      refine thnF ti fun r s6 ⟨u, hr, h6⟩ => ?_
      subst hr
      refine thnF h6 fun _ s7 ⟨x, H7, I7, r7, y7, st7, n7⟩ => ?_
      have I7' := I7.pinned (stat I7 n7) (T.obj _ _ st7)
      refine thnF (pg _ s7 _ H7 x u _ I7' r7 (step x H7 y7)) fun _ s8 ⟨σ8, H8, I8, hw8, q8⟩ => ?_
      refine thnF (pt _ s8 σ8 H8 _ I8 q8) fun b s9 ⟨H9, I9, q9⟩ => ?_
      -- the turn's end
      have fin : ∀ {s' : Shared} {H' : Hp}, Inv (X.blk s3 H3 scope ce fp) ([] ++ pinsAt fp s7.heap) σ8 H' s' → Nx H' → ∃ m, m < n ∧ ∃ i H', Inv (X.blk s3 H3 scope ce fp) [] (wipe σ (own.map (·.2))) H' s' ∧ tn i s'.heap ∧ (∀ b ∈ fp, H' b = none) ∧ W i m H' := fun {s' H'} I' nx => by
        obtain ⟨m', hm, w'⟩ := hNx H' nx
        have pin' : ∀ b ∈ fp, ∀ o, s7.heap.get? b = some o → s'.heap.get? b = some o ∧ H' b = none := fun b hb o e =>
          let z := I'.pin (b, o) (List.mem_append_right _ (List.mem_append_right _ (mem_pinsAt hb e)))
          ⟨z.1, z.2.1⟩
        have hl : (wipe σ (own.map (·.2))).length = σ8.length := by rw [← hw8, wipe_length]
        refine ⟨m', hm, i + 1, H', (I'.unpinned (pins := [])).weak hl (fun j v e => ?_), T.keep _ _ _ st7 fun b hb o e => (pin' b hb o e).1, fun b hb => ?_, w'⟩
        · rw [← hw8] at e
          exact (wipe_some e).1
        · obtain ⟨o, e, _⟩ := T.obj _ _ st7 b hb
          exact (pin' b hb o e).2
      cases b with
      | false =>
        simp only [Bool.false_eq_true, if_false] at q9 ⊢
        exact fin I9 q9
      | true =>
        simp only [if_true] at q9 ⊢
        refine thnF (pe _ s9 σ8 H9 _ I9 q9) fun z s10 ⟨yv, H10, I10, r10, acc, hD10, hz10, nx⟩ => ?_
        exact app_ok (X := X.blk s3 H3 scope ce fp) I10 hD10 hz10 r10 fun s11 I11 => fin I11 nx
  exact codeAny_compStart_list loop (T.self X.A 0 _ _ _ st4 loop)
theorem pe_lc {elt tg iter : Expr} {ifs : List Expr} {scope : Scope} {own : List (Str × Nat)} {pos : Pos} {wi : TI} {g : TG} {tt : TT} {te : TE} (hc : X.calm = true) (hN : X.N.Nodup) (hi : PI X tg iter wi) (ok : BlkOk X.N X.env.scope scope own)
    (hg : ∀ (s : Shared) (H : Hp) (C : Addr) (cl : List (Str × Addr)) (fp : List Addr), PG (X.blk s H scope (compEnvC scope cl C X.env) fp) tg g) (ht : ∀ (s : Shared) (H : Hp) (C : Addr) (cl : List (Str × Addr)) (fp : List Addr), PTs (X.blk s H scope (compEnvC scope cl C X.env) fp) ifs tt)
    (he : ∀ (s : Shared) (H : Hp) (C : Addr) (cl : List (Str × Addr)) (fp : List Addr), PE (X.blk s H scope (compEnvC scope cl C X.env) fp) elt te) (hs : ∀ x, foldedSetIterable iter X.env x = pure x := by intro _; rfl) :
    PE X (.ListComp elt [⟨tg, iter, ifs, 0⟩] scope pos) (tLc wi g tt te (own.map (·.2))) := by
  intro pins s σ H Q I h
  rw [eval_ListComp]
  refine lc_core hc hN I hi ok hg ht he hs h fun D C s' m H' I' q hn f => ⟨m, hn, fun h'' sb => ?_⟩
  obtain ⟨f0, f1, f2, f3, f4, f5⟩ := f
  exact ⟨.ref D, H', I'.turned (t' := s'.toks) (fun b o hb e => (sb.2 b hb).trans e) f0 f1 f3 f4 f5, rfl, q⟩
theorem ps_setLc {i : Nat} {y : Str} {py : Pos} {elt tg iter : Expr} {ifs : List Expr} {scope : Scope} {own : List (Str × Nat)} {pos spos : Pos} {wi : TI} {g : TG} {tt : TT} {te : TE} (hc : X.calm = true) (hN : X.N.Nodup) (hy : X.N[i]? = some y) (hyl : X.env.scope.names.lookup y = some .local)
    (hsw : swapsWith (.ListComp elt [⟨tg, iter, ifs, 0⟩] scope pos) (some (.Name y py)) spos.line X.env = pure true) (hi : PI X tg iter wi) (ok : BlkOk X.N X.env.scope scope own)
    (hg : ∀ (s : Shared) (H : Hp) (C : Addr) (cl : List (Str × Addr)) (fp : List Addr), PG (X.blk s H scope (compEnvC scope cl C X.env) fp) tg g) (ht : ∀ (s : Shared) (H : Hp) (C : Addr) (cl : List (Str × Addr)) (fp : List Addr), PTs (X.blk s H scope (compEnvC scope cl C X.env) fp) ifs tt)
    (he : ∀ (s : Shared) (H : Hp) (C : Addr) (cl : List (Str × Addr)) (fp : List Addr), PE (X.blk s H scope (compEnvC scope cl C X.env) fp) elt te) (hs : ∀ x, foldedSetIterable iter X.env x = pure x := by intro _; rfl) :
    PS X (.Assign [.Name y py] (.ListComp elt [⟨tg, iter, ifs, 0⟩] scope pos) spos) (tAsg (tLc wi g tt te (own.map (·.2))) (gName i)) := by
  intro pins s σ H D I h
  rw [exec_Assign_Name_used _ _ _ _ hsw]
  refine wpAny_bind (wpAny_standAt (wpAny_bind ?_))
  show wpAny _ X.A (do let _ ← comprehension (.ListComp elt [⟨tg, iter, ifs, 0⟩] scope pos) scope X.env (firstIterPos [⟨tg, iter, ifs, 0⟩] pos) (newList []) false (eval iter X.env) (some (assign (.Name y py) X.env))) _ _ s
  have h : tLc wi g tt te (own.map (·.2)) σ H (fun x H1 => gName i x σ H1 D.nx) := h
  refine wpAny_bind (thn (lc_core (Qf := fun _ s' => SP X pins D .next s') hc hN I hi ok hg ht he hs h fun L C s' m H' I' q hn f => ?_) fun _ s' hq => wpAny_pure (wpAny_pure hq))
  show wpAny _ _ (assign (.Name y py) X.env (.ref L)) _ _ _
  refine wpAny_assign_Name (store_ok2 (v := V.ref L) I' hN hy (.inl hyl) rfl (fun s2 I2 ⟨a, sb, ha⟩ => ?_) (.inr hyl))
  obtain ⟨f0, f1, f2, f3, f4, f5⟩ := f
  have haC : C ≠ a := by
    rcases ha with z | z
    · rw [z]; exact f1
    · exact fun e => f4 y a z e.symm
  refine ⟨m, hn.sameBut sb haC, fun h3 sb3 => ?_⟩
  exact ⟨_, H', I2.turned (t' := s2.toks) (fun b o hb e => (sb3.2 b hb).trans e) f0 f1 f3 f4 f5, q⟩
theorem sw_true {elt : Expr} {gs : List Comprehension} {scope : Scope} {pos py : Pos} {y : Str} {l : Nat} {env : Env} (hk : env.scope.kind = .function) (hy : env.scope.names.lookup y = some .local) (hl : (py.line == pos.line) = true)
    (ha : (scope.names.any fun (n, k) => n == y && (k == .local || k == .cell)) = false) : swapsWith (.ListComp elt gs scope pos) (some (.Name y py)) l env = pure true := by
  have ky : env.kindOf y = some .local := hy
  have hb : env.blockKind = .function := by unfold Env.blockKind; rw [hk]; rfl
  unfold swapsWith
  have hp : (Expr.ListComp elt gs scope pos).pos = pos := rfl
  simp only [hb, ky, ha, hp, hl]
  rfl
end
theorem lc_range {lo : Int} {n : Nat} {g : TG} {tt : TT} {te : TE} {vs : List Nat} {σ : St} {H1 : Hp} {D : Addr} {Qd : Hp → Prop} (Pv : Nat → Hp → Prop) (h0 : Pv 0 (upd H1 D (.lst [])))
    (hs : ∀ i H, i < n → Pv i H → g (.int (lo + i)) (wipe σ vs) H fun σ2 H2 => wipe σ2 vs = wipe σ vs ∧ tt σ2 H2 fun b H3 =>
      if b = true then te σ2 H3 fun y H4 => ∃ acc, H4 D = some (.lst acc) ∧ acc.length < sizeLine ∧ Pv (i + 1) (upd H4 D (.lst (acc ++ [y]))) else Pv (i + 1) H3) (hd : ∀ H, Pv n H → Qd H) :
    ∃ W : Nat → Nat → Hp → Prop, (∃ m, W 0 m (upd H1 D (.lst []))) ∧ ∀ i m H, W i m H →
      ((Itr lo n).stop i H ∧ Qd H) ∨ ((Itr lo n).go i H ∧ ∃ Nx : Hp → Prop, (∀ H', Nx H' → ∃ m', m' < m ∧ W (i + 1) m' H') ∧ ∀ x H', (Itr lo n).yld i H x H' → g x (wipe σ vs) H' fun σ2 H2 => wipe σ2 vs = wipe σ vs ∧ tt σ2 H2 fun b H3 =>
        if b = true then te σ2 H3 fun y H4 => ∃ acc, H4 D = some (.lst acc) ∧ acc.length < sizeLine ∧ Nx (upd H4 D (.lst (acc ++ [y]))) else Nx H3) := by
  refine ⟨fun i m H => m = n - i ∧ i ≤ n ∧ Pv i H, ⟨n, by simp, Nat.zero_le _, h0⟩, ?_⟩
  rintro i m H ⟨rfl, hi, p⟩
  by_cases hlt : i < n
  · refine .inr ⟨hlt, Pv (i + 1), fun H' p' => ⟨n - (i + 1), by omega, rfl, hlt, p'⟩, fun x H' y => ?_⟩
    obtain ⟨e, y⟩ := y
    subst e y
    exact hs i _ hlt p
  · have e : i = n := by omega
    subst e
    exact .inl ⟨Nat.le_refl _, hd H p⟩
theorem lc_list {K : PySem.W.Frag} {a : Addr} {xs : List V} {g : TG} {tt : TT} {te : TE} {vs : List Nat} {σ : St} {H1 : Hp} {D : Addr} {Qd : Hp → Prop} (Pv : Nat → Hp → Prop) (h0 : Pv 0 (upd H1 D (.lst []))) (hl : ∀ i H, i ≤ xs.length → Pv i H → SqL K H a xs)
    (hs : ∀ i x H, xs[i]? = some x → Pv i H → g x (wipe σ vs) H fun σ2 H2 => wipe σ2 vs = wipe σ vs ∧ tt σ2 H2 fun b H3 =>
      if b = true then te σ2 H3 fun y H4 => ∃ acc, H4 D = some (.lst acc) ∧ acc.length < sizeLine ∧ Pv (i + 1) (upd H4 D (.lst (acc ++ [y]))) else Pv (i + 1) H3) (hd : ∀ H, Pv xs.length H → Qd H) :
    ∃ W : Nat → Nat → Hp → Prop, (∃ m, W 0 m (upd H1 D (.lst []))) ∧ ∀ i m H, W i m H →
      ((Itl K a).stop i H ∧ Qd H) ∨ ((Itl K a).go i H ∧ ∃ Nx : Hp → Prop, (∀ H', Nx H' → ∃ m', m' < m ∧ W (i + 1) m' H') ∧ ∀ x H', (Itl K a).yld i H x H' → g x (wipe σ vs) H' fun σ2 H2 => wipe σ2 vs = wipe σ vs ∧ tt σ2 H2 fun b H3 =>
        if b = true then te σ2 H3 fun y H4 => ∃ acc, H4 D = some (.lst acc) ∧ acc.length < sizeLine ∧ Nx (upd H4 D (.lst (acc ++ [y]))) else Nx H3) := by
  refine ⟨fun i m H => m = xs.length - i ∧ i ≤ xs.length ∧ Pv i H, ⟨xs.length, by simp, Nat.zero_le _, h0⟩, ?_⟩
  rintro i m H ⟨rfl, hi, p⟩
  have q := hl i H hi p
  by_cases hlt : i < xs.length
  · refine .inr ⟨⟨xs, xs[i], q, by simp [hlt]⟩, Pv (i + 1), fun H' p' => ⟨xs.length - (i + 1), by omega, rfl, hlt, p'⟩, fun x H' y => ?_⟩
    obtain ⟨e, y⟩ := y
    subst e
    exact hs i x _ (y xs q) p
  · have e : i = xs.length := by omega
    subst e
    exact .inl ⟨⟨xs, q, Nat.le_refl _⟩, hd H p⟩
def blkC (N : List Str) (sc scope : Scope) (own : List (Str × Nat)) : Bool :=
  (match scope.kind with | .function => true | _ => false) && (scope.names.all fun y => decide (scope.names.lookup y.1 = some y.2)) && (own.all fun p => decide (N[p.2]? = some p.1)) &&
    (scope.names.all fun y => match y.2 with
      | .free => (match sc.names.lookup y.1 with | some .cell => true | some .free => true | _ => false)
      | .local => decide (y.1 ∈ own.map (·.1)) || decide (y.1 ∉ N)
      | .cell => decide (y.1 ∈ own.map (·.1)) || decide (y.1 ∉ N)
      | _ => true)
theorem blkOk_by {N : List Str} {sc scope : Scope} {own : List (Str × Nat)} (h : blkC N sc scope own = true) : BlkOk N sc scope own := by
  unfold blkC at h
  simp only [Bool.and_eq_true, List.all_eq_true, decide_eq_true_eq] at h
  obtain ⟨⟨⟨h1, h2⟩, h3⟩, h4⟩ := h
  refine ⟨?_, h2, h3, fun y hy e => ?_, fun y hy e => ?_⟩
  · split at h1
    · assumption
    · cases h1
  · have q := h4 y hy
    simp only [e] at q
    split at q <;> first | exact .inl (by assumption) | exact .inr (by assumption) | cases q
  · have q := h4 y hy
    rcases e with e | e <;> (simp only [e, Bool.or_eq_true, decide_eq_true_eq] at q; exact q)
end L2
namespace L2
open PySem PySem.Spec PyProof.Rows
section
variable {X : Cx} {pins : List (Addr × Obj)} {σ : St} {H : Hp} {s : Shared} {h' : Heap}
theorem Inv.turnedNew {t' : Nat} {ch : List Addr} {T : Addr} {ob : HO} (I : Inv X pins σ H s) (k : ∀ b o, b ∉ ch → s.heap.get? b = some o → h'.get? b = some o) (hf : ∀ b ∈ ch, FpOk X pins H b) (hT : s.heap.objs.size ≤ T)
    (new : ObjOk X.prog X.w (upd H T ob) h' T ob) : Inv X pins σ (upd H T ob) { s with heap := h', toks := t' } := by
  have hn : H T = none := I.hok.fresh hT
  have nit : ∀ b u, H b = some u → b ∉ ch := fun b u e z => by
    have q := (hf b z).1
    rw [q] at e; cases e
  refine I.step (g' := s.gens) (d' := s.drawn) (ch := ch) (fun b hb => ⟨(hf b hb).2.2.2.1, (hf b hb).2.1, (hf b hb).2.2.2.2.1, (hf b hb).2.2.2.2.2⟩) (fun b o _ _ hc e _ => k b o hc e) (fun b o _ _ hc e _ => ⟨o.slots, k b o hc e⟩)
    (fun b o _ e n => ?_) (fun b o hc e => ⟨o, k b o hc e⟩) (fun b xs e => ?_) (fun b o u e => ?_) (fun b ps e => ⟨#[], ?_⟩) (fun m hm => ?_) (fun b u e => ?_) I.bare
  · rw [upd_ne (Nat.ne_of_lt (Nat.lt_of_lt_of_le (Heap.lt_size e) hT))]; exact n
  · rw [upd_ne (ne_of_none e hn)]; exact e
  · rw [upd_ne (ne_of_none e hn)]; exact e
  · rw [upd_ne (ne_of_none e hn), e]; simp
  · obtain ⟨o, es, ep, ho, r⟩ := hm
    exact ⟨o, es, ep, k _ o (fun z => (hf _ z).2.1 rfl) ho, r⟩
  · by_cases hb : b = T
    · subst hb
      rw [upd_same] at e
      cases e
      exact new
    · rw [upd_ne hb] at e
      refine (I.hok b u e).stay (fun c v hc q => k c v ?_ q) (fun c q => by rw [upd_ne (ne_of_none q hn)]; exact q) fun c xs q => by rw [upd_ne (ne_of_none q hn)]; exact q
      rcases hc with z | z
      · rw [z]; exact nit b u e
      · exact nit c _ z
end
section
variable {X : Cx}
theorem pi_one {tg : Expr} {pins : List (Addr × Obj)} {σ : St} {H : Hp} {s : Shared} {R : It → Hp → Prop} {J : It} {tn : Nat → Heap → Prop} {tk : Nat} (I : Inv X pins σ H s) (o : Obj)
    (T : Turn X.prog X.w X.K tg J [s.heap.objs.size] s.heap.objs.size tn) (st : tn 0 (s.heap.push o)) (q : R J H) : PIE X pins σ tg R (.ref s.heap.objs.size) { s with heap := s.heap.push o, toks := tk } := by
  refine ⟨s.heap.objs.size, [s.heap.objs.size], tn, J, H, rfl, I.kept fun b ob e => Heap.get?_push_of_some _ e, T, st, fun b hb => ?_, q⟩
  have e : b = s.heap.objs.size := by simpa using hb
  subst e
  exact I.fpOk (Nat.le_refl _) (I.hok.fresh (Nat.le_refl _))
end
def Itc (lo c : Int) (n : Nat) : It := ⟨fun i _ => i < n, fun i H x H' => H' = H ∧ x = .int (lo + (i : Nat) * c), fun i _ => n ≤ i⟩
theorem turn_rangeC {P : Program} {w : World} {K : PySem.W.Frag} {tg : Expr} (it : Addr) (lo c : Int) (n : Nat) : Turn P w K tg (Itc lo c n) [it] it (fun i h => IsRangeIter h it (lo + (i : Nat) * c) ((n : Int) - (i : Nat)) c) where
  mem := by simp
  obj := fun i h st b hb => by
    have e : b = it := by simpa using hb
    subst e
    exact ⟨_, st, fun v z => nomatch z⟩
  keep := fun i h h' st k => k it (by simp) _ st
  item := by
    intro X hP hw hK hc i pins s σ H E I hf st hg
    subst hP hw hK
    obtain ⟨f0, f1, f2, f3, f4, f5⟩ := hf it (by simp)
    have W := Walks.range (prog := X.prog) (w := X.w) (I.ok.hd hc) it lo c n
    refine W.item i s _ _ hg st fun v h' tk hv st' kk => ?_
    obtain ⟨t, rfl⟩ := hv
    have I1 : Inv X pins σ H { s with heap := h', toks := tk } := I.turned (fun b o hb e => kk b o (by simpa using hb) e) f0 f1 f3 f4 f5
    exact ⟨_, rfl, go_of (s := { s with heap := h', toks := tk }) (n := "range_iterator") st' rfl rfl (by decide) ⟨.int (lo + (i : Nat) * c), H, I1, ⟨t, rfl⟩, ⟨rfl, rfl⟩, st', fun b hb => (hf b hb).1⟩⟩
  done := by
    intro X hP hw hK hc i pins s σ H E I hf st hg
    subst hP hw hK
    obtain ⟨f0, f1, f2, f3, f4, f5⟩ := hf it (by simp)
    exact wpAny_pyNext_range_end (I.ok.hd hc) st (by have : n ≤ i := hg; omega) fun h' eb => ⟨rfl, I.turned (t' := s.toks) (fun b o hb e => eb b o hb e) f0 f1 f3 f4 f5⟩
  self := fun A i s Q E st h => wpAny_pyIter_rangeiter st h
def RgC (i j c : Int) (n : Nat) : Prop := c ≠ 0 ∧ c.natAbs < 1073741824 ∧ Builtin.Range.small i j c = true ∧ Builtin.Range.rangeSize i j c = n
theorem RgC.neg {i j : Int} (ha : -(2 ^ 62) ≤ i) (ha' : i < 2 ^ 62) (hb : -(2 ^ 62) ≤ j) (hb' : j < 2 ^ 62) : RgC i j (-1) (i - j).toNat :=
  ⟨by decide, by decide, PySem.W.small_down ha ha' hb hb', PySem.W.rangeSize_downNat i j⟩
def iRng3 (ta : TA) : TI := fun σ H R => ta σ H fun vs H1 => ∃ (i j c : Int) (n : Nat), vs = [.int i, .int j, .int c] ∧ RgC i j c n ∧ R (Itc i c n) H1
section
variable {X : Cx} {tg : Expr}
theorem pi_range3 {a b c : Expr} {ta : TA} {p pos : Pos} (hg : Gl X "range") (hm : X.mg "range" = none) (ha : PA X [a, b, c] ta)
    (hs : starEach [a, b, c] X.env = (false, eval a X.env) :: starEach [b, c] X.env := by rfl) (hpl : (backTo pos (starEach [b, c] X.env)).any (·.1) = false := by rfl) :
    PI X tg (.Call (.Name "range" p) [a, b, c] [] pos) (iRng3 ta) := by
  intro pins s σ H R I h
  refine Call_ (ld_blt I hg hm boot_range (PyProof.Rows.callWith_type1 (thn (ha pos pins s σ H _ I h) fun us s1 ⟨vs, H1, I1, r1, q1⟩ => ?_) hs hpl))
  obtain ⟨i, j, k, n, e, ⟨c0, c1, c2, c3⟩, q⟩ := q1
  subst e
  cases r1 with
  | cons r rr =>
    cases rr with
    | cons r' rr =>
      cases rr with
      | cons r'' rr =>
        cases rr
        obtain ⟨t, rfl⟩ := r
        obtain ⟨t', rfl⟩ := r'
        obtain ⟨t'', rfl⟩ := r''
        refine call_range_3 c0 ?_ (.inl (PyProof.noPylong_small c1))
        refine wpAny_pyIter_range (IsRange.new ..) c2 ?_
        have I2 : Inv X pins σ H1 { s1 with heap := s1.heap.push { cls := .type "range", data := .fields #[.int i t, .int j t', .int k t''] } } := I1.kept (t' := s1.toks) fun b o e => Heap.get?_push_of_some _ e
        refine pi_one (tk := s1.toks) I2 _ (turn_rangeC _ i k n) ?_ q
        have e1 : i + ((0 : Nat) : Int) * k = i := by simp
        have e2 : (n : Int) - ((0 : Nat) : Int) = Builtin.Range.rangeSize i j k := by rw [c3]; simp
        show IsRangeIter _ _ (i + ((0 : Nat) : Int) * k) ((n : Int) - ((0 : Nat) : Int)) k
        rw [e1, e2]
        exact Heap.get?_push_size _ rfl
end
theorem for_rangeC {lo c : Int} {n : Nat} {g : TG} {tb : TS} {D : Ends} {σ : St} {H : Hp} (Pv : Nat → St → Hp → Prop) (h0 : Pv 0 σ H)
    (hs : ∀ i σ H, i < n → Pv i σ H → g (.int (lo + (i : Nat) * c)) σ H fun σ2 H2 => tb { D with nx := Pv (i + 1), ct := Pv (i + 1), bk := D.nx } σ2 H2) (hd : ∀ σ H, Pv n σ H → D.nx σ H) :
    ∃ W : Nat → Nat → St → Hp → Prop, (∃ m, W 0 m σ H) ∧ ∀ i m σ H, W i m σ H →
      ((Itc lo c n).stop i H ∧ D.nx σ H) ∨ ((Itc lo c n).go i H ∧ ∃ N : St → Hp → Prop, (∀ σ' H', N σ' H' → ∃ m', m' < m ∧ W (i + 1) m' σ' H') ∧ ∀ x H', (Itc lo c n).yld i H x H' → g x σ H' fun σ2 H2 => tb { D with nx := N, ct := N, bk := D.nx } σ2 H2) := by
  refine ⟨fun i m σ H => m = n - i ∧ i ≤ n ∧ Pv i σ H, ⟨n, by simp, Nat.zero_le _, h0⟩, ?_⟩
  rintro i m σ H ⟨rfl, hi, p⟩
  by_cases hlt : i < n
  · refine .inr ⟨hlt, Pv (i + 1), fun σ' H' p' => ⟨n - (i + 1), by omega, rfl, hlt, p'⟩, fun x H' y => ?_⟩
    obtain ⟨e, y⟩ := y
    subst e y
    exact hs i σ _ hlt p
  · have e : i = n := by omega
    subst e
    exact .inl ⟨Nat.le_refl _, hd σ H p⟩
def Ite (K : PySem.W.Frag) (a : Addr) : It :=
  ⟨fun i H => ∃ (xs : List V) (x : V), SqL K H a xs ∧ xs[i]? = some x, fun i H v H' => ∃ T x, v = .ref T ∧ H T = none ∧ H' = upd H T (.tup [.int (i : Nat), x]) ∧ ∀ xs, SqL K H a xs → xs[i]? = some x, fun i H => ∃ xs : List V, SqL K H a xs ∧ xs.length ≤ i⟩
theorem turn_enum {P : Program} {w : World} {K : PySem.W.Frag} {elts : List Expr} {kk : Nat} {tpos : Pos} (a e it : Addr) :
    Turn P w K (.Tuple elts kk tpos) (Ite K a) [e, it] e (fun i h => (∃ old, IsEnum h e it ((i : Nat) : Int) old) ∧ h.IsListIter it a i ∧ e ≠ it) where
  mem := by simp
  obj := fun i h st b hb => by
    obtain ⟨⟨old, he⟩, ⟨o, ho, hc, hd⟩, _⟩ := st
    have e' : b = e ∨ b = it := by simpa using hb
    rcases e' with z | z
    · rw [z]; exact ⟨_, he, fun v q => nomatch q⟩
    · rw [z]; exact ⟨o, ho, fun v q => by rw [hd] at q; cases q⟩
  keep := fun i h h' st k => let ⟨⟨old, he⟩, hi, hne⟩ := st; ⟨⟨old, k e (by simp) _ he⟩, hi.at fun o q => k it (by simp) o q, hne⟩
  item := by
    intro X hP hw hK hc i pins s σ H E I hf st hg
    subst hP hw hK
    obtain ⟨⟨old, he⟩, hit, hne⟩ := st
    obtain ⟨xs, x, hq, hx⟩ := hg
    obtain ⟨its, rv, p, hz⟩ := I.list hq
    obtain ⟨u, hu, ru⟩ := rv.get hx
    have hel : e < s.heap.objs.size := Heap.lt_size he
    have hil : it < s.heap.objs.size := by obtain ⟨_, q, _⟩ := hit; exact Heap.lt_size q
    refine wpAny_pyNext_enum_item he hit p.isList (x := u) (by simpa using hu) hne fun h' ho hit' hT hsz hk => ?_
    refine ⟨_, rfl, wpAny_letOwnedTupleGo_enum (s := { s with heap := h', toks := s.toks + 1 }) ho fun h'' he' sb => ?_⟩
    have hT2 : h''.get? s.heap.objs.size = some { cls := .type "tuple", data := .seq #[.int i s.toks, u] } := (sb.2 _ (Nat.ne_of_gt hel)).trans hT
    have new : ObjOk X.prog X.w (upd H s.heap.objs.size (.tup [.int (i : Nat), x])) h'' s.heap.objs.size (.tup [.int (i : Nat), x]) :=
      ⟨by show 2 ≤ sizeLine; decide, [.int i s.toks, u], .cons ⟨_, rfl⟩ (.cons ru .nil), ⟨_, hT2, rfl, _, rfl⟩⟩
    have I1 : Inv X pins σ (upd H s.heap.objs.size (.tup [.int (i : Nat), x])) { s with heap := h'', toks := s.toks + 1 } :=
      I.turnedNew (ch := [e, it]) (fun b ob hb q => (sb.2 b (fun z => hb (by simp [z]))).trans (hk b ob (fun z => hb (by simp [z])) (fun z => hb (by simp [z])) q)) hf (Nat.le_refl _) new
    refine ⟨.ref s.heap.objs.size, _, I1, rfl, ⟨_, x, rfl, I.hok.fresh (Nat.le_refl _), rfl, fun ys hy => by rw [I.list_inj hy hq]; exact hx⟩, ⟨⟨u, ?_⟩, hit'.at fun o q => (sb.2 it (Ne.symm hne)).trans q, hne⟩, fun b hb => ?_⟩
    · have e1 : ((i + 1 : Nat) : Int) = (i : Int) + 1 := by omega
      rw [e1]; exact he'
    · have hb' : b < s.heap.objs.size := by
        have e' : b = e ∨ b = it := by simpa using hb
        rcases e' with z | z
        · rw [z]; exact hel
        · rw [z]; exact hil
      rw [upd_ne (Nat.ne_of_lt hb')]
      exact (hf b hb).1
  done := by
    intro X hP hw hK hc i pins s σ H E I hf st hg
    subst hP hw hK
    obtain ⟨⟨old, he⟩, hit, hne⟩ := st
    obtain ⟨xs, hq, hx⟩ := hg
    obtain ⟨its, rv, p, hz⟩ := I.list hq
    obtain ⟨f0, f1, f2, f3, f4, f5⟩ := hf it (by simp)
    have hl := rv.length
    exact wpAny_pyNext_enum_end (I.ok.hd hc) he hit p.isList (by simp; omega) fun h' eb => ⟨rfl, I.turned (t' := s.toks) (fun b o hb q => eb b o hb q) f0 f1 f3 f4 f5⟩
  self := fun A i s Q E st h => let ⟨⟨_, he⟩, _⟩ := st; wpAny_pyIter_enum he h
def iEnum (K : PySem.W.Frag) (ta : TA) : TI := fun σ H R => ta σ H fun vs H1 => ∃ a xs, vs = [.ref a] ∧ SqL K H1 a xs ∧ R (Ite K a) H1
theorem pi_enum {X : Cx} {e : Expr} {ta : TA} {p pos tpos : Pos} {elts : List Expr} {kk : Nat} (hg : Gl X "enumerate") (hm : X.mg "enumerate" = none) (ha : PA X [e] ta) (hs : starEach [e] X.env = [(false, eval e X.env)] := by rfl) :
    PI X (.Tuple elts kk tpos) (.Call (.Name "enumerate" p) [e] [] pos) (iEnum X.K ta) := by
  intro pins s σ H R I h
  refine Call_ (ld_blt I hg hm boot_enumerate (PyProof.Rows.callWith_type1 (thn (ha pos pins s σ H _ I h) fun us s1 ⟨vs, H1, I1, r1, q1⟩ => ?_) hs rfl))
  obtain ⟨a, xs, ex, hq, q⟩ := q1
  subst ex
  cases r1 with
  | cons r rr =>
    cases rr
    cases r
    obtain ⟨its, rv, p', hz⟩ := I1.list hq
    refine call_enumerate_list p'.isList fun h' he hit hsz hk => wpAny_pyIter_enum he ?_
    have I2 : Inv X pins σ H1 { s1 with heap := h' } := I1.kept (t' := s1.toks) hk
    refine ⟨s1.heap.objs.size + 1, [s1.heap.objs.size + 1, s1.heap.objs.size], _, _, H1, rfl, I2, turn_enum a (s1.heap.objs.size + 1) s1.heap.objs.size, ⟨⟨.none, he⟩, hit, Nat.succ_ne_self _⟩, fun b hb => ?_, q⟩
    have e' : b = s1.heap.objs.size + 1 ∨ b = s1.heap.objs.size := by simpa using hb
    have hle : s1.heap.objs.size ≤ b := by
      rcases e' with z | z
      · rw [z]; exact Nat.le_add_right _ _
      · rw [z]; exact Nat.le_refl _
    exact I1.fpOk hle (I1.hok.fresh hle)
end L2
section 
end 
section 
end 
namespace L2
open PySem PySem.Spec PyProof.Rows
def inClass (s : Stmt) (j : Nat) : Stmt := match s with
  | .ClassDef _ _ _ body _ _ _ _ _ _ _ => body.getD j (.Pass ⟨0, 0, 0, 0⟩)
  | _ => .Pass ⟨0, 0, 0, 0⟩
def defArgs (s : Stmt) : Arguments := match s with
  | .FunctionDef _ a _ _ _ _ _ _ _ _ => a
  | _ => { posonlyargs := [], args := [], vararg := none, kwonlyargs := [], kw_defaults := [], kwarg := none, defaults := [] }
def defBody (s : Stmt) : List Stmt := match s with
  | .FunctionDef _ _ b _ _ _ _ _ _ _ => b
  | _ => []
def defScope (s : Stmt) : Scope := match s with
  | .FunctionDef _ _ _ _ _ _ sc _ _ _ => sc
  | _ => { kind := .function, names := [], isGenerator := false, isCoroutine := false }
abbrev CX0 : CXT := fun _ _ _ _ _ _ => False
abbrev E0 : XK := fun _ _ _ => False
theorem pass0 {X : Cx} : Passes CX0 X E0 := fun _ _ _ _ _ _ _ h => h.elim
structure Fun (K : PySem.W.Frag) (x qual : Str) (st : Stmt) (f : Addr) (fd : FuncData) : Prop where
  ex : ∃ (oc : Value) (od : Option Addr) (kV doc pm : Value) (an : Option Addr) (cdv ct : Value) (osl : Array (Option Value)),
    fd = PySem.W.fnOf x qual (defArgs st) (defBody st) (defScope st) .none kV doc pm an cdv ct ∧ K.lookup f = some ⟨oc, od, .func fd, osl⟩ ∧ PySem.W.codeIn K cdv qual = true
  kp : PySem.W.keepIn K (.ref f) = true
section
variable {P : Program} {w : World} {K : PySem.W.Frag} {mg : Str → Option Value} {base : Heap}
theorem Fun.ok {x qual : Str} {st : Stmt} {f : Addr} {fd : FuncData} {N ps : List Str} {k : Nat} {sp : Sp} (F : Fun K x qual st f fd) (S : FnScope N ps (defScope st)) (len : ∀ vs H Q E, sp vs H Q E → vs.length = ps.length)
    (hbody : ∀ (cdv : Value) (A : Around) (outer : List Env) (s : Shared) (H : Hp) (vs : List V) (Q : VK) (E : XK), Room k (A.deeper (envOfC qual (defScope st) s.heap.objs.size f cdv)) → sp vs H Q E →
      ∃ t, PSs (cxOf CX0 P w K mg base N qual (defScope st) f cdv A outer s H E).nox (defBody st) t ∧ t { nx := fun _ H' => Q .non H', rt := Q } (start N vs) H) : FnOk P w K mg base CX0 (k + 1) f fd ps sp := by
  obtain ⟨oc, od, kV, doc, pm, an, cdv, ct, osl, rfl, lk, hcd⟩ := F.ex
  refine fn_of lk hcd S len fun A outer s H vs Q E hr hsp => ?_
  obtain ⟨t, h, q⟩ := hbody cdv A outer s H vs Q E hr hsp
  exact ⟨t, h.nox, q⟩
theorem Fun.binds {x qual : Str} {st : Stmt} {f : Addr} {fd : FuncData} {ps : List Str} (F : Fun K x qual st f fd)
    (h : ∀ (kV doc pm : Value) (an : Option Addr) (cdv ct : Value) (us : List Value), us.length = ps.length → bindArgs (PySem.W.fnOf x qual (defArgs st) (defBody st) (defScope st) .none kV doc pm an cdv ct) ⟨us, []⟩ = pure (ps.zip us)) : Binds K fd ps [] := by
  obtain ⟨oc, od, kV, doc, pm, an, cdv, ct, osl, rfl, lk, hcd⟩ := F.ex
  exact .all (h kV doc pm an cdv ct)
theorem fun_mk {x qual : Str} {st : Stmt} {f : Addr} {oc : Value} {od an : Option Addr} {osl : Array (Option Value)} {kV doc pm cdv ct : Value} (l : K.lookup f = some ⟨oc, od, .func (PySem.W.fnOf x qual (defArgs st) (defBody st) (defScope st) .none kV doc pm an cdv ct), osl⟩)
    (c : PySem.W.codeIn K cdv qual = true) (k : PySem.W.keepIn K (.ref f) = true) : Fun K x qual st f (PySem.W.fnOf x qual (defArgs st) (defBody st) (defScope st) .none kV doc pm an cdv ct) := ⟨⟨oc, od, kV, doc, pm, an, cdv, ct, osl, rfl, l, c⟩, k⟩
end
theorem small1000 {n : Nat} (h : n ≤ 1000) : n < sizeLine := Nat.lt_of_le_of_lt h (by decide)
section
variable {X : Cx}
theorem pv (i : Nat) {x : Str} {pos : Pos} (hN : X.N[i]? = some x := by rfl) (hv : Vis X.env.scope x := by first | exact Or.inl rfl | exact Or.inr (Or.inl rfl) | exact Or.inr (Or.inr rfl)) (hd : (x == ("__debug__" : Str)) = false := by decide)
    (hcd : (x == ("__classdict__" : Str)) = false := by decide) : PE X (.Name x pos) (tVar i) := pe_var hN hv hd hcd
end
theorem iteF {A B : Prop} (h : B) : if false = true then A else B := by
  rw [if_neg Bool.false_ne_true]
  exact h
theorem iteT {A B : Prop} (h : A) : if true = true then A else B := by
  rw [if_pos rfl]
  exact h
theorem ite2 {c A B : Prop} [Decidable c] (h1 : c → A) (h2 : ¬ c → B) : if c then A else B := by
  by_cases h : c
  · rw [if_pos h]
    exact h1 h
  · rw [if_neg h]
    exact h2 h
def Same (H H' : Hp) : Prop := ∀ b o, H b = some o → H' b = some o
theorem Same.refl (H : Hp) : Same H H := fun _ _ h => h
theorem Same.trans {H H1 H2 : Hp} (a : Same H H1) (b : Same H1 H2) : Same H H2 := fun c o h => b c o (a c o h)
theorem Same.free {H H' : Hp} (e : Same H H') {l : Addr} (h : H' l = Option.none) : H l = Option.none := by
  cases q : H l with
  | none => rfl
  | some o =>
    rw [e l o q] at h
    cases h
theorem Same.seq {K : PySem.W.Frag} {H H' : Hp} {a : Addr} {xs : List V} (e : Same H H') (h : SqL K H a xs) : SqL K H' a xs := by
  rcases h with (h | ⟨o, h⟩) | h
  · exact .inl (.inl (e _ _ h))
  · exact .inl (.inr ⟨o, e _ _ h⟩)
  · exact .inr h
theorem at_of {xs : List V} {z : Int} {j : Nat} {v : V} (e : z = (j : Int)) (h : xs[j]? = some v) : atI xs z = some v := by
  rw [e]
  exact atI_nat h
theorem nd_ix {α : Type} {l : List α} (hN : l.Nodup) {i j : Nat} {x : α} (a : l[i]? = some x) (b : l[j]? = some x) : i = j := by
  obtain ⟨h1, e1⟩ := List.getElem?_eq_some_iff.mp a
  obtain ⟨h2, e2⟩ := List.getElem?_eq_some_iff.mp b
  exact (List.getElem_inj hN).mp (e1.trans e2.symm)
theorem Same.made {H H1 : Hp} {x dx C : Addr} (nx : H x = Option.none) (nd : H dx = Option.none) (k : ∀ b o, (upd (upd H dx (.own x)) x (.ins C dx [])) b = some o → b ≠ x → H1 b = some o) : Same H H1 := fun b o e =>
  k b o (by rw [upd_ne (ne_of_none e nx), upd_ne (ne_of_none e nd)]; exact e) (ne_of_none e nx)
end L2
end
noncomputable section
namespace MJ
open Mu41
theorem mem_drop_cons {x a : Nat} : ∀ {k : Nat} {p : List Nat}, x ∈ p.drop k → x ∈ (a :: p).drop k
  | 0, p, h => by
    rw [List.drop_zero] at h ⊢
    exact List.mem_cons_of_mem _ h
  | k + 1, p, h => by
    rw [List.drop_succ_cons]
    have e : p.drop (k + 1) = (p.drop k).drop 1 := by rw [List.drop_drop]
    rw [e] at h
    exact List.mem_of_mem_drop h
def Gap (c x : Nat) (p : List Nat) : Prop := ∀ s t : Nat, s < t → p[s]? = some x → p[t]? = some x → c < t - s
theorem Gap.tail {c x a : Nat} {p : List Nat} (g : Gap c x (a :: p)) : Gap c x p := fun s t h h1 h2 => by
  have := g (s + 1) (t + 1) (by omega) (by rw [List.getElem?_cons_succ]; exact h1) (by rw [List.getElem?_cons_succ]; exact h2)
  omega
theorem far {c x : Nat} : ∀ (p : List Nat) (d m : Nat), (∀ t, t < d → p[t]? ≠ some x) → Gap c x p → m < p.count x → x ∈ p.drop (d + m * (c + 1))
  | [], d, m, _, _, h => by simp at h
  | a :: p, d, m, hd, g, h => by
    by_cases ha : a = x
    · subst ha
      have d0 : d = 0 := by
        cases d with
        | zero => rfl
        | succ d => exact absurd rfl (hd 0 (by omega))
      subst d0
      cases m with
      | zero => simp
      | succ m =>
        have hc : m < p.count a := by
          rw [List.count_cons_self] at h
          omega
        have ih := far p c m (fun t ht e => by
          have := g 0 (t + 1) (by omega) rfl (by rw [List.getElem?_cons_succ]; exact e)
          omega) g.tail hc
        have e : 0 + (m + 1) * (c + 1) = (c + m * (c + 1)) + 1 := by rw [Nat.succ_mul]; omega
        rw [e, List.drop_succ_cons]
        exact ih
    · have hc : m < p.count x := by
        rw [List.count_cons_of_ne (by exact fun q => ha q)] at h
        exact h
      cases d with
      | zero => exact mem_drop_cons (far p 0 m (fun t ht => absurd ht (by omega)) g.tail hc)
      | succ d =>
        have ih := far p d m (fun t ht e => hd (t + 1) (by omega) (by rw [List.getElem?_cons_succ]; exact e)) g.tail hc
        have e : d + 1 + m * (c + 1) = (d + m * (c + 1)) + 1 := by omega
        rw [e, List.drop_succ_cons]
        exact ih
def upto (f : Nat → Nat) : Nat → Nat
  | 0 => 0
  | n + 1 => upto f n + f n
theorem upto_le {f g : Nat → Nat} : ∀ n, (∀ i, i < n → f i ≤ g i) → upto f n ≤ upto g n
  | 0, _ => Nat.le_refl _
  | n + 1, h => Nat.add_le_add (upto_le n fun i hi => h i (by omega)) (h n (by omega))
theorem upto_zero {f : Nat → Nat} : ∀ n, (∀ i, i < n → f i = 0) → upto f n = 0
  | 0, _ => rfl
  | n + 1, h => by
    show upto f n + f n = 0
    rw [upto_zero n fun i hi => h i (by omega), h n (by omega)]
theorem upto_add {f g : Nat → Nat} : ∀ n, upto (fun i => f i + g i) n = upto f n + upto g n
  | 0 => rfl
  | n + 1 => by
    show upto (fun i => f i + g i) n + (f n + g n) = _
    rw [upto_add n]
    show _ = upto f n + f n + (upto g n + g n)
    omega
theorem upto_one {a : Nat} : ∀ n, upto (fun i => if a = i + 1 then 1 else 0) n ≤ 1
  | 0 => Nat.zero_le _
  | n + 1 => by
    show upto (fun i => if a = i + 1 then 1 else 0) n + (if a = n + 1 then 1 else 0) ≤ 1
    by_cases e : a = n + 1
    · rw [if_pos e, upto_zero n fun i hi => by rw [if_neg (by omega)]]
      exact Nat.le_refl _
    · rw [if_neg e]
      exact upto_one n
theorem upto_count (n : Nat) : ∀ q : List Nat, upto (fun i => q.count (i + 1)) n ≤ q.length
  | [] => by rw [upto_zero n fun i _ => by simp]; exact Nat.zero_le _
  | a :: q => by
    have e : upto (fun i => (a :: q).count (i + 1)) n = upto (fun i => q.count (i + 1) + (if a = i + 1 then 1 else 0)) n := by
      congr 1
      funext i
      rw [List.count_cons]
      by_cases h : a = i + 1
      · simp [h]
      · simp [h]
    rw [e, upto_add, List.length_cons]
    have := upto_count n q
    have := upto_one (a := a) n
    omega
theorem fold_add : ∀ (l : List Nat) (a : Nat), l.foldl (fun (a b : Nat) => a + b) a = a + l.sum
  | [], a => by simp
  | x :: l, a => by
    rw [List.foldl_cons, fold_add l, List.sum_cons]
    omega
theorem total_sum (l : List Nat) : total l = l.sum := by
  unfold total
  rw [fold_add]
  omega
theorem fold_max : ∀ (l : List Nat) (a : Nat), a ≤ l.foldl (fun (a b : Nat) => max a b) a ∧ (∀ x ∈ l, x ≤ l.foldl (fun (a b : Nat) => max a b) a) ∧ (l.foldl (fun (a b : Nat) => max a b) a = a ∨ l.foldl (fun (a b : Nat) => max a b) a ∈ l)
  | [], a => ⟨Nat.le_refl _, fun x h => by simp at h, Or.inl rfl⟩
  | x :: l, a => by
    obtain ⟨h1, h2, h3⟩ := fold_max l (max a x)
    rw [List.foldl_cons]
    refine ⟨by omega, fun y hy => ?_, ?_⟩
    · rcases List.mem_cons.mp hy with rfl | hy
      · omega
      · exact h2 y hy
    · rcases h3 with h3 | h3
      · by_cases e : x ≤ a
        · left; rw [h3]; omega
        · right; rw [h3, Nat.max_eq_right (by omega)]; exact List.mem_cons_self
      · right; exact List.mem_cons_of_mem _ h3
theorem le_most {l : List Nat} {x : Nat} (h : x ∈ l) : x ≤ most l := (fold_max l 0).2.1 x h
theorem most_mem {l : List Nat} (h : most l ≠ 0) : most l ∈ l := (fold_max l 0).2.2.resolve_left h
theorem most_zero {l : List Nat} (h : most l = 0) : ∀ x ∈ l, x = 0 := fun x hx => by
  have := le_most hx
  omega
theorem sum_upto : ∀ (l : List Nat), l.sum = upto (fun i => l.getD i 0) l.length := fun l => by
  suffices ∀ (n : Nat) , n ≤ l.length → (l.take n).sum = upto (fun i => l.getD i 0) n by
    have := this l.length (Nat.le_refl _)
    rw [List.take_length] at this
    exact this
  intro n
  induction n with
  | zero => intro _; rfl
  | succ n ih =>
    intro hn
    have hl : n < l.length := by omega
    rw [List.take_succ_eq_append_getElem hl, List.sum_append]
    show _ = upto (fun i => l.getD i 0) n + l.getD n 0
    rw [← ih (by omega)]
    simp [List.getD, hl]
theorem count_upto (m : Nat) : ∀ (l : List Nat), count m l = upto (fun i => if l[i]? = some m then 1 else 0) l.length := fun l => by
  suffices ∀ (n : Nat) , n ≤ l.length → count m (l.take n) = upto (fun i => if l[i]? = some m then 1 else 0) n by
    have := this l.length (Nat.le_refl _)
    rw [List.take_length] at this
    exact this
  intro n
  induction n with
  | zero => intro _; rfl
  | succ n ih =>
    intro hn
    have hl : n < l.length := by omega
    show _ = upto (fun i => if l[i]? = some m then 1 else 0) n + if l[n]? = some m then 1 else 0
    rw [← ih (by omega), List.take_succ_eq_append_getElem hl]
    unfold count
    rw [List.filter_append, List.length_append]
    congr 1
    by_cases e : l[n] = m
    · simp [e, List.getElem?_eq_getElem hl]
    · simp [e, List.getElem?_eq_getElem hl]
theorem dips_count (p : List Nat) (i : Nat) : (dips p i).length = p.count (i + 1) := by
  unfold dips
  suffices ∀ n, n ≤ p.length → ((List.range n).filter fun (t : Nat) => p.getD t 0 == i + 1).length = (p.take n).count (i + 1) by
    have := this p.length (Nat.le_refl _)
    rw [List.take_length] at this
    exact this
  intro n
  induction n with
  | zero => intro _; rfl
  | succ n ih =>
    intro hn
    have hl : n < p.length := by omega
    rw [List.range_succ, List.filter_append, List.length_append, ih (by omega), List.take_succ_eq_append_getElem hl, List.count_append]
    congr 1
    by_cases e : p[n] = i + 1
    · simp [List.getD, hl, e]
    · simp [List.getD, hl, e]
theorem unlike_none {w p : List Nat} (h : unlike w p = none) : ∀ i, i < w.length → p.count (i + 1) = w.getD i 0 := fun i hi => by
  have := List.find?_eq_none.mp h i (List.mem_range.mpr hi)
  rw [dips_count] at this
  simpa using this
theorem tooSoon_none {c : Nat} {w p : List Nat} (h : tooSoon c w p = none) (x : Nat) (hx : x ≠ 0) : Gap c x p := fun s t hst h1 h2 => by
  have ht : t < p.length := (List.getElem?_eq_some_iff.mp h2).1
  have := List.find?_eq_none.mp h t (List.mem_range.mpr ht)
  have e1 : p.getD s 0 = x := by simp [List.getD, h1]
  have e2 : p.getD t 0 = x := by simp [List.getD, h2]
  rw [e2] at this
  simp only [Bool.and_eq_true, bne_iff_ne, ne_eq, Bool.or_eq_true, decide_eq_true_eq, List.any_eq_true, List.mem_range, not_and, not_or, not_exists, beq_iff_eq] at this
  have := (this hx).2 s hst e1
  omega
theorem least_le {c : Nat} {w p : List Nat} (h1 : tooSoon c w p = none) (h2 : unlike w p = none) : least c w ≤ p.length := by
  unfold least
  by_cases hm : most w = 0
  · rw [if_pos hm]
    exact Nat.zero_le _
  · rw [if_neg hm]
    have hu := unlike_none h2
    have a1 : total w ≤ p.length := by
      rw [total_sum, sum_upto]
      exact Nat.le_trans (upto_le _ fun i hi => Nat.le_of_eq (hu i hi).symm) (upto_count w.length p)
    have a2 : count (most w) w ≤ (p.drop ((most w - 1) * (c + 1))).length := by
      rw [count_upto]
      refine Nat.le_trans (upto_le _ fun i hi => ?_) (upto_count w.length (p.drop ((most w - 1) * (c + 1))))
      by_cases e : w[i]? = some (most w)
      · rw [if_pos e]
        have e1 : p.count (i + 1) = most w := by
          rw [hu i hi]
          simp [List.getD, e]
        have := far (c := c) (x := i + 1) p 0 (most w - 1) (fun t ht => absurd ht (by omega)) (tooSoon_none h1 _ (by omega)) (by omega)
        rw [Nat.zero_add] at this
        exact List.count_pos_iff.mpr this
      · rw [if_neg e]
        exact Nat.zero_le _
    have a3 : 0 < count (most w) w := by
      have := most_mem hm
      unfold count
      refine List.length_pos_of_mem (List.mem_filter.mpr ⟨this, by simp⟩)
    rw [List.length_drop] at a2
    omega
end MJ
end
noncomputable section
namespace MP
open Mu41
inductive CallIs : List (List Int) → Mu41.Call → Prop
  | begin_ (c w : Nat) : c ≤ 9 → w ≤ 2000 → CallIs [[0, (c : Int), (w : Int)]] (.begin_ c w)
  | frame (d : Nat) : d ≤ 9 → CallIs [[1, (d : Int)]] (.frame d)
  | wax (n : Nat) : n ≤ 2000 → CallIs [[2, (n : Int)]] (.wax n)
  | dip (i : Nat) : i ≤ 9 → CallIs [[3, (i : Int)]] (.dip i)
  | wait (n : Nat) : n ≤ 200 → CallIs [[4, (n : Int)]] (.wait n)
  | sell (i : Nat) : i ≤ 9 → CallIs [[5, (i : Int)]] (.sell i)
  | look (i : Nat) : i ≤ 9 → CallIs [[6, (i : Int)]] (.look i)
  | least (w : List Nat) : w.length ≤ 8 → (∀ x ∈ w, x ≤ 9) → CallIs [[7], nums w] (.least w)
  | plan (w : List Nat) : w.length ≤ 8 → (∀ x ∈ w, x ≤ 9) → CallIs [[8], nums w] (.plan w)
  | judge (w p : List Nat) : w.length ≤ 8 → (∀ x ∈ w, x ≤ 9) → p.length ≤ 60 → (∀ x ∈ p, x ≤ 9) → CallIs [[9], nums w, nums p] (.judge w p)
  | cooling (t : Nat) (w : List Nat) : t ≤ 100 → w.length ≤ 8 → (∀ x ∈ w, x ≤ 9) → CallIs [[10, (t : Int)], nums w] (.cooling t w)
  | rest : CallIs [[11]] .rest
  | follow (p : List Nat) : p.length ≤ 60 → (∀ x ∈ p, x ≤ 9) → CallIs [[12], nums p] (.follow p)
  | book : CallIs [[13]] .book
theorem nats_nums (w : List Nat) : Mu41Neutral.nats (nums w) = w := by
  unfold Mu41Neutral.nats nums
  rw [List.map_map]
  induction w with
  | nil => rfl
  | cons x w ih =>
    rw [List.map_cons, ih]
    rfl
theorem step_is {c : List (List Int)} {x : Mu41.Call} (h : CallIs c x) (s : Mu41.Abs) : Mu41Neutral.step s c = Mu41.step s x := by
  cases h with
  | least w _ _ =>
    show Mu41.step s (.least (Mu41Neutral.nats (nums w))) = _
    rw [nats_nums]
  | plan w _ _ =>
    show Mu41.step s (.plan (Mu41Neutral.nats (nums w))) = _
    rw [nats_nums]
  | judge w p _ _ _ _ =>
    show Mu41.step s (.judge (Mu41Neutral.nats (nums w)) (Mu41Neutral.nats (nums p))) = _
    rw [nats_nums, nats_nums]
  | cooling t w _ _ _ =>
    show Mu41.step s (.cooling t (Mu41Neutral.nats (nums w))) = _
    rw [nats_nums]
  | follow p _ _ =>
    show Mu41.step s (.follow (Mu41Neutral.nats (nums p))) = _
    rw [nats_nums]
  | _ => rfl
theorem int_nat {z : Int} {lo hi : Int} (h : NeutralIO.within z lo hi = true) (h0 : lo = 0) : ∃ n : Nat, z = n ∧ (n : Int) ≤ hi := by
  unfold NeutralIO.within at h
  rw [Bool.and_eq_true, decide_eq_true_eq, decide_eq_true_eq] at h
  exact ⟨z.toNat, by omega, by omega⟩
theorem nine_nat {z : Int} (h : Mu41Neutral.nine z = true) : ∃ n : Nat, z = n ∧ n ≤ 9 := by
  obtain ⟨n, e, b⟩ := int_nat (lo := 0) (hi := 9) h rfl
  exact ⟨n, e, by omega⟩
theorem list_nat : ∀ {l : List Int}, l.all Mu41Neutral.nine = true → ∃ w : List Nat, l = nums w ∧ w.length = l.length ∧ ∀ x ∈ w, x ≤ 9
  | [], _ => ⟨[], rfl, rfl, fun x h => by simp at h⟩
  | z :: l, h => by
    rw [List.all_cons, Bool.and_eq_true] at h
    obtain ⟨n, rfl, hn⟩ := nine_nat h.1
    obtain ⟨w, rfl, hl, hw⟩ := list_nat h.2
    refine ⟨n :: w, rfl, by simp [hl], fun x hx => ?_⟩
    rcases List.mem_cons.mp hx with rfl | hx
    · exact hn
    · exact hw x hx
theorem wanted_nat {l : List Int} (h : Mu41Neutral.wanted l = true) : ∃ w : List Nat, l = nums w ∧ w.length ≤ 8 ∧ ∀ x ∈ w, x ≤ 9 := by
  unfold Mu41Neutral.wanted at h
  rw [Bool.and_eq_true, decide_eq_true_eq] at h
  obtain ⟨w, e, hl, hw⟩ := list_nat h.2
  exact ⟨w, e, by omega, hw⟩
theorem plan_nat {l : List Int} (h : Mu41Neutral.plan l = true) : ∃ w : List Nat, l = nums w ∧ w.length ≤ 60 ∧ ∀ x ∈ w, x ≤ 9 := by
  unfold Mu41Neutral.plan at h
  rw [Bool.and_eq_true, decide_eq_true_eq] at h
  obtain ⟨w, e, hl, hw⟩ := list_nat h.2
  exact ⟨w, e, by omega, hw⟩
theorem len1 {α : Type} {l : List α} (h : l.length = 1) : ∃ a, l = [a] := List.length_eq_one_iff.mp h
theorem len2 {α : Type} {l : List α} (h : l.length = 2) : ∃ a b, l = [a, b] := by
  cases l with
  | nil => cases h
  | cons a l =>
    obtain ⟨b, rfl⟩ := len1 (Nat.succ.inj h)
    exact ⟨a, b, rfl⟩
theorem ok_call {c : List (List Int)} (h : PyFlat.okCall PyMu41.shape c) (ha : Mu41Neutral.asked1 (PyMu41.whole c) = true) : PyMu41.whole c = c ∧ ∃ x, CallIs c x := by
  obtain ⟨p, a, xs, rfl, hs⟩ := h
  unfold PyMu41.shape at hs
  by_cases h0 : p = 0
  · subst h0
    have e := Option.some.inj hs
    injection e with e1 e2
    obtain ⟨u, v, rfl⟩ := len2 e1.symm
    obtain rfl := List.eq_nil_of_length_eq_zero e2.symm
    have ha' : (Mu41Neutral.nine u && NeutralIO.within v 0 2000) = true := ha
    rw [Bool.and_eq_true] at ha'
    obtain ⟨n, rfl, hn⟩ := nine_nat ha'.1
    obtain ⟨m, rfl, hm⟩ := int_nat ha'.2 rfl
    exact ⟨rfl, _, .begin_ n m hn (by omega)⟩
  rw [if_neg h0] at hs
  by_cases h1 : p = 1
  · subst h1
    have e := Option.some.inj hs
    injection e with e1 e2
    obtain ⟨u, rfl⟩ := len1 e1.symm
    obtain rfl := List.eq_nil_of_length_eq_zero e2.symm
    obtain ⟨n, rfl, hn⟩ := nine_nat (show Mu41Neutral.nine u = true from ha)
    exact ⟨rfl, _, .frame n hn⟩
  rw [if_neg h1] at hs
  by_cases h2 : p = 2
  · subst h2
    have e := Option.some.inj hs
    injection e with e1 e2
    obtain ⟨u, rfl⟩ := len1 e1.symm
    obtain rfl := List.eq_nil_of_length_eq_zero e2.symm
    obtain ⟨n, rfl, hn⟩ := int_nat (show NeutralIO.within u 0 2000 = true from ha) rfl
    exact ⟨rfl, _, .wax n (by omega)⟩
  rw [if_neg h2] at hs
  by_cases h3 : p = 3
  · subst h3
    have e := Option.some.inj hs
    injection e with e1 e2
    obtain ⟨u, rfl⟩ := len1 e1.symm
    obtain rfl := List.eq_nil_of_length_eq_zero e2.symm
    obtain ⟨n, rfl, hn⟩ := nine_nat (show Mu41Neutral.nine u = true from ha)
    exact ⟨rfl, _, .dip n hn⟩
  rw [if_neg h3] at hs
  by_cases h4 : p = 4
  · subst h4
    have e := Option.some.inj hs
    injection e with e1 e2
    obtain ⟨u, rfl⟩ := len1 e1.symm
    obtain rfl := List.eq_nil_of_length_eq_zero e2.symm
    obtain ⟨n, rfl, hn⟩ := int_nat (show NeutralIO.within u 0 200 = true from ha) rfl
    exact ⟨rfl, _, .wait n (by omega)⟩
  rw [if_neg h4] at hs
  by_cases h5 : p = 5
  · subst h5
    have e := Option.some.inj hs
    injection e with e1 e2
    obtain ⟨u, rfl⟩ := len1 e1.symm
    obtain rfl := List.eq_nil_of_length_eq_zero e2.symm
    obtain ⟨n, rfl, hn⟩ := nine_nat (show Mu41Neutral.nine u = true from ha)
    exact ⟨rfl, _, .sell n hn⟩
  rw [if_neg h5] at hs
  by_cases h6 : p = 6
  · subst h6
    have e := Option.some.inj hs
    injection e with e1 e2
    obtain ⟨u, rfl⟩ := len1 e1.symm
    obtain rfl := List.eq_nil_of_length_eq_zero e2.symm
    obtain ⟨n, rfl, hn⟩ := nine_nat (show Mu41Neutral.nine u = true from ha)
    exact ⟨rfl, _, .look n hn⟩
  rw [if_neg h6] at hs
  by_cases h7 : p = 7
  · subst h7
    have e := Option.some.inj hs
    injection e with e1 e2
    obtain rfl := List.eq_nil_of_length_eq_zero e1.symm
    obtain ⟨r, rfl⟩ := len1 e2.symm
    obtain ⟨w, rfl, g1, g2⟩ := wanted_nat (show Mu41Neutral.wanted r = true from ha)
    exact ⟨rfl, _, .least w g1 g2⟩
  rw [if_neg h7] at hs
  by_cases h8 : p = 8
  · subst h8
    have e := Option.some.inj hs
    injection e with e1 e2
    obtain rfl := List.eq_nil_of_length_eq_zero e1.symm
    obtain ⟨r, rfl⟩ := len1 e2.symm
    obtain ⟨w, rfl, g1, g2⟩ := wanted_nat (show Mu41Neutral.wanted r = true from ha)
    exact ⟨rfl, _, .plan w g1 g2⟩
  rw [if_neg h8] at hs
  by_cases h9 : p = 9
  · subst h9
    have e := Option.some.inj hs
    injection e with e1 e2
    obtain rfl := List.eq_nil_of_length_eq_zero e1.symm
    obtain ⟨r, u, rfl⟩ := len2 e2.symm
    have ha' : (Mu41Neutral.wanted r && Mu41Neutral.plan u) = true := ha
    rw [Bool.and_eq_true] at ha'
    obtain ⟨w, rfl, g1, g2⟩ := wanted_nat ha'.1
    obtain ⟨q, rfl, g3, g4⟩ := plan_nat ha'.2
    exact ⟨rfl, _, .judge w q g1 g2 g3 g4⟩
  rw [if_neg h9] at hs
  by_cases h10 : p = 10
  · subst h10
    have e := Option.some.inj hs
    injection e with e1 e2
    obtain ⟨u, rfl⟩ := len1 e1.symm
    obtain ⟨r, rfl⟩ := len1 e2.symm
    have ha' : (NeutralIO.within u 0 100 && Mu41Neutral.wanted r) = true := ha
    rw [Bool.and_eq_true] at ha'
    obtain ⟨t, rfl, ht⟩ := int_nat ha'.1 rfl
    obtain ⟨w, rfl, g1, g2⟩ := wanted_nat ha'.2
    exact ⟨rfl, _, .cooling t w (by omega) g1 g2⟩
  rw [if_neg h10] at hs
  by_cases h11 : p = 11
  · subst h11
    have e := Option.some.inj hs
    injection e with e1 e2
    obtain rfl := List.eq_nil_of_length_eq_zero e1.symm
    obtain rfl := List.eq_nil_of_length_eq_zero e2.symm
    exact ⟨rfl, _, .rest⟩
  rw [if_neg h11] at hs
  by_cases h12 : p = 12
  · subst h12
    have e := Option.some.inj hs
    injection e with e1 e2
    obtain rfl := List.eq_nil_of_length_eq_zero e1.symm
    obtain ⟨r, rfl⟩ := len1 e2.symm
    obtain ⟨w, rfl, g1, g2⟩ := plan_nat (show Mu41Neutral.plan r = true from ha)
    exact ⟨rfl, _, .follow w g1 g2⟩
  rw [if_neg h12] at hs
  by_cases h13 : p = 13
  · subst h13
    have e := Option.some.inj hs
    injection e with e1 e2
    obtain rfl := List.eq_nil_of_length_eq_zero e1.symm
    obtain rfl := List.eq_nil_of_length_eq_zero e2.symm
    exact ⟨rfl, _, .book⟩
  rw [if_neg h13] at hs
  cases hs
theorem all_ok : ∀ {cs : List (List (List Int))}, (∀ c ∈ cs, PyFlat.okCall PyMu41.shape c) → (cs.map PyMu41.whole).all Mu41Neutral.asked1 = true → cs.map PyMu41.whole = cs ∧ ∀ c ∈ cs, ∃ x, CallIs c x
  | [], _, _ => ⟨rfl, fun c h => by simp at h⟩
  | c :: cs, h, ha => by
    rw [List.map_cons, List.all_cons, Bool.and_eq_true] at ha
    obtain ⟨e1, x, hx⟩ := ok_call (h c (List.mem_cons_self ..)) ha.1
    obtain ⟨e2, hy⟩ := all_ok (fun d hd => h d (List.mem_cons_of_mem _ hd)) ha.2
    refine ⟨by rw [List.map_cons, e1, e2], fun d hd => ?_⟩
    rcases List.mem_cons.mp hd with rfl | hd
    · exact ⟨x, hx⟩
    · exact hy d hd
theorem asked_calls {l : List Int} (h : PyMu41.answers_asked l = true) : ∃ cs : List (List (List Int)), l = PyFlat.put cs ∧ (∀ c ∈ cs, ∃ x, CallIs c x) ∧ cs.length ≤ 60 ∧
    PyMu41.answers l = PyFlat.told (PyFlat.played Mu41Neutral.step Mu41Neutral.start cs) ∧ (PyMu41.answers l).length ≤ 10000000 := by
  unfold PyMu41.answers_asked at h
  cases e : PyFlat.calls PyMu41.shape l.length l with
  | none =>
    rw [e] at h
    cases h
  | some cs =>
    rw [e] at h
    have h' : (!cs.isEmpty && PyFlat.atMost 60 cs && PyInside.calls PyMu41.bound cs && Mu41Neutral.asked (cs.map PyMu41.whole) && PyFlat.short 10000000 (PyMu41.answers l)) = true := h
    rw [Bool.and_eq_true, Bool.and_eq_true, Bool.and_eq_true, Bool.and_eq_true] at h'
    obtain ⟨⟨⟨⟨_, h1⟩, _⟩, h2⟩, h3⟩ := h'
    obtain ⟨e1, e2⟩ := PyFlat.put_calls _ _ _ e
    unfold Mu41Neutral.asked at h2
    rw [Bool.and_eq_true, Bool.and_eq_true] at h2
    obtain ⟨e3, e4⟩ := all_ok e2 h2.2.2
    refine ⟨cs, e1, e4, of_decide_eq_true h1, ?_, of_decide_eq_true h3⟩
    unfold PyMu41.answers PyMu41.calls
    rw [e]
    show PyFlat.told (PyFlat.played Mu41Neutral.step Mu41Neutral.start (cs.map PyMu41.whole)) = _
    rw [e3]
end MP
end
noncomputable section
namespace ML
open Mu41
def Le (w : List Nat) (i j : Nat) : Prop := w.getD j 0 < w.getD i 0 ∨ (w.getD i 0 = w.getD j 0 ∧ i ≤ j)
theorem Le.antisymm {w : List Nat} {i j : Nat} (h1 : Le w i j) (h2 : Le w j i) : i = j := by
  unfold Le at h1 h2
  omega
theorem Le.trans {w : List Nat} {i j k : Nat} (h1 : Le w i j) (h2 : Le w j k) : Le w i k := by
  unfold Le at h1 h2 ⊢
  omega
theorem uniq {w : List Nat} : ∀ {l m : List Nat}, l.Perm m → l.Pairwise (Le w) → m.Pairwise (Le w) → l = m
  | [], m, p, _, _ => by rw [p.nil_eq]
  | a :: l, [], p, _, _ => by have := p.length_eq; simp at this
  | a :: l, b :: m, p, h1, h2 => by
    obtain ⟨a1, a2⟩ := List.pairwise_cons.mp h1
    obtain ⟨b1, b2⟩ := List.pairwise_cons.mp h2
    have e : a = b := by
      by_cases h : a = b
      · exact h
      · have ha : a ∈ m := by
          rcases List.mem_cons.mp (p.mem_iff.mp (List.mem_cons_self ..)) with q | q
          · exact absurd q h
          · exact q
        have hb : b ∈ l := by
          rcases List.mem_cons.mp (p.mem_iff.mpr (List.mem_cons_self ..)) with q | q
          · exact absurd q.symm h
          · exact q
        exact Le.antisymm (a1 b hb) (b1 a ha)
    subst e
    rw [uniq (List.Perm.cons_inv p) a2 b2]
theorem insert_perm (w : List Nat) (i : Nat) : ∀ l : List Nat, (Mu41.insert w i l).Perm (i :: l)
  | [] => List.Perm.refl _
  | j :: l => by
    unfold Mu41.insert
    split
    · exact List.Perm.refl _
    · exact ((insert_perm w i l).cons j).trans (List.Perm.swap i j l)
theorem insert_sorted (w : List Nat) (i : Nat) : ∀ l : List Nat, l.Pairwise (Le w) → (Mu41.insert w i l).Pairwise (Le w)
  | [], _ => by unfold Mu41.insert; simp
  | j :: l, h => by
    obtain ⟨h1, h2⟩ := List.pairwise_cons.mp h
    unfold Mu41.insert
    split
    · rename_i hc
      have hij : Le w i j := by
        unfold Le
        omega
      refine List.pairwise_cons.mpr ⟨fun k hk => ?_, h⟩
      rcases List.mem_cons.mp hk with rfl | hk
      · exact hij
      · exact hij.trans (h1 k hk)
    · rename_i hc
      refine List.pairwise_cons.mpr ⟨fun k hk => ?_, insert_sorted w i l h2⟩
      rcases List.mem_cons.mp ((insert_perm w i l).mem_iff.mp hk) with rfl | hk
      · unfold Le
        omega
      · exact h1 k hk
theorem fold_perm (w : List Nat) : ∀ l : List Nat, (l.foldr (Mu41.insert w) []).Perm l
  | [] => List.Perm.refl _
  | i :: l => (insert_perm w i _).trans ((fold_perm w l).cons i)
theorem fold_sorted (w : List Nat) : ∀ l : List Nat, (l.foldr (Mu41.insert w) []).Pairwise (Le w)
  | [] => List.Pairwise.nil
  | i :: l => insert_sorted w i _ (fold_sorted w l)
theorem ranked_is {w is : List Nat} (p : is.Perm (List.range w.length)) (s : is.Pairwise (Le w)) : ranked w = is.filter fun (i : Nat) => w.getD i 0 != 0 := by
  unfold ranked
  exact uniq ((fold_perm w _).trans (p.filter _).symm) (fold_sorted w _) (s.sublist List.filter_sublist)
def deal (rows : List (List Nat)) : Nat → List Nat → List (List Nat)
  | _, [] => rows
  | k, x :: l => deal (rows.set (k % rows.length) (rows.getD (k % rows.length) [] ++ [x])) (k + 1) l
theorem deal_length (l : List Nat) : ∀ (rows : List (List Nat)) (k : Nat), (deal rows k l).length = rows.length := by
  induction l with
  | nil => intro rows k; rfl
  | cons x l ih =>
    intro rows k
    unfold deal
    rw [ih, List.length_set]
theorem deal_snoc (x : Nat) (l : List Nat) : ∀ (rows : List (List Nat)) (k : Nat), deal rows k (l ++ [x]) = (deal rows k l).set ((k + l.length) % rows.length) ((deal rows k l).getD ((k + l.length) % rows.length) [] ++ [x]) := by
  induction l with
  | nil => intro rows k; rfl
  | cons y l ih =>
    intro rows k
    rw [List.cons_append]
    unfold deal
    rw [ih, List.length_set, List.length_cons]
    have e : k + 1 + l.length = k + (l.length + 1) := by omega
    rw [e]
theorem deal_dealt (l : List Nat) : ∀ (rows : List (List Nat)) (k : Nat), 0 < rows.length → deal rows k l = dealt rows (k % rows.length) l := by
  induction l with
  | nil => intro rows k _; unfold deal dealt; rfl
  | cons x l ih =>
    intro rows k h
    unfold deal dealt
    rw [ih _ _ (by rw [List.length_set]; exact h), List.length_set]
    congr 1
    have hk := Nat.mod_lt k h
    have hd := Nat.div_add_mod k rows.length
    split
    · rename_i hc
      rw [Nat.add_mod, Nat.mod_eq_of_lt (show 1 < rows.length by omega), Nat.mod_eq_of_lt hc]
    · rename_i hc
      have e : k % rows.length = rows.length - 1 := by omega
      have e2 : k + 1 = rows.length * (k / rows.length + 1) := by
        rw [Nat.mul_add, Nat.mul_one]
        omega
      rw [e2, Nat.mul_mod_right]
theorem dealt_nil (rows : List (List Nat)) (r : Nat) : dealt rows r [] = rows := by unfold dealt; rfl
def tops (w is : List Nat) : List Nat := (is.filter fun (i : Nat) => w.getD i 0 == most w).map fun (i : Nat) => i + 1
def others (w is : List Nat) : List Nat := is.flatMap fun (i : Nat) => if w.getD i 0 < most w then List.replicate (w.getD i 0) (i + 1) else []
theorem getD_le_most (w : List Nat) (i : Nat) : w.getD i 0 ≤ most w := by
  rw [List.getD_eq_getElem?_getD]
  cases h : w[i]? with
  | none => simp
  | some x => exact MJ.le_most (List.mem_of_getElem? h)
theorem others_is (w : List Nat) : ∀ is : List Nat, ((is.filter fun (i : Nat) => w.getD i 0 != 0).filter fun (i : Nat) => w.getD i 0 != most w).flatMap (fun (i : Nat) => List.replicate (w.getD i 0) (i + 1)) = others w is
  | [] => rfl
  | i :: is => by
    have ih := others_is w is
    unfold others at ih ⊢
    rw [List.flatMap_cons, ← ih]
    have hm := getD_le_most w i
    by_cases h0 : w.getD i 0 = 0
    · rw [List.filter_cons_of_neg (by show ¬ (w.getD i 0 != 0) = true; rw [h0]; decide)]
      by_cases hm0 : w.getD i 0 < most w
      · rw [if_pos hm0, h0]
        rfl
      · rw [if_neg hm0]
        rfl
    · rw [List.filter_cons_of_pos (by show (w.getD i 0 != 0) = true; exact bne_iff_ne.mpr h0)]
      by_cases hmm : w.getD i 0 = most w
      · rw [List.filter_cons_of_neg (by show ¬ (w.getD i 0 != most w) = true; rw [hmm]; simp), if_neg (by omega)]
        rfl
      · rw [List.filter_cons_of_pos (by show (w.getD i 0 != most w) = true; exact bne_iff_ne.mpr hmm), if_pos (by omega)]
        rfl
theorem tops_is {w : List Nat} (hm : most w ≠ 0) (is : List Nat) : ((is.filter fun (i : Nat) => w.getD i 0 != 0).filter fun (i : Nat) => w.getD i 0 == most w).map (fun (i : Nat) => i + 1) = tops w is := by
  unfold tops
  rw [List.filter_filter]
  congr 1
  apply List.filter_congr
  intro i _
  by_cases h : w.getD i 0 = most w
  · rw [h, bne_iff_ne.mpr hm, Bool.and_true]
  · rw [beq_eq_false_iff_ne.mpr h, Bool.false_and]
theorem others_one {w : List Nat} (hm : most w = 1) (is : List Nat) : others w is = [] := by
  unfold others
  rw [List.flatMap_eq_nil_iff]
  intro i _
  split
  · rename_i h
    have e : w.getD i 0 = 0 := by omega
    rw [e]
    rfl
  · rfl
def padAll (c : Nat) (rows : List (List Nat)) : List Nat := rows.flatMap fun (r : List Nat) => padded c r
theorem plan_is {c : Nat} {w is : List Nat} (p : is.Perm (List.range w.length)) (s : is.Pairwise (Le w)) (hm : most w ≠ 0) :
    plan c w = padAll c (deal (List.replicate (most w - 1) (tops w is)) 0 (others w is)) ++ tops w is := by
  unfold plan
  simp only [if_neg hm]
  rw [ranked_is p s, tops_is hm, others_is]
  unfold padAll
  congr 2
  by_cases h1 : most w = 1
  · rw [others_one h1]
    unfold deal dealt
    rfl
  · rw [deal_dealt _ _ _ (by rw [List.length_replicate]; omega), Nat.zero_mod]
theorem plan_zero {c : Nat} {w : List Nat} (hm : most w = 0) : plan c w = [] := by
  have hr : ranked w = [] := by
    unfold ranked
    have : ((List.range w.length).filter fun (i : Nat) => w.getD i 0 != 0) = [] := by
      rw [List.filter_eq_nil_iff]
      intro i _
      have h1 := getD_le_most w i
      have h2 : w.getD i 0 = 0 := by omega
      rw [h2]
      decide
    rw [this]
    rfl
  unfold plan
  simp only [hm, hr]
  rfl
def flat (c : Nat) (rows : List (List Nat)) : Nat := (rows.map fun (r : List Nat) => max r.length (c + 1)).sum
theorem padAll_length (c : Nat) : ∀ rows : List (List Nat), (padAll c rows).length = flat c rows
  | [] => rfl
  | r :: rows => by
    unfold padAll flat
    rw [List.flatMap_cons, List.length_append, List.map_cons, List.sum_cons]
    have ih := padAll_length c rows
    unfold padAll flat at ih
    rw [ih]
    unfold padded
    rw [List.length_append, List.length_replicate]
    omega
def Even (L r : Nat) (rows : List (List Nat)) : Prop := r ≤ rows.length ∧ ∀ (i : Nat) (x : List Nat), rows[i]? = some x → x.length = if i < r then L + 1 else L
theorem even_deal (l : List Nat) : ∀ (rows : List (List Nat)) (k L : Nat), 0 < rows.length → Even L (k % rows.length) rows → ∃ L' r', r' < rows.length ∧ Even L' r' (deal rows k l) ∧ L' * rows.length + r' = L * rows.length + k % rows.length + l.length := by
  induction l with
  | nil =>
    intro rows k L h e
    exact ⟨L, k % rows.length, Nat.mod_lt _ h, e, rfl⟩
  | cons x l ih =>
    intro rows k L h e
    unfold deal
    have hk := Nat.mod_lt k h
    have hd := Nat.div_add_mod k rows.length
    have hget : rows[k % rows.length]? = some (rows.getD (k % rows.length) []) := by
      rw [List.getD_eq_getElem?_getD, List.getElem?_eq_getElem hk]
      rfl
    have hlen := e.2 _ _ hget
    rw [if_neg (Nat.lt_irrefl _)] at hlen
    have step : ∀ (i : Nat) (y : List Nat), (rows.set (k % rows.length) (rows.getD (k % rows.length) [] ++ [x]))[i]? = some y → y.length = if i < k % rows.length + 1 then L + 1 else L := by
      intro i y hy
      by_cases hi : k % rows.length = i
      · rw [hi, List.getElem?_set_self (by omega)] at hy
        rw [← Option.some.inj hy, List.length_append, ← hi, hlen, if_pos (by omega)]
        rfl
      · rw [List.getElem?_set_ne hi] at hy
        rw [e.2 i y hy]
        split
        · rw [if_pos (by omega)]
        · rw [if_neg (by omega)]
    have hl2 : (rows.set (k % rows.length) (rows.getD (k % rows.length) [] ++ [x])).length = rows.length := List.length_set
    by_cases hc : k % rows.length + 1 < rows.length
    · have hm : (k + 1) % rows.length = k % rows.length + 1 := by rw [Nat.add_mod, Nat.mod_eq_of_lt (show 1 < rows.length by omega), Nat.mod_eq_of_lt hc]
      obtain ⟨L', r', h1, h2, h3⟩ := ih _ (k + 1) L (by rw [hl2]; exact h) (by rw [hl2, hm]; exact ⟨by rw [hl2]; omega, step⟩)
      rw [hl2] at h1 h3
      exact ⟨L', r', h1, h2, by rw [h3, hm, List.length_cons]; omega⟩
    · have hm : (k + 1) % rows.length = 0 := by
        have e2 : k + 1 = rows.length * (k / rows.length + 1) := by
          rw [Nat.mul_add, Nat.mul_one]
          omega
        rw [e2, Nat.mul_mod_right]
      obtain ⟨L', r', h1, h2, h3⟩ := ih _ (k + 1) (L + 1) (by rw [hl2]; exact h) (by
        rw [hl2, hm]
        refine ⟨Nat.zero_le _, fun i y hy => ?_⟩
        have hi : i < rows.length := by
          have := (List.getElem?_eq_some_iff.mp hy).1
          rw [hl2] at this
          exact this
        rw [step i y hy, if_pos (by omega), if_neg (by omega)])
      rw [hl2] at h1 h3
      exact ⟨L', r', h1, h2, by rw [h3, hm, List.length_cons, Nat.add_mul, Nat.one_mul]; omega⟩
theorem flat_even (c : Nat) : ∀ (rows : List (List Nat)) (L r : Nat), Even L r rows → flat c rows = r * max (L + 1) (c + 1) + (rows.length - r) * max L (c + 1)
  | [], L, r, e => by
    have : r = 0 := by have := e.1; simpa using this
    subst this
    simp [flat]
  | x :: rows, L, r, e => by
    unfold flat
    rw [List.map_cons, List.sum_cons]
    have h0 := e.2 0 x rfl
    have hr := e.1
    rw [List.length_cons] at hr ⊢
    cases r with
    | zero =>
      have ih := flat_even c rows L 0 ⟨Nat.zero_le _, fun i y hy => by have := e.2 (i + 1) y hy; rw [if_neg (by omega)] at this ⊢; exact this⟩
      unfold flat at ih
      rw [ih, h0, if_neg (by omega), Nat.zero_mul, Nat.sub_zero, Nat.sub_zero, Nat.add_mul, Nat.one_mul]
      omega
    | succ r =>
      have ih := flat_even c rows L r ⟨by omega, fun i y hy => by
        have := e.2 (i + 1) y hy
        rw [this]
        split
        · rw [if_pos (by omega)]
        · rw [if_neg (by omega)]⟩
      unfold flat at ih
      rw [ih, h0, if_pos (by omega), Nat.add_mul, Nat.one_mul]
      have e1 : rows.length + 1 - (r + 1) = rows.length - r := by omega
      rw [e1]
      omega
theorem self_range (w : List Nat) : (List.range w.length).map (fun (i : Nat) => w.getD i 0) = w := by
  apply List.ext_getElem?
  intro i
  rw [List.getElem?_map]
  by_cases hi : i < w.length
  · rw [List.getElem?_range hi, List.getElem?_eq_getElem hi]
    show some (w.getD i 0) = _
    rw [List.getD_eq_getElem?_getD, List.getElem?_eq_getElem hi]
    rfl
  · rw [List.getElem?_eq_none (by rw [List.length_range]; omega), List.getElem?_eq_none (by omega)]
    rfl
theorem tops_length {w is : List Nat} (p : is.Perm (List.range w.length)) : (tops w is).length = count (most w) w := by
  unfold tops count
  rw [List.length_map, (p.filter _).length_eq]
  have e : (w.filter fun (x : Nat) => x == most w) = (((List.range w.length).map (fun (i : Nat) => w.getD i 0)).filter fun (x : Nat) => x == most w) := by rw [self_range]
  rw [e, List.filter_map, List.length_map]
  rfl
theorem sum_perm {l m : List Nat} (p : l.Perm m) : l.sum = m.sum := by
  induction p with
  | nil => rfl
  | cons x _ ih => rw [List.sum_cons, List.sum_cons, ih]
  | swap x y l => simp only [List.sum_cons]; omega
  | trans _ _ h1 h2 => exact h1.trans h2
theorem flatMap_length (f : Nat → List Nat) : ∀ l : List Nat, (l.flatMap f).length = (l.map fun (i : Nat) => (f i).length).sum
  | [] => rfl
  | i :: l => by rw [List.flatMap_cons, List.length_append, List.map_cons, List.sum_cons, flatMap_length f l]
theorem others_length {w is : List Nat} (p : is.Perm (List.range w.length)) : (others w is).length = (w.map fun (x : Nat) => if x < most w then x else 0).sum := by
  unfold others
  rw [flatMap_length, sum_perm (p.map _)]
  have e : (w.map fun (x : Nat) => if x < most w then x else 0) = (((List.range w.length).map (fun (i : Nat) => w.getD i 0)).map fun (x : Nat) => if x < most w then x else 0) := by rw [self_range]
  rw [e, List.map_map]
  congr 1
  apply List.map_congr_left
  intro i _
  show (if w.getD i 0 < most w then List.replicate (w.getD i 0) (i + 1) else []).length = if w.getD i 0 < most w then w.getD i 0 else 0
  split
  · rw [List.length_replicate]
  · rfl
theorem sum_split (m : Nat) : ∀ w : List Nat, (∀ x ∈ w, x ≤ m) → w.sum = (w.map fun (x : Nat) => if x < m then x else 0).sum + m * count m w
  | [], _ => rfl
  | x :: w, h => by
    have ih := sum_split m w fun y hy => h y (List.mem_cons_of_mem _ hy)
    have hx := h x (List.mem_cons_self ..)
    unfold count at ih ⊢
    rw [List.sum_cons, List.map_cons, List.sum_cons, ih]
    by_cases e : x = m
    · rw [List.filter_cons_of_pos (by simp [e]), List.length_cons, if_neg (by omega), Nat.mul_add]
      omega
    · rw [List.filter_cons_of_neg (by simp [e]), if_pos (by omega)]
      omega
theorem even_mul {R L r c t : Nat} (hr : r < R) : r * max (L + 1) (c + 1) + (R - r) * max L (c + 1) + t = max (L * R + r + t) (R * (c + 1) + t) := by
  obtain ⟨d, rfl⟩ : ∃ d, R = r + d := ⟨R - r, by omega⟩
  have e1 : r + d - r = d := by omega
  rw [e1]
  by_cases h : c + 1 ≤ L
  · rw [Nat.max_eq_left (show c + 1 ≤ L + 1 by omega), Nat.max_eq_left h]
    have h1 : (r + d) * (c + 1) ≤ (r + d) * L := Nat.mul_le_mul_left _ h
    have h2 : r * (L + 1) = r * L + r := by rw [Nat.mul_add, Nat.mul_one]
    have h3 : (r + d) * L = r * L + d * L := Nat.add_mul _ _ _
    have h4 : L * (r + d) = (r + d) * L := Nat.mul_comm _ _
    rw [Nat.max_eq_left (by omega)]
    omega
  · rw [Nat.max_eq_right (show L + 1 ≤ c + 1 by omega), Nat.max_eq_right (show L ≤ c + 1 by omega)]
    have h1 : (r + d) * (L + 1) ≤ (r + d) * (c + 1) := Nat.mul_le_mul_left _ (by omega)
    have h2 : (r + d) * (L + 1) = (r + d) * L + (r + d) := by rw [Nat.mul_add, Nat.mul_one]
    have h3 : (r + d) * (c + 1) = r * (c + 1) + d * (c + 1) := Nat.add_mul _ _ _
    have h4 : L * (r + d) = (r + d) * L := Nat.mul_comm _ _
    rw [Nat.max_eq_right (by omega)]
    omega
theorem plan_length (c : Nat) (w : List Nat) : (plan c w).length = least c w := by
  unfold least
  by_cases hm : most w = 0
  · rw [plan_zero hm, if_pos hm]
    rfl
  · rw [if_neg hm]
    have p := fold_perm w (List.range w.length)
    have s := fold_sorted w (List.range w.length)
    generalize (List.range w.length).foldr (Mu41.insert w) [] = is at p s
    rw [plan_is p s hm, List.length_append, padAll_length]
    have ht := tops_length p
    have ho := others_length p
    have hs := sum_split (most w) w fun x hx => MJ.le_most hx
    rw [← MJ.total_sum] at hs
    rw [← ho, ← ht] at hs
    rw [← ht, hs]
    generalize hT : tops w is = T at *
    by_cases h1 : most w = 1
    · rw [others_one h1, h1]
      show flat c (List.replicate 0 T) + T.length = _
      simp [flat]
    · obtain ⟨L, r, h2, h3, h4⟩ := even_deal (others w is) (List.replicate (most w - 1) T) 0 T.length (by rw [List.length_replicate]; omega) (by
        rw [Nat.zero_mod]
        refine ⟨Nat.zero_le _, fun i x hx => ?_⟩
        rw [List.getElem?_replicate] at hx
        split at hx
        · rw [← Option.some.inj hx, if_neg (by omega)]
        · cases hx)
      rw [flat_even c _ L r h3, deal_length]
      rw [Nat.zero_mod, Nat.add_zero] at h4
      rw [List.length_replicate] at h2 h4 ⊢
      rw [even_mul h2, h4]
      have e : most w * T.length = T.length * (most w - 1) + T.length := by
        have : most w = (most w - 1) + 1 := by omega
        rw [this, Nat.add_mul, Nat.one_mul, Nat.mul_comm]
        rfl
      rw [e]
      have e2 : T.length * (most w - 1) + (others w is).length + T.length = (others w is).length + (T.length * (most w - 1) + T.length) := by omega
      rw [e2]
end ML
end
noncomputable section
namespace MS
open Mu41
def soldWax (fs : List Frame) : Nat := (fs.map fun (f : Frame) => if f.there = true then 0 else wax f.layers).sum
structure Nice (s : State) : Prop where
  cools : s.cooling ≤ 5
  want : ∀ f ∈ s.frames, f.wants ≤ 6
  gone : ∀ f ∈ s.frames, f.there = false → f.wants ≤ f.layers
  sold : s.sold = soldWax s.frames
theorem sold_set : ∀ {fs : List Frame} {j : Nat} {f g : Frame}, fs[j]? = some f → f.there = true → soldWax (fs.set j g) = soldWax fs + (if g.there = true then 0 else wax g.layers)
  | [], j, f, g, h, _ => by simp at h
  | x :: fs, 0, f, g, h, ht => by
    have e : x = f := Option.some.inj h
    subst e
    unfold soldWax
    rw [List.set_cons_zero, List.map_cons, List.map_cons, List.sum_cons, List.sum_cons, if_pos ht]
    omega
  | x :: fs, j + 1, f, g, h, ht => by
    have ih := sold_set (fs := fs) (j := j) (g := g) h ht
    unfold soldWax at ih ⊢
    rw [List.set_cons_succ, List.map_cons, List.map_cons, List.sum_cons, List.sum_cons, ih]
    omega
theorem frame_some {s : State} {i : Nat} {f : Frame} (h : frame s i = some f) : s.frames[i]? = some f ∧ f.there = true := by
  unfold frame at h
  cases e : s.frames[i]? with
  | none => rw [e] at h; cases h
  | some g =>
    rw [e] at h
    by_cases ht : g.there = true
    · simp only [ht, if_true] at h
      have := Option.some.inj h
      subst this
      exact ⟨rfl, ht⟩
    · simp only [ht] at h
      cases h
theorem Nice.set {s : State} (N : Nice s) {j : Nat} {f g : Frame} (hf : s.frames[j]? = some f) (ht : f.there = true) (hg : g.there = true) (hw : g.wants = f.wants) (a b c : Nat) : Nice { s with frames := s.frames.set j g, time := a, vat := b, bought := c } := by
  refine ⟨N.cools, fun x hx => ?_, fun x hx => ?_, ?_⟩
  · rcases List.mem_or_eq_of_mem_set hx with q | q
    · exact N.want x q
    · rw [q, hw]
      exact N.want f (List.mem_of_getElem? hf)
  · rcases List.mem_or_eq_of_mem_set hx with q | q
    · exact N.gone x q
    · rw [q, hg]
      intro z
      cases z
  · show s.sold = soldWax (s.frames.set j g)
    rw [sold_set hf ht, if_pos hg]
    exact N.sold
theorem nice_dip {s : State} (N : Nice s) (i : Nat) : Nice (doDip s i).1 := by
  unfold doDip
  cases e : frame s i with
  | none => exact N
  | some f =>
    obtain ⟨h1, h2⟩ := frame_some e
    simp only
    split
    · exact N
    · split
      · exact N
      · split
        · exact N
        · show Nice (dipped s i f)
          unfold dipped put
          split
          · exact N.set (g := { f with layers := f.layers + 1, cool := s.time + s.cooling + 1 }) h1 h2 h2 rfl (s.time + 1) (s.vat - (f.layers + 1)) s.bought
          · exact N.set (g := { f with layers := f.layers - 1, cool := s.time + s.cooling + 1 }) h1 h2 h2 rfl (s.time + 1) (s.vat + f.layers) s.bought
theorem dip_ans (s : State) (i : Nat) : (∃ z : Int, z < 0 ∧ doDip s i = (s, [z])) ∨ ∃ z : Int, ¬ z < 0 ∧ (doDip s i).2 = [z] := by
  unfold doDip
  cases e : frame s i with
  | none => exact .inl ⟨-2, by decide, rfl⟩
  | some f =>
    simp only
    split
    · exact .inl ⟨-8, by decide, rfl⟩
    · split
      · exact .inl ⟨-7, by decide, rfl⟩
      · split
        · exact .inl ⟨-6, by decide, rfl⟩
        · exact .inr ⟨_, by omega, rfl⟩
theorem nice_time {s : State} (N : Nice s) (a : Nat) : Nice { s with time := a } := ⟨N.cools, N.want, N.gone, N.sold⟩
theorem nice_follow (p : List Nat) : ∀ {s : State}, Nice s → Nice (followed s p).1 := by
  induction p with
  | nil => intro s N; exact N
  | cons x p ih =>
    intro s N
    unfold followed
    split
    · split
      · exact N
      · exact ih (nice_time N _)
    · rcases dip_ans s (x - 1) with ⟨z, h1, h2⟩ | ⟨z, h1, h2⟩
      · rw [h2]
        simp only [if_pos h1]
        exact N
      · rw [h2]
        simp only [if_neg h1]
        exact ih (nice_dip N _)
theorem nice_step {s s' : State} {c : Call} (N : Nice s) (h : (step (some s) c).1 = some s') : Nice s' := by
  cases c with
  | begin_ c w =>
    simp only [step] at h
    split at h
    · have := Option.some.inj h
      subst this
      exact N
    · have := Option.some.inj h
      subst this
      rename_i hc
      refine ⟨?_, fun f hf => absurd hf (by simp), fun f hf => absurd hf (by simp), rfl⟩
      show c ≤ 5
      have : COOL = 5 := rfl
      omega
  | frame d =>
    simp only [step] at h
    split at h
    · have := Option.some.inj h
      subst this
      exact N
    · split at h
      · have := Option.some.inj h
        subst this
        exact N
      · have := Option.some.inj h
        subst this
        rename_i hd _
        have hD : DIPS = 6 := rfl
        refine ⟨N.cools, fun f hf => ?_, fun f hf => ?_, ?_⟩
        · rcases List.mem_append.mp hf with q | q
          · exact N.want f q
          · rw [List.mem_singleton.mp q]
            show d ≤ 6
            omega
        · rcases List.mem_append.mp hf with q | q
          · exact N.gone f q
          · rw [List.mem_singleton.mp q]
            intro z
            cases z
        · show s.sold = soldWax (s.frames ++ [⟨d, 0, 0, true⟩])
          rw [N.sold]
          unfold soldWax
          rw [List.map_append, List.sum_append]
          rfl
  | wax n =>
    simp only [step] at h
    split at h
    · have := Option.some.inj h
      subst this
      exact N
    · have := Option.some.inj h
      subst this
      exact ⟨N.cools, N.want, N.gone, N.sold⟩
  | dip i =>
    have := Option.some.inj (show some (doDip s i).1 = some s' from h)
    subst this
    exact nice_dip N i
  | wait n =>
    simp only [step] at h
    split at h
    · have := Option.some.inj h
      subst this
      exact N
    · split at h
      · have := Option.some.inj h
        subst this
        exact N
      · have := Option.some.inj h
        subst this
        exact nice_time N _
  | sell i =>
    simp only [step] at h
    cases e : frame s i with
    | none =>
      rw [e] at h
      have := Option.some.inj h
      subst this
      exact N
    | some f =>
      rw [e] at h
      simp only at h
      split at h
      · have := Option.some.inj h
        subst this
        exact N
      · split at h
        · have := Option.some.inj h
          subst this
          exact N
        · have := Option.some.inj h
          subst this
          rename_i hl _
          obtain ⟨h1, h2⟩ := frame_some e
          refine ⟨N.cools, fun x hx => ?_, fun x hx => ?_, ?_⟩
          · rcases List.mem_or_eq_of_mem_set hx with q | q
            · exact N.want x q
            · rw [q]
              exact N.want f (List.mem_of_getElem? h1)
          · rcases List.mem_or_eq_of_mem_set hx with q | q
            · exact N.gone x q
            · rw [q]
              intro _
              show f.wants ≤ f.layers
              omega
          · show s.sold + wax f.layers = soldWax (s.frames.set i { f with there := false })
            rw [sold_set h1 h2, N.sold]
            rfl
  | look i =>
    have := Option.some.inj (show some s = some s' from h)
    subst this
    exact N
  | least w =>
    have := Option.some.inj (show some s = some s' from h)
    subst this
    exact N
  | plan w =>
    have := Option.some.inj (show some s = some s' from h)
    subst this
    exact N
  | judge w p =>
    have := Option.some.inj (show some s = some s' from h)
    subst this
    exact N
  | cooling t w =>
    have := Option.some.inj (show some s = some s' from h)
    subst this
    exact N
  | rest =>
    have := Option.some.inj (show some s = some s' from h)
    subst this
    exact N
  | follow p =>
    have := Option.some.inj (show some (followed s p).1 = some s' from h)
    subst this
    exact nice_follow p N
  | book =>
    have := Option.some.inj (show some s = some s' from h)
    subst this
    exact N
theorem wanted_is {s : State} (N : Nice s) : wanted s = s.frames.map fun (f : Frame) => f.wants - f.layers := by
  unfold wanted
  apply List.map_congr_left
  intro f hf
  cases e : f.there with
  | true => simp
  | false =>
    have := N.gone f hf e
    simp
    omega
theorem standing_is (s : State) : standing s = ((s.frames.filter fun (f : Frame) => f.there).map fun (f : Frame) => wax f.layers).sum := by
  unfold standing
  rw [MJ.total_sum]
  induction s.frames with
  | nil => rfl
  | cons f fs ih =>
    rw [List.map_cons, List.sum_cons, ih]
    cases e : f.there with
    | true => simp [e]
    | false => simp [e]
theorem sold_is {s : State} (N : Nice s) : s.sold = ((s.frames.filter fun (f : Frame) => !f.there).map fun (f : Frame) => wax f.layers).sum := by
  rw [N.sold]
  unfold soldWax
  induction s.frames with
  | nil => rfl
  | cons f fs ih =>
    rw [List.map_cons, List.sum_cons, ih]
    cases e : f.there with
    | true => simp [e]
    | false => simp [e]
end MS
end
noncomputable section
set_option Elab.async false
set_option linter.all false
set_option maxRecDepth 100000
set_option maxHeartbeats 4000000
namespace DV
open PySem PySem.Spec PyProof.Rows L2
section
variable {prog : Program} {w : World} {A : Around} {E : Value → Shared → Prop} {s : Shared}
theorem collect_rng {Q : List Value → Shared → Prop} {r : Addr} {b : Int} {t u v : Tok} {n : Nat} (hh : A.handled = none) (hr : IsRange s.heap r 0 b 1 t u v) (hsmall : Builtin.Range.small 0 b 1 = true) (hn : Builtin.Range.rangeSize 0 b 1 = n) (hlen : n ≤ 2 ^ 24)
    (hQ : ∀ (h' : Heap) (tk : Nat) (acc : Array Value), (∀ b o, s.heap.get? b = some o → h'.get? b = some o) → ItemsOf (fun i v => ∃ t, v = .int (0 + i * 1) t) acc n → Q acc.toList { s with heap := h', toks := tk }) :
    wpAny (model prog w) A (collect (.ref r)) Q E s := by
  have key : ∀ (R : Result → Shared → Prop), (∀ (h' : Heap) (tk : Nat) (acc : Array Value) (c' : Nat), (∀ b o, s.heap.get? b = some o → h'.get? b = some o) → h'.get? s.heap.objs.size = some { cls := .type "list", dict := none, data := .seq acc c', slots := #[] } →
      ItemsOf (fun i v => ∃ t, v = .int (0 + i * 1) t) acc n → R (.ok (.ret (.ref s.heap.objs.size))) { s with heap := h', toks := tk }) → codeAny (model prog w) A (.builtin "proto.collect" ⟨[.ref r], []⟩) R s := by
    intro R hR
    refine codeAny_builtin F.entry_proto_collect ?_
    rw [Around.under_plainId F.plain_proto_collect _]
    show wpAny _ A.in1 (newList [] >>= fun l => again (.builtin "list.__iadd__" ⟨[l, .ref r], []⟩)) _ _ s
    refine wpAny_bind (wpAny_newObj_type ?_)
    refine wpAny_pure ⟨plainId_quiet F.plain_list_iadd _, codeAny_builtin F.entry_list_iadd ?_⟩
    rw [Around.under_plainId F.plain_list_iadd _]
    show wpAny _ A.in1 (Builtin.List.listExtendWith (.ref s.heap.objs.size) (.ref r) (.ref s.heap.objs.size)) _ _ _
    have hS₁ : (s.heap.push { cls := .type "list", data := .seq ([] : List Value).toArray }).get? s.heap.objs.size = some { cls := .type "list", data := .seq ([] : List Value).toArray } := Heap.get?_push_size _ rfl
    exact wpAny_extend_range (s := { s with heap := s.heap.push { cls := .type "list", data := .seq ([] : List Value).toArray } }) hh (Heap.get?_push_of_some _ hr) hsmall hn hlen s.heap.objs.size _ 0 hS₁ fun h' tk acc c' hk hS hacc =>
      hR h' tk acc c' (fun b o e => hk b o (Nat.ne_of_lt (Heap.lt_size e)) (Heap.get?_push_of_some _ e)) hS hacc
  unfold collect
  refine wpAny_bind (wpAny_runValue (key _ fun h' tk acc c' hk hS hacc => ?_))
  show wpAny _ A (load s.heap.objs.size >>= _) _ _ _
  refine wpAny_bind (wpAny_load hS ?_)
  exact wpAny_pure (hQ h' tk acc hk hacc)
end
section
variable {X : Cx} {pins : List (Addr × Obj)} {σ : L2.St} {H : Hp} {s : Shared}
theorem Inv.adopt {a : Addr} {o : HO} {h' : Heap} {t' : Nat} (I : Inv X pins σ H s) (fo : FpOk X pins H a) (k : ∀ b u, b ≠ a → s.heap.get? b = some u → h'.get? b = some u)
    (new : ObjOk X.prog X.w (upd H a o) h' a o) (ha : ∃ u, s.heap.get? a = some u) : Inv X pins σ (upd H a o) { s with heap := h', toks := t' } := by
  obtain ⟨hn, hL, hfs, h1, h2, h3⟩ := fo
  have na : ∀ b u, H b = some u → b ≠ a := fun b u e z => by rw [z, hn] at e; cases e
  refine I.step (g' := s.gens) (d' := s.drawn) (ch := [a]) (fun b hb => ?_) (fun b u _ _ hc e _ => k b u (fun z => hc (by simp [z])) e) (fun b u _ _ hc e _ => ⟨u.slots, k b u (fun z => hc (by simp [z])) e⟩)
    (fun b u hc _ n => by rw [upd_ne (fun z => hc (by simp [z]))]; exact n) (fun b u hc e => ⟨u, k b u (fun z => hc (by simp [z])) e⟩)
    (fun b xs e => by rw [upd_ne (na b _ e)]; exact e) (fun b u xs e => by rw [upd_ne (na b _ e)]; exact e) (fun b ps e => ⟨#[], by rw [upd_ne (na b _ e), e]; simp⟩) (fun m hm => ?_) (fun b u e => ?_) I.bare
  · have e : b = a := by simpa using hb
    subst e
    exact ⟨h1, hL, h2, h3⟩
  · obtain ⟨o, es, ep, ho, r⟩ := hm
    exact ⟨o, es, ep, k _ o (Ne.symm hL) ho, r⟩
  · by_cases hb : b = a
    · subst hb; rw [upd_same] at e; cases e; exact new
    · rw [upd_ne hb] at e
      refine (I.hok b u e).stay (fun c v hc q => k c v ?_ q) (fun c q => by rw [upd_ne (na c _ q)]; exact q) fun c xs q => by rw [upd_ne (na c _ q)]; exact q
      rcases hc with z | z
      · rw [z]; exact hb
      · exact na c _ z
theorem Inv.pinned {a : Addr} {o : Obj} (I : Inv X pins σ H s) (fo : FpOk X pins H a) (e : s.heap.get? a = some o) (hd : ∀ v, o.data ≠ .cell v) : Inv X ((a, o) :: pins) σ H s :=
  I.pins_of fun p hp => by
    rcases List.mem_cons.mp hp with rfl | hp
    · exact ⟨e, fo.1, fo.2.1, fo.2.2.1, hd⟩
    · exact I.pin p (List.mem_append_right _ hp)
theorem Inv.unpinned {p : Addr × Obj} (I : Inv X (p :: pins) σ H s) : Inv X pins σ H s := I.pins_of fun q hq => I.pin q (List.mem_append_right _ (List.mem_cons_of_mem _ hq))
theorem FpOk.of {a : Addr} {H' : Hp} (fo : FpOk X pins H a) (hn : H' a = none) : FpOk X pins H' a := ⟨hn, fo.2⟩
theorem FpOk.more {a : Addr} {p : Addr × Obj} (fo : FpOk X pins H a) (h : p.1 ≠ a) : FpOk X (p :: pins) H a :=
  ⟨fo.1, fo.2.1, fo.2.2.1, fo.2.2.2.1, fo.2.2.2.2.1, fun q hq => by
    rcases List.mem_append.mp hq with z | z
    · exact fo.2.2.2.2.2 q (List.mem_append_left _ z)
    · rcases List.mem_cons.mp z with rfl | z
      · exact h
      · exact fo.2.2.2.2.2 q (List.mem_append_right _ z)⟩
end
end DV
end
noncomputable section
set_option Elab.async false
set_option linter.all false
set_option maxRecDepth 100000
set_option maxHeartbeats 4000000
namespace DV
open PySem PySem.Spec PyProof.Rows L2
section
variable {X : Cx} {pins : List (Addr × Obj)} {σ : L2.St} {H : Hp} {s : Shared}
def nv (l : List Nat) : List V := l.map fun (i : Nat) => V.int (i : Int)
def noTxt : Nat → Bool := fun _ => false
def KeysAt (H : Hp) (g : Nat → Int) (ks : List Value) : Prop := ∀ (j : Nat) (v : Value), ks[j]? = some v → ∃ p, v = .ref p ∧ H p = some (.tup [.int (g j), .int (j : Int)])
theorem tup_at {p : Addr} {a b : Int} (I : Inv X pins σ H s) (h : H p = some (.tup [.int a, .int b])) : ∃ o n t u, s.heap.get? p = some o ∧ o.cls = .type "tuple" ∧ o.data = .seq #[.int a t, .int b u] n := by
  obtain ⟨_, its, hv, o, e, hc, n, hd⟩ := I.hok p _ h
  obtain ⟨t, u, rfl⟩ := hv.int2
  exact ⟨o, n, t, u, e, hc, hd⟩
theorem key_at {p : Addr} {a b : Int} (I : Inv X pins σ H s) (h : H p = some (.tup [.int a, .int b])) : PyProof.Rows.G.tupKeyC s.heap noTxt (.ref p) = some [.inl a, .inl b] := by
  obtain ⟨o, n, t, u, e, hc, hd⟩ := tup_at I h
  unfold PyProof.Rows.G.tupKeyC
  have h1 : PyProof.Rows.G.isTupObj s.heap (.ref p) = true := by
    simp only [PyProof.Rows.G.isTupObj, e, hc]
    rfl
  rw [if_pos h1]
  simp only [PyProof.Rows.tupKey, e, hd]
  rfl
def idx (p : Keyed) : Nat := match p.2 with
  | .int j _ => j.toNat
  | _ => 0
theorem sort_out (I : Inv X pins σ H s) {g : Nat → Int} {keys : Array Value} {vs : List Value} {n : Nat} {xs : Array Keyed} (hk : KeysAt H g keys.toList) (hkn : keys.size = n) (hvn : vs.length = n)
    (hv : ∀ (j : Nat) (v : Value), vs[j]? = some v → ∃ t, v = .int (j : Int) t) (hp : xs.Perm (keys.zip vs.toArray)) (hs : SortedToK (PyProof.Rows.G.tupKindC s.heap noTxt) xs xs.size) :
    ∃ is : List Nat, is.Perm (List.range n) ∧ is.Pairwise (fun i j => g i < g j ∨ (g i = g j ∧ i ≤ j)) ∧ Vals (nv is) (xs.map (·.2)).toList := by
  have hl : xs.toList.Perm (keys.toList.zip vs) := by rw [← ksk_zip]; exact Array.perm_iff_toList_perm.mp hp
  have hz : ∀ (j : Nat) (p : Keyed), (keys.toList.zip vs)[j]? = some p → ∃ q t, p = (.ref q, .int (j : Int) t) ∧ H q = some (.tup [.int (g j), .int (j : Int)]) := by
    intro j p e
    obtain ⟨k, v⟩ := p
    rw [List.getElem?_zip_eq_some] at e
    obtain ⟨q, rfl, hq⟩ := hk j k e.1
    obtain ⟨t, rfl⟩ := hv j v e.2
    exact ⟨q, t, rfl, hq⟩
  have hm : ∀ p ∈ xs.toList, ∃ (j : Nat) (q : Addr) (t : Tok), p = (.ref q, .int (j : Int) t) ∧ H q = some (.tup [.int (g j), .int (j : Int)]) := by
    intro p hp
    obtain ⟨j, e⟩ := List.mem_iff_getElem?.mp (hl.mem_iff.mp hp)
    obtain ⟨q, t, h1, h2⟩ := hz j p e
    exact ⟨j, q, t, h1, h2⟩
  have hr : (keys.toList.zip vs).map idx = List.range n := by
    apply List.ext_getElem?
    intro j
    rw [List.getElem?_map]
    by_cases hj : j < n
    · have hlen : j < (keys.toList.zip vs).length := by
        rw [List.length_zip, Array.length_toList, hkn, hvn]
        omega
      obtain ⟨q, t, h1, _⟩ := hz j _ (List.getElem?_eq_getElem hlen)
      rw [List.getElem?_eq_getElem hlen, h1, List.getElem?_range hj]
      rfl
    · have h1 : (keys.toList.zip vs)[j]? = none := List.getElem?_eq_none_iff.mpr (by rw [List.length_zip, Array.length_toList, hkn, hvn]; omega)
      rw [h1, List.getElem?_eq_none_iff.mpr (by rw [List.length_range]; omega)]
      rfl
  have hKO : KeysOf (PyProof.Rows.G.tupKindC s.heap noTxt) xs := fun p hp => by
    obtain ⟨j, q, t, rfl, hq⟩ := hm p hp
    exact ⟨_, key_at I hq⟩
  refine ⟨xs.toList.map idx, by rw [← hr]; exact hl.map _, ?_, ?_⟩
  · rw [List.pairwise_map]
    refine List.Pairwise.imp_of_mem (fun {p q} h1 h2 h => ?_) (keyLe_of_sorted hKO hs)
    obtain ⟨j, a, t, rfl, ha⟩ := hm p h1
    obtain ⟨k, b, u, rfl, hb⟩ := hm q h2
    obtain ⟨x, y, e1, e2, hle⟩ := h
    have e1' := (key_at I ha).symm.trans e1
    have e2' := (key_at I hb).symm.trans e2
    cases e1'
    cases e2'
    show g (j : Int).toNat < g (k : Int).toNat ∨ (g (j : Int).toNat = g (k : Int).toNat ∧ (j : Int).toNat ≤ (k : Int).toNat)
    rw [Int.toNat_natCast, Int.toNat_natCast]
    have hle' : (decide (g k < g j) || (!decide (g j < g k) && (decide ((k : Int) < (j : Int)) || (!decide ((j : Int) < (k : Int)) && false)))) = false := hle
    rw [Bool.or_eq_false_iff] at hle'
    obtain ⟨h1, h2⟩ := hle'
    have h1' : ¬ g k < g j := of_decide_eq_false h1
    by_cases h3 : g j < g k
    · exact .inl h3
    · refine .inr ⟨by omega, ?_⟩
      rw [decide_eq_false h3] at h2
      simp at h2
      omega
  · rw [Array.toList_map]
    have go : ∀ l : List Keyed, (∀ p ∈ l, ∃ (j : Nat) (q : Addr) (t : Tok), p = (.ref q, .int (j : Int) t) ∧ H q = some (.tup [.int (g j), .int (j : Int)])) → Vals (nv (l.map idx)) (l.map (·.2)) := by
      intro l
      induction l with
      | nil => intro _; exact .nil
      | cons p l ih =>
        intro h
        obtain ⟨j, q, t, rfl, _⟩ := h p (List.mem_cons_self ..)
        exact Paired.cons (show RelV (V.int (j : Int)) (Value.int (j : Int) t) from ⟨t, rfl⟩) (ih fun x hx => h x (List.mem_cons_of_mem _ hx))
    exact go _ hm
end
end DV
end
noncomputable section
set_option Elab.async false
set_option linter.all false
set_option maxRecDepth 100000
set_option maxHeartbeats 4000000
namespace DV
open PySem PySem.Spec PyProof.Rows L2
section
variable {X : Cx} {pins : List (Addr × Obj)} {σ : L2.St} {H : Hp} {s : Shared} {A : Around} {E : Value → Shared → Prop} {P : PySem.Fin → Shared → Prop} {a kS : Addr} {g : Nat → Int} {keys : Array Value} {vs : List Value} {n e e1 : Nat}
def Sorted (g : Nat → Int) (n : Nat) (is : List Nat) : Prop := is.Perm (List.range n) ∧ is.Pairwise (fun i j => g i < g j ∨ (g i = g j ∧ i ≤ j))
theorem sort_tail {st : SortSt} (I : Inv X pins σ H s) (fa : FpOk X pins H a) (fk : FpOk X pins H kS) (hne : kS ≠ a) (ha : s.heap.get? a = some (seqObj "list" #[] e1)) (hkS : s.heap.get? kS = some (seqObj "list" keys e))
    (hk : KeysAt H g keys.toList) (hkn : keys.size = n) (hvn : vs.length = n) (h64 : n < 64) (hv : ∀ (j : Nat) (v : Value), vs[j]? = some v → ∃ t, v = .int (j : Int) t)
    (hp : (arrOf st).Perm (keys.zip vs.toArray)) (hs : SortedToK (PyProof.Rows.G.tupKindC s.heap noTxt) (arrOf st) (arrOf st).size) (hfl : failedOf st = none)
    (h : ∀ (is : List Nat) (s' : Shared), Sorted g n is → Inv X pins σ (upd H a (.lst (nv is))) s' → P (.done (.ret .none)) s') :
    wpAny (model X.prog X.w) A (ksk_tail a false e1 (.ref kS) st) P E s := by
  obtain ⟨is, hi1, hi2, hi3⟩ := sort_out I hk hkn hvn hv hp hs
  have hsz2 : (arrOf st).size = n := by rw [hp.size_eq, Array.size_zip, hkn, List.size_toArray, hvn, Nat.min_self]
  have s1 := Heap.SameBut.update s.heap kS (Obj.mapSeq fun _ => (#[] : Array Value))
  have na1 : (s.heap.update kS (Obj.mapSeq fun _ => (#[] : Array Value))).get? a = some (seqObj "list" #[] e1) := (s1.2 a hne.symm).trans ha
  have s2 := Heap.SameBut.update (s.heap.update kS (Obj.mapSeq fun _ => (#[] : Array Value))) a (Obj.mapSeq fun _ => (arrOf st).map (·.2))
  obtain ⟨c2, hc2⟩ : ∃ c2, ((s.heap.update kS (Obj.mapSeq fun _ => (#[] : Array Value))).update a (Obj.mapSeq fun _ => (arrOf st).map (·.2))).get? a = some (seqObj "list" ((arrOf st).map (·.2)) c2) :=
    ⟨_, get?_update_seq na1 fun _ => (arrOf st).map (·.2)⟩
  unfold ksk_tail
  try dsimp only
  refine wpAny_bind (listUpdate_at hkS rfl ?_ (by rw [hkn, sizeLine_eq]; omega) (Nat.zero_le _))
  refine wpAny_bind (wpAny_letGo ?_)
  refine wpAny_bind (seqEpoch_at na1 rfl ?_)
  refine wpAny_bind (listUpdate_at na1 rfl ?_ (Nat.zero_le _) (by
    simp only [Bool.false_eq_true, if_false, Array.size_map]
    rw [hsz2, sizeLine_eq]
    omega))
  rw [hfl]
  simp only [bne_self_eq_false, Bool.false_eq_true, if_false]
  refine wpAny_pure (h is _ ⟨hi1, hi2⟩ ?_)
  have I1 : Inv X pins σ H { s with heap := s.heap.update kS (Obj.mapSeq fun _ => (#[] : Array Value)), toks := s.toks } :=
    I.turned (fun b o hb q => (s1.2 b hb).trans q) fk.1 fk.2.1 fk.2.2.2.1 fk.2.2.2.2.1 fk.2.2.2.2.2
  exact Inv.adopt (s := { s with heap := s.heap.update kS (Obj.mapSeq fun _ => (#[] : Array Value)), toks := s.toks }) (t' := s.toks) I1 fa (fun b u hb q => (s2.2 b hb).trans q) ⟨by
    unfold nv
    rw [List.length_map, hi1.length_eq, List.length_range, sizeLine_eq]
    omega, ((arrOf st).map (·.2)).toList, c2, hi3, by rw [Array.toArray_toList]; exact hc2⟩ ⟨_, na1⟩
theorem tups_of (I : Inv X pins σ H s) : ∀ (ks : List Value), (∀ v ∈ ks, ∃ (p : Addr) (a b : Int), v = .ref p ∧ H p = some (.tup [.int a, .int b])) → ∃ fs, TupsOf s.heap noTxt ks fs ∧ fs.length = ks.length
  | [], _ => ⟨[], .nil, rfl⟩
  | v :: ks, h => by
    obtain ⟨p, a, b, rfl, hp⟩ := h v (List.mem_cons_self ..)
    obtain ⟨fs, h1, h2⟩ := tups_of I ks fun x hx => h x (List.mem_cons_of_mem _ hx)
    obtain ⟨o, n, t, u, e, hc, hd⟩ := tup_at I hp
    exact ⟨.int a t :: fs, .cons ⟨p, o, _, n, rfl, e, hc, hd, rfl, fun _ => ⟨_, _, rfl⟩, fun z => Bool.noConfusion (show false = true from z)⟩ h1, by rw [List.length_cons, List.length_cons, h2]⟩
theorem sort_end (I : Inv X pins σ H s) (fa : FpOk X pins H a) (fk : FpOk X pins H kS) (hne : kS ≠ a) (ha : s.heap.get? a = some (seqObj "list" #[] e1)) (hkS : s.heap.get? kS = some (seqObj "list" keys e))
    (hk : KeysAt H g keys.toList) (hkn : keys.size = n) (hvn : vs.length = n) (h64 : n < 64) (hv : ∀ (j : Nat) (v : Value), vs[j]? = some v → ∃ t, v = .int (j : Int) t)
    (h : ∀ (is : List Nat) (s' : Shared), Sorted g n is → Inv X pins σ (upd H a (.lst (nv is))) s' → P (.done (.ret .none)) s') :
    wpAny (model X.prog X.w) A (ksk_end a false vs.toArray e1 (.ref kS) keys) P E s := by
  have hzs : (keys.zip vs.toArray).size = n := by rw [Array.size_zip, hkn, List.size_toArray, hvn, Nat.min_self]
  have hkm : ∀ v ∈ keys.toList, ∃ (p : Addr) (a b : Int), v = .ref p ∧ H p = some (.tup [.int a, .int b]) := fun v hv => by
    obtain ⟨j, q⟩ := List.mem_iff_getElem?.mp hv
    obtain ⟨p, h1, h2⟩ := hk j v q
    exact ⟨p, _, _, h1, h2⟩
  have hKO : KeysOf (PyProof.Rows.G.tupKindC s.heap noTxt) (keys.zip vs.toArray) := fun p hp => by
    obtain ⟨k, v⟩ := p
    rw [ksk_zip] at hp
    obtain ⟨q, x, y, e1, e2⟩ := hkm k (List.of_mem_zip hp).1
    exact ⟨_, by rw [show (k, v).1 = Value.ref q from e1]; exact key_at I e2⟩
  unfold ksk_end
  simp only [Bool.false_eq_true, if_false]
  try dsimp only
  by_cases h2 : vs.toArray.size < 2
  · rw [if_pos h2, if_pos h2]
    refine wpAny_bind (wpAny_pure ?_)
    rw [StateT.run_pure]
    refine wpAny_bind (wpAny_pure ?_)
    try dsimp only
    refine sort_tail (st := SortSt.mk' general' (keys.zip vs.toArray) #[] 7 none) I fa fk hne ha hkS hk hkn hvn h64 hv (Array.Perm.refl _) ?_ rfl h
    intro i j hij hj
    have hj2 : j < (keys.zip vs.toArray).size := hj
    rw [hzs] at hj2
    rw [List.size_toArray] at h2
    have : i = j := by omega
    subst this
    exact KeyOrd.kle_refl _
  · rw [if_neg h2, if_neg h2]
    rw [List.size_toArray] at h2
    obtain ⟨fs, ht, hfl⟩ := tups_of I keys.toList hkm
    have ek : keys = keys.toList.toArray := by rw [Array.toArray_toList]
    refine wpAny_bind ?_
    have hkk : ∀ {Q : SortKind → Shared → Prop}, Q (tuples' true) s → wpAny (model X.prog X.w) A (keyKind' keys) Q E s := fun {Q} q => by
      rw [ek]
      exact tup_kind (s := s) (by rw [hfl, Array.length_toList]; omega) ht q
    refine hkk ?_
    refine wpAny_bind (wpAny_mono (PyProof.Rows.G.wpS_sortRunsSt (κ := PyProof.Rows.G.tupKindC s.heap noTxt) (kd := tuples' true) (a₀ := keys.zip vs.toArray) (st := SortSt.mk' (tuples' true) (keys.zip vs.toArray) #[] 7 none)
      (Q := fun _ st' => (arrOf st').Perm (keys.zip vs.toArray) ∧ failedOf st' = none ∧ SortedToK (PyProof.Rows.G.tupKindC s.heap noTxt) (arrOf st') (keys.zip vs.toArray).size)
      (PyProof.Rows.G.tupC_ltAt true (PyProof.Rows.G.KeepsTups.refl _)) hKO ⟨Array.Perm.refl _, rfl, rfl⟩ rfl (Stable.refl _) (by rw [hzs]; omega) fun st' a1 a2 a3 _ => ⟨a1, a2, a3⟩) ?_ fun _ _ e => e)
    rintro ⟨⟨⟩, st'⟩ s' ⟨rfl, hp, hf, hs⟩
    try dsimp only
    exact sort_tail I fa fk hne ha hkS hk hkn hvn h64 hv hp (by rw [hp.size_eq]; exact hs) hf h
end
end DV
end
noncomputable section
set_option Elab.async false
set_option linter.all false
set_option maxRecDepth 100000
set_option maxHeartbeats 4000000
namespace DV
open PySem PySem.Spec PyProof.Rows L2
section
variable {X : Cx} {pins : List (Addr × Obj)} {σ : L2.St} {H : Hp} {s : Shared} {A : Around} {E : Value → Shared → Prop} {P : PySem.Fin → Shared → Prop} {a kS f : Addr} {g : Nat → Int} {vs : List Value} {n e1 : Nat}
def KeyTurn (X : Cx) (pins : List (Addr × Obj)) (σ : L2.St) (H : Hp) (f : Addr) (g : Nat → Int) (n : Nat) : Prop :=
  ∀ (i : Nat) (tk : Tok) (pins' : List (Addr × Obj)) (H' : Hp) (s' : Shared), i < n → (∀ p ∈ pins, p ∈ pins') → (∀ b o, H b = some o → H' b = some o) → Inv X pins' σ H' s' →
    wpAny (model X.prog X.w) X.A.in1.in1 (call (.ref f) [.int (i : Int) tk]) (EP X pins' σ fun v H'' => ∃ p, v = .ref p ∧ H' p = none ∧ H'' = upd H' p (.tup [.int (g i), .int (i : Int)])) (fun _ _ => False) s'
theorem FpOk.keep {a : Addr} {H' : Hp} {s' : Shared} (fo : FpOk X pins H a) (hn : H' a = none) : FpOk X pins H' a := ⟨hn, fo.2⟩
theorem sort_rest (I : Inv X pins σ H s) (fa : FpOk X pins H a) (fk : FpOk X pins H kS) (hne : kS ≠ a) (ha : s.heap.get? a = some (seqObj "list" #[] e1)) (hkS : s.heap.get? kS = some (seqObj "list" #[] 0))
    (hvn : vs.length = n) (h64 : n < 64) (hv : ∀ (j : Nat) (v : Value), vs[j]? = some v → ∃ t, v = .int (j : Int) t) (turn : KeyTurn X pins σ H f g n)
    (h : ∀ (is : List Nat) (H' : Hp) (s' : Shared), Sorted g n is → (∀ b o, H b = some o → H' b = some o) → Inv X pins σ (upd H' a (.lst (nv is))) s' → H' a = none → P (.done (.ret .none)) s') :
    wpAny (model X.prog X.w) X.A.in1.in1 (ksk_rest a (.ref f) false vs.toArray e1 (.ref kS)) P E s := by
  unfold ksk_rest
  refine wpAny_bind (wpAny_rule ?_)
  first
    | rw [List.forIn_toArray]
    | (rw [← Array.forIn_toList]; simp only [List.toList_toArray])
    | rw [← Array.forIn_toList]
  refine wpAny_bind (ksk_fold (fun i s' => ∃ (H' : Hp) (kA : Array Value) (e : Nat), Inv X ((kS, seqObj "list" kA e) :: (a, seqObj "list" #[] e1) :: pins) σ H' s' ∧ (∀ b o, H b = some o → H' b = some o) ∧ KeysAt H' g kA.toList ∧ kA.size = i) vs 0 s ?init ?step ?done)
  case init =>
    refine ⟨H, #[], 0, Inv.pinned (Inv.pinned I fa ha (fun v z => by cases z)) (FpOk.more fk (fun z => hne z.symm)) hkS (fun v z => by cases z), fun _ _ e => e, fun j v e => by simp at e, rfl⟩
  case step =>
    rintro j x s' hx ⟨H', kA, e, I', sm, hk, hsz⟩
    simp only [Nat.zero_add] at hsz ⊢
    have hj : j < n := by rw [← hvn]; exact (List.getElem?_eq_some_iff.mp hx).1
    obtain ⟨tk, rfl⟩ := hv j x hx
    refine wpAny_bind (wpAny_attempt (wpAny_mono (turn j tk _ H' s' hj (fun p hp => List.mem_cons_of_mem _ (List.mem_cons_of_mem _ hp)) sm I') (fun v s'' he => ?_) fun _ _ hF => hF.elim))
    obtain ⟨v', H'', I2, rv, p, rfl, hp, rfl⟩ := he
    cases rv
    try dsimp only
    have nk := I2.pin (kS, seqObj "list" kA e) (List.mem_append_right _ (.head _))
    have na := I2.pin (a, seqObj "list" #[] e1) (List.mem_append_right _ (.tail _ (.head _)))
    have s1 := Heap.SameBut.update s''.heap kS (Obj.mapSeq (·.push (.ref p)))
    obtain ⟨c2, hc2⟩ : ∃ c2, (s''.heap.update kS (Obj.mapSeq (·.push (.ref p)))).get? kS = some (seqObj "list" (kA.push (.ref p)) c2) := ⟨_, get?_update_seq nk.1 (·.push (.ref p))⟩
    refine wpAny_bind (listUpdate_at nk.1 rfl ?_ (by rw [hsz, sizeLine_eq]; omega) (Nat.le_trans (Nat.le_of_eq (Array.size_push ..)) (by rw [hsz, sizeLine_eq]; omega)))
    have sm2 : ∀ b o, H' b = some o → upd H' p (.tup [.int (g j), .int (j : Int)]) b = some o := fun b o q => by rw [upd_ne (ne_of_none q hp)]; exact q
    have I3 : Inv X ((a, seqObj "list" #[] e1) :: pins) σ (upd H' p (.tup [.int (g j), .int (j : Int)])) { s'' with heap := s''.heap.update kS (Obj.mapSeq (·.push (.ref p))), toks := s''.toks } :=
      (Inv.unpinned I2).turned (fun b o hb q => (s1.2 b hb).trans q) nk.2.1 fk.2.1 fk.2.2.2.1 fk.2.2.2.2.1 (FpOk.more fk (fun z => hne z.symm)).2.2.2.2.2
    refine wpAny_pure ⟨rfl, _, kA.push (.ref p), c2, Inv.pinned I3 (FpOk.more ⟨nk.2.1, fk.2⟩ (fun z => hne z.symm)) hc2 (fun v z => by cases z), fun b o q => sm2 b o (sm b o q), fun i v q => ?_, by rw [Array.size_push, hsz]⟩
    rw [Array.toList_push] at q
    by_cases hi : i < kA.toList.length
    · rw [List.getElem?_append_left hi] at q
      obtain ⟨r, h1, h2⟩ := hk i v q
      exact ⟨r, h1, sm2 _ _ h2⟩
    · rw [List.getElem?_append_right (by omega)] at q
      rw [Array.length_toList, hsz] at q hi
      have e1 : i - j < 1 := (List.getElem?_eq_some_iff.mp q).1
      have hij : i = j := by omega
      subst hij
      rw [Nat.sub_self] at q
      have e3 : v = .ref p := (Option.some.inj q).symm
      exact ⟨p, e3, upd_same⟩
  case done =>
    rintro s' ⟨H', kA, e, I', sm, hk, hsz⟩
    rw [Nat.zero_add, hvn] at hsz
    have nk := I'.pin (kS, seqObj "list" kA e) (List.mem_append_right _ (.head _))
    have na := I'.pin (a, seqObj "list" #[] e1) (List.mem_append_right _ (.tail _ (.head _)))
    try dsimp only
    refine wpAny_bind (listItems_at nk.1 rfl ?_)
    exact sort_end (Inv.unpinned (Inv.unpinned I')) ⟨na.2.1, fa.2⟩ ⟨nk.2.1, fk.2⟩ hne na.1 nk.1 hk hsz hvn h64 hv fun is s' hs I2 => h is H' s' hs sm I2 na.2.1
theorem key_sorted {r : Addr} {t u v : Tok} {Q : VK} (hc : X.calm = true) (I : Inv X pins σ H s) (hr : IsRange s.heap r 0 (n : Int) 1 t u v) (h64 : n < 64) (turn : KeyTurn X pins σ H f g n)
    (fin : ∀ (is : List Nat) (p : Addr) (H' : Hp), Sorted g n is → H p = none → (∀ b o, H b = some o → H' b = some o) → H' p = some (.lst (nv is)) → Q (.ref p) H') :
    wpAny (model X.prog X.w) X.A (call (.builtin "sorted") [.ref r] [(Str.ofString "key", .ref f)]) (EP X pins σ Q) X.xe s := by
  refine call_function_entry_kw kind_sorted plain_sorted entry_sorted (ksk_s1 _ _) ?_
  unfold Builtin.«sorted»
  refine wpAny_bind (m := checkCount "sorted" 1 1 _) (wpAny_pure ?_)
  have hsm : Builtin.Range.small 0 (n : Int) 1 = true := small_one (by omega) (by omega) (by omega) (by omega)
  have hsz : Builtin.Range.rangeSize 0 (n : Int) 1 = (n : Int) := by
    rw [rangeSize_one]
    split <;> omega
  refine wpAny_bind (collect_rng (A := X.A.in1) (n := n) (I.ok.hd hc) hr hsm hsz (by omega) fun h1 tk acc hk hacc => ?_)
  have I1 : Inv X pins σ H { s with heap := h1, toks := tk } := I.kept hk
  have hal : acc.toList.length = n := by rw [Array.length_toList]; exact hacc.1
  refine wpAny_bind (wpAny_newList ?_ (by rw [hal, sizeLine_eq]; omega))
  have hoL : (h1.push (seqObj "list" acc.toList.toArray 0)).get? h1.objs.size = some (seqObj "list" acc.toList.toArray 0) := Heap.get?_push_size _ rfl
  show wpAny _ _ _ _ _ { s with heap := h1.push (seqObj "list" acc.toList.toArray 0), toks := tk }
  refine wpAny_bind (wpAny_holding (wpAny_call_entry_kw slot_list_sort ⟨_, hoL, rfl⟩ entry_list_sort ?body (ksk_l1 _ _)))
  case body =>
    show wpAny (model X.prog X.w) X.A.in1.in1 (Builtin.«list.sort» ⟨[.ref h1.objs.size], [(Str.ofString "key", .ref f)]⟩) _ _ _
    rw [ksk_t1]
    have s1 := Heap.SameBut.update (h1.push (seqObj "list" acc.toList.toArray 0)) h1.objs.size (Obj.mapSeq fun _ => (#[] : Array Value))
    obtain ⟨e1, ho1⟩ : ∃ e1, ((h1.push (seqObj "list" acc.toList.toArray 0)).update h1.objs.size (Obj.mapSeq fun _ => (#[] : Array Value))).get? h1.objs.size = some (seqObj "list" #[] e1) := ⟨_, get?_update_seq hoL fun _ => #[]⟩
    unfold ksk_tree
    refine wpAny_bind (listItems_at hoL rfl ?_)
    refine wpAny_bind (listUpdate_at hoL rfl ?_ (by rw [List.size_toArray, hal, sizeLine_eq]; omega) (Nat.zero_le _))
    refine wpAny_bind (seqEpoch_at ho1 rfl ?_)
    refine wpAny_bind (wpAny_newTuple ?_ (by show acc.toList.toArray.toList.length ≤ _; simp only [List.toList_toArray]; rw [hal, sizeLine_eq]; omega))
    refine wpAny_bind (wpAny_newList ?_ (Nat.zero_le _))
    refine wpAny_holding ?_
    generalize hh2 : ((h1.push (seqObj "list" acc.toList.toArray 0)).update h1.objs.size (Obj.mapSeq fun _ => (#[] : Array Value))) = h2 at *
    have hz2 : h2.objs.size = h1.objs.size + 1 := by rw [← hh2, Heap.size_update, size_push']
    have k2 : ∀ b o, h1.get? b = some o → h2.get? b = some o := fun b o q => by
      have hlt := Heap.lt_size q
      exact (s1.2 b (Nat.ne_of_lt hlt)).trans (Heap.get?_push_of_some _ q)
    have k3 : ∀ b o, h2.get? b = some o → ((h2.push { cls := .type "tuple", data := .seq acc.toList.toArray.toList.toArray }).push { cls := .type "list", data := .seq ([] : List Value).toArray }).get? b = some o := fun b o q => Heap.get?_push_of_some _ (Heap.get?_push_of_some _ q)
    have I2 : Inv X pins σ H { s with heap := (h2.push { cls := .type "tuple", data := .seq acc.toList.toArray.toList.toArray }).push { cls := .type "list", data := .seq ([] : List Value).toArray }, toks := tk } :=
      I.kept fun b o q => k3 b o (k2 b o (hk b o q))
    have hkz : (h2.push { cls := .type "tuple", data := .seq acc.toList.toArray.toList.toArray }).objs.size = h1.objs.size + 2 := by rw [size_push', hz2]
    have le2 : h1.objs.size ≤ (h2.push { cls := .type "tuple", data := .seq acc.toList.toArray.toList.toArray }).objs.size := by rw [hkz]; exact Nat.le_add_right _ _
    have ne2 : (h2.push { cls := .type "tuple", data := .seq acc.toList.toArray.toList.toArray }).objs.size ≠ h1.objs.size := by rw [hkz]; exact Nat.ne_of_gt (Nat.lt_add_of_pos_right (by decide))
    refine sort_rest (s := { s with heap := (h2.push { cls := .type "tuple", data := .seq acc.toList.toArray.toList.toArray }).push { cls := .type "list", data := .seq ([] : List Value).toArray }, toks := tk })
      (kS := (h2.push { cls := .type "tuple", data := .seq acc.toList.toArray.toList.toArray }).objs.size) (a := h1.objs.size) (g := g) (n := n) I2 (I1.fpOk (Nat.le_refl _) (I1.hok.fresh (Nat.le_refl _))) (I1.fpOk le2 (I1.hok.fresh le2)) ne2
      (k3 _ _ ho1) (Heap.get?_push_size _ rfl) hal h64 (fun j v q => ?_) turn fun is H' s' hs sm I3 hna => ⟨.none, rfl, wpAny_pure ⟨_, rfl, ?_⟩⟩
    · rw [Array.getElem?_toList] at q
      obtain ⟨t, e⟩ := hacc.2 j v q
      have e2 : (0 : Int) + (j : Int) * 1 = (j : Int) := by omega
      exact ⟨t, by rw [e, e2]⟩
    · exact ⟨.ref h1.objs.size, _, I3, rfl, fin is _ _ hs (I1.hok.fresh (Nat.le_refl _)) (fun b o q => by rw [upd_ne (ne_of_none (sm b o q) hna)]; exact sm b o q) upd_same⟩
end
end DV
end
noncomputable section
set_option Elab.async false
set_option linter.all false
set_option maxRecDepth 100000
set_option maxHeartbeats 4000000
namespace DV
open PySem PySem.Spec PyProof.Rows L2
abbrev lamE (qual : Str) (scope : Scope) (f : Addr) (c' : Addr) (y : Str) (c : Addr) (s : Shared) : Env := PySem.W.envX qual scope s.heap.objs.size f (.ref c') [(y, c)]
abbrev lamX (P : Program) (w : World) (K : PySem.W.Frag) (mg : Str → Option Value) (base : Heap) (A : Around) (outer : List Env) (s : Shared) (H : Hp) (x y : Str) (env : Env) : Cx where
  prog := P
  w := w
  K := K
  mg := mg
  base := base
  A := A.deeper env
  N := [x, y]
  s_0 := s
  H_0 := H
  env := env
  outer := outer
  stack := env :: outer
  ex := []
  calm := true
  fn := fun _ => false
  pn := []
  xe := fun _ _ => False
section
variable {P : Program} {w : World} {K : PySem.W.Frag} {mg : Str → Option Value} {base : Heap} {A : Around} {outer : List Env} {s : Shared} {H : Hp}
theorem lam_run {x y : Str} {qual : Str} {params : Arguments} {body : Expr} {scope : Scope} {pm ctv : Value} {f c c' a : Addr} {n : Int} {tk : Tok} {te : TE} {Q : VK} (hxy : x ≠ y) (hn : scope.names = [(x, .local), (y, .free)]) (hk : scope.kind = .function) (hco : scope.isCoroutine = false) (hgen : scope.isGenerator = false)
    (hbind : ∀ v : Value, bindArgs (PySem.W.kla_fn "<lambda>" qual params body scope [(y, c)] pm (.ref c') ctv) ⟨[v], []⟩ = pure [(x, v)])
    (e0 : Env0 P w K mg base A outer s H) (hr : A.depth < recursionLimit) (hh : A.handled = none) (ho : s.heap.get? f = some (PySem.W.kla_obj "<lambda>" qual params body scope [(y, c)] pm c' ctv)) (hcd : s.heap.CodeRec (.ref c') qual)
    (hc : s.heap.IsCell c (some (.ref a))) (hHc : H c = none) (hb : PE (lamX P w K mg base A outer s H x y (lamE qual scope f c' y c s)) body te) (hq : te [some (.int n), some (.ref a)] H Q) :
    codeAny (model P w) A (.call (.ref f) ⟨[.int n tk], []⟩) (fun r s' => match r with | .ok (.ret u) => CE outer P w H s Q u s' | _ => False) s := by
  have lx : scope.names.lookup x = some .local := by rw [hn]; simp [List.lookup]
  have ly : scope.names.lookup y = some .free := by
    rw [hn]
    have : (y == x) = false := beq_eq_false_iff_ne.mpr hxy.symm
    simp [List.lookup, this]
  have lz : ∀ z, (scope.names.lookup z = some .cell ∨ scope.names.lookup z = some .free) → z = y := by
    intro z hz
    rw [hn] at hz
    by_cases h1 : z = x
    · subst h1
      simp [List.lookup] at hz
    · by_cases h2 : z = y
      · exact h2
      · have b1 : (z == x) = false := beq_eq_false_iff_ne.mpr h1
        have b2 : (z == y) = false := beq_eq_false_iff_ne.mpr h2
        simp [List.lookup, b1, b2] at hz
  have cl : ∀ (z : Str) (d : Addr), ([(y, c)] : List (Str × Addr)).lookup z = some d → z = y ∧ d = c := by
    intro z d h
    by_cases h2 : z = y
    · subst h2
      simp [List.lookup] at h
      exact ⟨rfl, h.symm⟩
    · have b2 : (z == y) = false := beq_eq_false_iff_ne.mpr h2
      simp [List.lookup, b2] at h
  refine PySem.W.kla_callFunE hr ho rfl hco hgen rfl hcd ?_
  rw [hbind]
  have lim : s.heap.NoLimit := e0.mod.nolimit.keeps fun b o e => (e0.bs b o e).1
  refine wpAny_pure (wpAny_newFunctionEnv (fun z hz => ?_) (fun z hz => ?_) (fun h₁ hns hsb => ?_) hk)
  · rw [show (PySem.W.kla_fn "<lambda>" qual params body scope [(y, c)] pm (.ref c') ctv).scope = scope from rfl, hn] at hz
    rcases List.mem_cons.mp hz with rfl | hz
    · intro z; cases z
    · rw [List.mem_singleton.mp hz]
      intro z; cases z
  · rw [List.mem_singleton.mp hz]
    exact lx
  · have hk₁ : ∀ b o, s.heap.get? b = some o → h₁.get? b = some o := fun b o e => hsb.extBut b o (Nat.ne_of_lt (Heap.lt_size e)) (Heap.get?_push_of_some _ e)
    refine ⟨lim.keeps hk₁, ?_⟩
    show codeAny _ _ (.expr body (lamE qual scope f c' y c s)) _ _
    have noA : ∀ b : Addr, b ∉ ([] : List Addr) := fun b z => absurd z (by simp)
    have hcl : h₁.IsCell c (some (.ref a)) := let ⟨o, e1, e2⟩ := hc; ⟨o, hk₁ _ _ e1, e2⟩
    have I : Inv (lamX P w K mg base A outer s H x y (lamE qual scope f c' y c s)) [] [some (.int n), some (.ref a)] H { s with heap := h₁, toks := s.toks + 1 } := by
      refine ⟨⟨e0.mod, hk, rfl, rfl, Nat.le_refl _, fun u z d h1 h2 => ?_, fun z hz => ?_, fun z d h1 _ => Bool.noConfusion (show false = true from h1), fun _ => hh, Around.frames_deeper e0.frames, .inr ⟨rfl, rfl⟩, fun b z => absurd z (noA b), e0.bs, e0.bsz, fun b _ _ => noA b, fun b z => absurd z (noA b), e0.funs, e0.frf⟩,
        rfl, e0.bare, Un.kept hk₁, ⟨_, hns, fun i z v h1 h2 h3 => ?_⟩, fun z d h => ?_, e0.hok.fresh (Nat.le_refl _), fun z d h => ?_, fun p hp => absurd (show p ∈ ([] : List (Addr × Obj)) from hp) (by simp), e0.hok.kept hk₁, rfl⟩
      · rw [(cl u d h1).1, (cl z d h2).1]
      · have e := lz z hz
        subst e
        exact ⟨c, by show ([(z, c)] : List (Str × Addr)).lookup z = some c; simp [List.lookup]⟩
      · rcases i with _ | _ | i
        · have e1 : x = z := Option.some.inj h1
          have e2 : V.int n = v := Option.some.inj (Option.some.inj h2)
          subst e1 e2
          exact ⟨.int n tk, ⟨tk, rfl⟩, .inl ⟨lx, by simp [List.lookup]⟩⟩
        · have e1 : y = z := Option.some.inj h1
          have e2 : V.ref a = v := Option.some.inj (Option.some.inj h2)
          subst e1 e2
          exact ⟨.ref a, rfl, .inr ⟨.inr ly, c, by show ([(y, c)] : List (Str × Addr)).lookup y = some c; simp [List.lookup], hcl⟩⟩
        · have h1' : ([x, y] : List Str)[i + 1 + 1]? = some z := h1
          simp at h1'
      · rw [(cl z d h).2]
        exact ⟨_, hcl⟩
      · rw [(cl z d h).2]
        exact hHc
    refine PySem.W.kla_codeExpr (wpAny_mono (hb [] _ _ H Q I hq) (fun u s' hs => ?_) fun _ _ hF => hF.elim)
    obtain ⟨v, H', J, rv, q⟩ := hs
    exact ⟨v, H', J.os, J.bare, J.base, J.hok, rv, q⟩
end
end DV
end
noncomputable section
set_option Elab.async false
set_option linter.all false
set_option maxRecDepth 100000
set_option maxHeartbeats 4000000
namespace DV
open PySem PySem.Spec PyProof.Rows L2
def codeX (c' : Addr) (qual : Str) : HO := .ext fun h => h.CodeRec (.ref c') qual
def TabOn (P : Addr) (pos : Pos) (qual : Str) (c' : Addr) (H : Hp) : Prop := H P = some (.tbl #[rawInt pos.line, rawInt pos.col, .ref c']) ∧ H c' = some (codeX c' qual)
def TabAt (P : Addr) (pos : Pos) (qual : Str) (H : Hp) : Prop := H P = some (.tbl #[]) ∨ ∃ c', TabOn P pos qual c' H
structure Kp (P : Addr) (pos : Pos) (qual : Str) (H H' : Hp) : Prop where
  same : ∀ b o, H b = some o → b ≠ P → H' b = some o
  tab : TabAt P pos qual H'
theorem codeX_ok {P : Program} {w : World} {H : Hp} {h : Heap} {c' : Addr} {qual : Str} (x : h.CodeRec (.ref c') qual) : ObjOk P w H h c' (codeX c' qual) := by
  obtain ⟨c, o, vs, t, e, g, r⟩ := id x
  cases e
  refine ⟨x, ⟨o, g⟩, fun h1 h2 x1 k => ?_⟩
  obtain ⟨c, o, vs, t, e, g, r⟩ := x1
  cases e
  exact ⟨c', o, vs, t, rfl, k o g, r⟩
section
variable {X : Cx} {pins : List (Addr × Obj)} {σ : L2.St} {H : Hp} {s : Shared}
theorem lam_make {params : Arguments} {body : Expr} {scope : Scope} {pos : Pos} {c P : Addr} {clos : List (Str × Addr)} {E : Value → Shared → Prop} {R : Value → Shared → Prop} (I : Inv X pins σ H s) (hcode : X.env.code = .ref c) (C : PySem.W.CodeHd X.base c P) (hb : X.base.BuiltinsAt X.mg P)
    (hcl : closureFor scope X.env = pure clos) (hdef : defaultsOf params X.env = ([], [])) (hT : TabAt P pos (X.env.qual ++ "<lambda>") H)
    (h : ∀ (f c' : Addr) (ctv : Value) (H' : Hp) (s' : Shared), Inv X ((f, PySem.W.kla_obj "<lambda>" (X.env.qual ++ "<lambda>") params body scope clos ((X.mg "__name__").getD .none) c' ctv) :: pins) σ H' s' → (∀ b o, H b = some o → b ≠ P → H' b = some o) → TabOn P pos (X.env.qual ++ "<lambda>") c' H' → (∀ b, H' b = none → H b = none) → R (.ref f) s') :
    wpAny (model X.prog X.w) X.A (eval (.Lambda params body scope pos) X.env) R E s := by
  refine PySem.W.kla_eval hdef ?_
  have hg : s.heap.Ns mainGlobals X.mg := I.mod.glob.keeps I.bk
  have hbb : s.heap.BuiltinsAt X.mg P := by
    obtain ⟨bm, o, h1, h2, h3, h4, h5, r⟩ := hb
    exact ⟨bm, o, h1, h2, h3, h4, I.bk _ _ h5, r⟩
  have C' := C.keeps I.bk
  rcases hT with hT | ⟨c', hT, hc⟩
  · have hP : s.heap.get? P = some (PySem.W.tabObj #[]) := I.hok P _ hT
    have hgP : mainGlobals ≠ P := fun z => by
      obtain ⟨o, es, ep, e, hd, _⟩ := hg
      rw [z, hP] at e; cases e; cases hd
    refine PySem.W.kla_makeFunction (mg := X.mg) hcl I.ok.glob hg hcode C' hP trivial rfl hgP hbb fun c' ctv h' tk hx hge hlt hrec htb => ?_
    have hc0 : H c' = none := I.hok.fresh hge
    have neP : ∀ b, H b = none → b ≠ P := fun b n z => by rw [z, hT] at n; cases n
    have cP : c' ≠ P := fun z => by rw [z, hT] at hc0; cases hc0
    have up : ∀ b o, h'.get? b = some o → (h'.push (PySem.W.kla_obj "<lambda>" (X.env.qual ++ "<lambda>") params body scope clos ((X.mg "__name__").getD .none) c' ctv)).get? b = some o := fun b o e => Heap.get?_push_of_some _ e
    have kk : ∀ b o, b ≠ P → s.heap.get? b = some o → (h'.push (PySem.W.kla_obj "<lambda>" (X.env.qual ++ "<lambda>") params body scope clos ((X.mg "__name__").getD .none) c' ctv)).get? b = some o := fun b o hbP e => up b o (hx b o hbP e)
    have nc : ∀ b o, s.heap.get? b = some o → b ≠ c' := fun b o e => Nat.ne_of_lt (Nat.lt_of_lt_of_le (Heap.lt_size e) hge)
    have nT : ∀ b u, H b = some u → u ≠ .tbl #[] → b ≠ P := fun b u e n z => by rw [z, hT] at e; exact n (Option.some.inj e).symm
    have nC : ∀ b u, H b = some u → b ≠ c' := fun b u e z => by rw [z, hc0] at e; cases e
    have hP' : (h'.push (PySem.W.kla_obj "<lambda>" (X.env.qual ++ "<lambda>") params body scope clos ((X.mg "__name__").getD .none) c' ctv)).get? P = some (PySem.W.tabObj #[rawInt pos.line, rawInt pos.col, .ref c']) := up _ _ (by rw [htb]; simp)
    have hH' : ∀ b, b ≠ P → b ≠ c' → upd (upd H P (.tbl #[rawInt pos.line, rawInt pos.col, .ref c'])) c' (codeX c' (X.env.qual ++ "<lambda>")) b = H b := fun b h1 h2 => by rw [upd_ne h2, upd_ne h1]
    have hHP : upd (upd H P (.tbl #[rawInt pos.line, rawInt pos.col, .ref c'])) c' (codeX c' (X.env.qual ++ "<lambda>")) P = some (.tbl #[rawInt pos.line, rawInt pos.col, .ref c']) := by rw [upd_ne cP.symm, upd_same]
    have I2 : Inv X pins σ (upd (upd H P (.tbl #[rawInt pos.line, rawInt pos.col, .ref c'])) c' (codeX c' (X.env.qual ++ "<lambda>"))) { s with heap := h'.push (PySem.W.kla_obj "<lambda>" (X.env.qual ++ "<lambda>") params body scope clos ((X.mg "__name__").getD .none) c' ctv), gens := s.gens, drawn := s.drawn, toks := tk } := by
      refine I.step (ch := []) (fun _ z => nomatch z) (fun b o _ _ _ e n => kk b o (neP b n) e) (fun b o _ _ _ e n => ⟨o.slots, kk b o (neP b n) e⟩) (fun b o _ e n => by rw [hH' b (neP b n) (nc b o e)]; exact n)
        (fun b o _ e => ?_) (fun b xs e => by rw [hH' b (nT b _ e (fun z => nomatch z)) (nC b _ e)]; exact e) (fun b o xs e => by rw [hH' b (nT b _ e (fun z => nomatch z)) (nC b _ e)]; exact e) (fun b ps e => ?_) (fun m hm => ?_) (fun b u e => ?_) I.bare
      · by_cases hbP : b = P
        · exact ⟨_, by rw [hbP]; exact hP'⟩
        · exact ⟨o, kk b o hbP e⟩
      · by_cases hbP : b = P
        · subst hbP
          rw [hT] at e
          cases e
          exact ⟨#[rawInt pos.line, rawInt pos.col, .ref c'], by rw [hHP]; simp⟩
        · exact ⟨#[], by rw [hH' b hbP (nC b _ e), e]; simp⟩
      · obtain ⟨o, es, ep, ho, r⟩ := hm
        exact ⟨o, es, ep, kk _ o (neP _ I.free) ho, r⟩
      · by_cases hbc : b = c'
        · subst hbc
          rw [upd_same] at e
          cases e
          exact codeX_ok (hrec.push _)
        · by_cases hbP : b = P
          · subst hbP
            rw [hHP] at e
            cases e
            exact hP'
          · rw [hH' b hbP hbc] at e
            refine (I.hok b u e).stay (fun d v hd q => kk d v ?_ q) (fun d q => by rw [hH' d (nT d _ q (fun z => nomatch z)) (nC d _ q)]; exact q) fun d xs q => by rw [hH' d (nT d _ q (fun z => nomatch z)) (nC d _ q)]; exact q
            rcases hd with z | z
            · rw [z]; exact hbP
            · exact nT d _ z (fun z => nomatch z)
    have hsz : s.heap.objs.size ≤ h'.objs.size := Nat.le_trans hge (Nat.le_of_lt hlt)
    refine h _ c' ctv _ _ (Inv.pinned I2 (I.fpOk hsz ?_) (Heap.get?_push_size _ rfl) (fun v z => by cases z)) (fun b o e n => by rw [hH' b n (nC b _ e)]; exact e) ⟨hHP, upd_same⟩ (fun b n => ?_)
    · rw [hH' _ (fun z => ?_) (Nat.ne_of_gt hlt)]
      · exact I.hok.fresh hsz
      · have := Heap.lt_size hP
        rw [← z] at this
        exact absurd (Nat.lt_of_lt_of_le this hsz) (Nat.lt_irrefl _)
    · by_cases hbc : b = c'
      · rw [hbc]; exact hc0
      · by_cases hbP : b = P
        · rw [hbP, hHP] at n; cases n
        · rw [hH' b hbP hbc] at n; exact n
  · have hP : s.heap.get? P = some (PySem.W.tabObj #[rawInt pos.line, rawInt pos.col, .ref c']) := I.hok P _ hT
    refine PySem.W.kla_makeFunctionHit (mg := X.mg) (cv := .ref c') hcl I.ok.glob hg hcode C' hP trivial ?_ hbb fun ctv h' tk hk hsz => ?_
    · show codeAmong pos [rawInt pos.line, rawInt pos.col, .ref c'] = some (.ref c')
      have := codeAmong_snoc (pos := pos) (c := .ref c') [] trivial rfl
      exact this
    · have I2 : Inv X pins σ H { s with heap := h'.push (PySem.W.kla_obj "<lambda>" (X.env.qual ++ "<lambda>") params body scope clos ((X.mg "__name__").getD .none) c' ctv), toks := tk } := I.kept fun b o e => Heap.get?_push_of_some _ (hk b o e)
      exact h _ c' ctv H _ (Inv.pinned I2 (I.fpOk hsz (I.hok.fresh hsz)) (Heap.get?_push_size _ rfl) (fun v z => by cases z)) (fun b o e _ => e) ⟨hT, hc⟩ fun b n => n
end
end DV
end
noncomputable section
set_option Elab.async false
set_option linter.all false
set_option maxRecDepth 100000
set_option maxHeartbeats 4000000
namespace DV
open PySem PySem.Spec PyProof.Rows L2
section
variable {prog : Program} {w : World} {A : Around} {R : Result → Shared → Prop} {I : Addr} {fp wr : List Addr} {n : Nat} {P : Nat → Value → Prop} {St : Nat → Heap → Prop}
def BestOf (a : Nat → Int) (j : Nat) (m : Int) : Prop := (∃ i, i < j ∧ m = a i) ∧ ∀ i, i < j → a i ≤ m
def MaxOut (a : Nat → Int) (n : Nat) (d v : Value) : Prop := (n = 0 ∧ v = d) ∨ ∃ m t, v = .int m t ∧ BestOf a n m
theorem maxD_loop (W : Walks prog w A.in1 I fp wr n P St) (a : Nat → Int) (hP : ∀ i v, P i v → ∃ t, v = .int (a i) t) (S : Addr) (hSf : S ∉ fp) (d : Value) :
    ∀ (k j : Nat) (s : Shared) (old : List Value) (c : Nat), n - j = k → j ≤ n → St j s.heap → ((j = 0 ∧ old = []) ∨ ∃ m t, old = [.int m t, .int m t] ∧ BestOf a j m) →
      s.heap.get? S = some { cls := .type "list", dict := none, data := .seq old.toArray c, slots := #[] } →
      (∀ v h' tk, MaxOut a n d v → (∀ b o, b ∉ wr → b ≠ S → s.heap.get? b = some o → h'.get? b = some o) → R (.ok (.ret v)) { s with heap := h', toks := tk }) →
      codeAny (model prog w) A (.builtin "max.loop" ⟨[.ref I, .none, .ref S], [(Str.ofString "default", d)]⟩) R s := by
  have hSw : S ∉ wr := fun z => hSf (W.sub _ z)
  have nm : (toString "max" ++ toString ".loop" : String) = "max.loop" := by decide
  intro k
  induction k with
  | zero =>
    intro j s old c hk hj st ho hS hR
    obtain rfl : j = n := by omega
    refine codeAny_builtin F.entry_max_loop ?_; rw [Around.under_plainId F.plain_max_loop _]
    show wpAny _ A.in1 (seqItems? (.ref S) >>= _) _ _ s; refine wpAny_bind (wpAny_seqItems hS rfl ?_)
    show wpAny _ A.in1 (tryCatch (pyNext (.ref I)) _ >>= _) _ _ s; refine wpAny_bind (wpAny_tryCatch (W.done s _ _ st fun h' tk kk => ?_))
    have hS' := kk S _ hSw hS
    rcases ho with ⟨h0, rfl⟩ | ⟨m, t, rfl, hb⟩
    · exact wpAny_bind (wpAny_rule (wpAny_pure (hR d h' tk (.inl ⟨h0, rfl⟩) fun b o hw _ e => kk b o hw e)))
    · show wpAny _ A.in1 (updateSeq S (fun _ => #[]) >>= _) _ _ _; refine wpAny_bind ?_
      exact wpAny_updateSeq hS' rfl (wpAny_bind (wpAny_letGo (wpAny_pure (hR _ _ tk (.inr ⟨m, t, rfl, hb⟩) fun b o hw hn e => (Heap.get?_update_other _ _ (Ne.symm hn)).trans (kk b o hw e)))))
  | succ k ih =>
    intro j s old c hk hj st ho hS hR
    have hlt : j < n := by omega
    refine codeAny_builtin F.entry_max_loop ?_; rw [Around.under_plainId F.plain_max_loop _]
    show wpAny _ A.in1 (seqItems? (.ref S) >>= _) _ _ s; refine wpAny_bind (wpAny_seqItems hS rfl ?_)
    show wpAny _ A.in1 (tryCatch (pyNext (.ref I)) _ >>= _) _ _ s
    refine wpAny_bind (wpAny_tryCatch (W.item j s _ _ hlt st fun v h' tk hv st' kk => ?_)); have hS' := kk S _ hSw hS
    obtain ⟨t, rfl⟩ := hP j v hv
    have up : ∀ {h1 : Heap} {f : Obj → Obj}, St (j + 1) h1 → St (j + 1) (h1.update S f) := fun {h1 f} q => W.frame _ _ _ q fun b hb o e => (Heap.get?_update_other _ _ (fun z : S = b => hSf (by rw [z]; exact hb))).trans e
    have kp : ∀ {h1 h2 : Heap} {f : Obj → Obj}, (∀ b o, b ∉ wr → s.heap.get? b = some o → h1.get? b = some o) → (∀ b o, b ∉ wr → b ≠ S → (h1.update S f).get? b = some o → h2.get? b = some o) → ∀ b o, b ∉ wr → b ≠ S → s.heap.get? b = some o → h2.get? b = some o :=
      fun k1 k2 b o hw hn e => k2 b o hw hn ((Heap.get?_update_other _ _ (Ne.symm hn)).trans (k1 b o hw e))
    rcases ho with ⟨rfl, rfl⟩ | ⟨m, u, rfl, hb⟩
    · show wpAny _ A.in1 (updateSeq S (fun _ => #[.int (a 0) t, .int (a 0) t]) >>= _) _ _ _; refine wpAny_bind ?_
      refine wpAny_updateSeq hS' rfl ?_; rw [nm]
      refine wpAny_pure ⟨plainId_quiet F.plain_max_loop _, ih 1 _ [.int (a 0) t, .int (a 0) t] _ (by omega) hlt (up st') (.inr ⟨_, t, rfl, ⟨0, by omega, rfl⟩, fun i hi => ?_⟩) (Heap.get?_update_self _ hS' rfl) fun v' h'' tk'' ho' k' => hR v' h'' tk'' ho' (kp kk k')⟩
      obtain rfl : i = 0 := by omega
      exact Int.le_refl _
    · show wpAny _ A.in1 (tryCatch (holding [Value.int (a j) t, Value.int (a j) t] (richCompare .Gt (Value.int (a j) t) (Value.int m u) >>= _)) _ >>= _) _ _ _
      refine wpAny_bind (wpAny_tryCatch (wpAny_holding (wpAny_bind ?_)))
      refine (CmpOf.ints_gt (P := fun i v => ∃ t, v = .int (if i = 0 then a j else m) t) (fun i => if i = 0 then a j else m) (fun i v h => h)) 0 1 _ _ _ _ _ ⟨t, rfl⟩ ⟨u, rfl⟩ ?_
      refine wpAny_bind (wpAny_holding (wpAny_truthy_bool ?_)); refine wpAny_bind (wpAny_letGo (wpAny_pure ?_))
      show wpAny _ A.in1 (if decide (a j > m) = true then _ else _) _ _ _
      by_cases hb2 : a j > m
      · rw [if_pos (decide_eq_true hb2)]
        refine wpAny_bind ?_; refine wpAny_updateSeq hS' rfl (wpAny_bind (wpAny_letGo ?_)); rw [nm]
        refine wpAny_pure ⟨plainId_quiet F.plain_max_loop _, ih (j + 1) _ [.int (a j) t, .int (a j) t] _ (by omega) hlt (up st') (.inr ⟨_, t, rfl, ⟨j, by omega, rfl⟩, fun i hi => ?_⟩) (Heap.get?_update_self _ hS' rfl) fun v' h'' tk'' ho' k' => hR v' h'' tk'' ho' (kp kk k')⟩
        by_cases hij : i = j
        · rw [hij]; exact Int.le_refl _
        · have := hb.2 i (by omega); omega
      · rw [if_neg (by simpa using hb2)]
        refine wpAny_bind (wpAny_letGo ?_); rw [nm]
        refine wpAny_pure ⟨plainId_quiet F.plain_max_loop _, ih (j + 1) _ [.int m u, .int m u] _ (by omega) hlt st' (.inr ⟨_, u, rfl, ?_, fun i hi => ?_⟩) hS' fun v' h'' tk'' ho' k' => hR v' h'' tk'' ho' fun b o hw hn e => k' b o hw hn (kk b o hw e)⟩
        · obtain ⟨i, h1, h2⟩ := hb.1
          exact ⟨i, by omega, h2⟩
        · by_cases hij : i = j
          · rw [hij]; omega
          · exact hb.2 i (by omega)
end
end DV
namespace DV
open PySem PySem.Spec PyProof.Rows L2
section
variable {prog : Program} {w : World} {A : Around} {E : Value → Shared → Prop} {s : Shared}
theorem call_tree_kw {id : String} {b : Builtin} {args : List Value} {kw : List (Str × Value)} {Q : Value → Shared → Prop} (hk : builtinKind id = none) (hp : plainId id = true) (hb : entryFor table id = some b) (ha : argsOk id ⟨args, kw⟩)
    (hc : wpAny (model prog w) A.in1 (b ⟨args, kw⟩) (fun fin s' => match fin with
      | .done f => (match (Except.ok f : Result) with | .ok (.ret v) => Q v s' | .ok _ => False | .error e => E e s')
      | .again c' => c'.quiet = true ∧ codeAny (model prog w) A c' (fun r s' => match r with | .ok (.ret v) => Q v s' | .ok _ => False | .error e => E e s') s') E s) : wpAny (model prog w) A (call (.builtin id) args kw) Q E s := by
  refine wpAny_call (codeAny_call_builtin hp hb ?_)
  simp only [checkBuiltinCall, hk]
  cases hs : Manifest.signature? id with
  | none => exact wpAny_pure hc
  | some sg =>
    have h2 : Bind.checkArgs id sg ⟨args, kw⟩ = pure () := by simpa only [argsOk, hs] using ha
    simp only [h2]
    exact wpAny_pure hc
theorem maxD_raw {l : Addr} {its : List Value} {ns : List Int} {d : Value} {Q : Value → Shared → Prop} (hh : A.handled = none) (hl : s.heap.IsList l its.toArray) (hi : IntsAre its ns)
    (h : ∀ h' tk v, (∀ b o, s.heap.get? b = some o → h'.get? b = some o) → MaxOut (fun i => ns.getD i 0) ns.length d v → Q v { s with heap := h', toks := tk }) :
    wpAny (model prog w) A (call (.builtin "max") [.ref l] [(Str.ofString "default", d)]) Q E s := by
  have nm : (toString "max" ++ toString ".loop" : String) = "max.loop" := by decide
  obtain ⟨xs, e⟩ := hi.allInts.items
  have hn : numsOf (intItems xs).toList = ns := by rw [← e]; exact hi.numsOf
  rw [nums_intItems] at hn
  rw [e] at hl
  have hsz : (intItems xs).size = ns.length := by
    rw [← hn]
    simp [intItems]
  have hva : ∀ i v, (intItems xs)[i]? = some v → ∃ t, v = Value.int (ns.getD i 0) t := fun i v q => by
    obtain ⟨t, rfl⟩ := intItems_at q
    exact ⟨t, by rw [numAt_eq, hn]⟩
  refine call_tree_kw F.kind_max F.plain_max F.entry_max (by unfold argsOk; kernel_rfl) ?_
  show wpAny _ A.in1 (Builtin.Builtins.bindParams "max" ["key", "default"] 0 ⟨[], [(Str.ofString "default", d)]⟩ >>= _) _ _ s
  refine wpAny_bind (wpAny_of_eq (show Builtin.Builtins.bindParams "max" ["key", "default"] 0 ⟨[], [(Str.ofString "default", d)]⟩ = pure [none, some d] from rfl) ?_)
  refine wpAny_bind (wpAny_pure ?_)
  refine wpAny_bind (iter_intList hl fun s₂ e st hfp hlI => ?_)
  subst e
  refine wpAny_bind (wpAny_newObj_type ?_)
  have hSf : (s.heap.push { cls := .type "list_iterator", data := .fields #[.ref l, .int 0 0] }).objs.size ∉ [s.heap.objs.size, l] := fun hm => Nat.lt_irrefl _ (hfp _ hm)
  rw [nm]
  have W := Walks.list (prog := prog) (w := w) (A := A.in1) hh s.heap.objs.size l hlI (intItems xs)
  refine wpAny_pure ⟨plainId_quiet F.plain_max_loop _, maxD_loop W (fun i => ns.getD i 0) (fun i v q => hva i v (by simpa using q)) _ hSf d _ 0 _ [] 0 rfl (Nat.zero_le _) (W.frame _ _ _ st fun b _ o e => Heap.get?_push_of_some _ e) (.inl ⟨rfl, rfl⟩) (Heap.get?_push_size _ rfl) fun v h' tk ho kk => ?_⟩
  rw [hsz] at ho
  refine h h' tk v (fun b o q => kk b o (fun hm => ?_) (fun z => ?_) (Heap.get?_push_of_some _ (Heap.get?_push_of_some _ q))) ho
  · rw [List.mem_singleton.mp hm] at q
    exact absurd (Heap.lt_size q) (Nat.lt_irrefl _)
  · have h1 := Heap.lt_size q
    rw [z, size_push'] at h1
    exact absurd h1 (Nat.not_lt_of_ge (Nat.le_succ _))
end
def rMaxD (K : PySem.W.Frag) (d : Int) (x : V) (H : Hp) (Q : VK) : Prop := ∃ (a : Addr) (ns : List Int), x = .ref a ∧ SqL K H a (ns.map V.int) ∧ ∀ m, ((ns = [] ∧ m = d) ∨ (m ∈ ns ∧ ∀ y ∈ ns, y ≤ m)) → Q (.int m) H
theorem pe_maxD {X : Cx} {e : Expr} {te : TE} {d : Int} {dk : Nat} {dpos p pos kpos : Pos} (hc : X.calm = true) (hg : Gl X "max") (hm : X.mg "max" = none) (he : PE X e te) (hs : starEach [e] X.env = [(false, eval e X.env)] := by rfl) :
    PE X (.Call (.Name "max" p) [e] [⟨some "default", (.Constant (.int d) dk dpos), kpos⟩] pos) (tUn (rMaxD X.K d) te) := by
  intro pins s σ H Q I h
  refine wpAny_Call_Name_kw (ld_blt I hg hm boot_max ?_ (by decide) (by decide))
  refine callWith_kw ?_ (by show backTo pos (starEach [e] X.env) = _; rw [hs]; rfl) (by show (backTo pos (starEach [e] X.env)).any _ = false; rw [hs]; rfl) rfl rfl
  have hpa : PA X [e] (tCons te tNil) := pa_cons he pa_nil (by rw [hs]; rfl)
  refine thn (hpa pos pins s σ H (fun vs H1 => match vs with
    | [x] => rMaxD X.K d x H1 Q
    | _ => False) I h) fun us s1 ⟨vs, H1, I1, r1, q1⟩ => ?_
  match vs, q1, r1 with
  | [x], q1, r1 =>
    obtain ⟨a, ns, rfl, hl, k⟩ := q1
    have r1 := Vals.ref1 r1
    subst r1
    refine kws_cons (thn (pe_int (X := X) pins s1 σ H1 (fun v H2 => v = .int d ∧ H2 = H1) I1 ⟨rfl, rfl⟩) fun u s2 ⟨v, H2, I2, rv, e1, e2⟩ => kws_nil ?_)
    subst e1 e2
    obtain ⟨t, rfl⟩ := rv
    show wpAny _ _ (call (.builtin "max") [.ref a] [(Str.ofString "default", .int d t)]) _ _ _
    obtain ⟨its, rv, hl', _⟩ := I2.list hl
    refine maxD_raw (I2.ok.hd hc) hl'.isList rv.ints fun h' tk v kk ho => ?_
    rcases ho with ⟨h0, rfl⟩ | ⟨m, u, rfl, ⟨i, hi, hm⟩, hb⟩
    · exact ⟨.int d, _, I2.kept kk, ⟨t, rfl⟩, k d (.inl ⟨List.eq_nil_of_length_eq_zero h0, rfl⟩)⟩
    · refine ⟨.int m, _, I2.kept kk, ⟨u, rfl⟩, k m (.inr ⟨?_, fun y hy => ?_⟩)⟩
      · rw [hm]
        show ns.getD i 0 ∈ ns
        rw [List.getD_eq_getElem?_getD, List.getElem?_eq_getElem hi]
        exact List.getElem_mem hi
      · obtain ⟨j, hj, e⟩ := List.mem_iff_getElem.mp hy
        have := hb j hj
        have e2 : ns.getD j 0 = y := by rw [List.getD_eq_getElem?_getD, List.getElem?_eq_getElem hj, e]; rfl
        simp only [e2] at this
        exact this
def rCountL (K : PySem.W.Frag) : V → List V → Hp → VK → Prop := fun x xs H Q => ∃ (a : Addr) (ns : List Int) (n : Int), x = V.ref a ∧ xs = [.int n] ∧ SqL K H a (ns.map V.int) ∧ Q (.int (ns.count n : Nat)) H
theorem mt_countL {X : Cx} : MtR X "list.count" (rCountL X.K) := by
  intro pins s σ H x xs v us Q I rx rxs h
  obtain ⟨a, ns, n, rfl, rfl, hs, q⟩ := h
  cases rx
  cases rxs with
  | cons ry rt =>
    rename_i uy ut
    cases rt
    have fys : (ns.map V.int).all flatV = true := by
      rw [List.all_eq_true]
      intro z hz
      obtain ⟨m, _, rfl⟩ := List.mem_map.mp hz
      rfl
    obtain ⟨its, rv, ⟨⟨cls, dd, data, sl⟩, k, ho, hc, hdn, hd⟩, hlen⟩ := I.list hs
    simp only at hc hd
    subst hc hd
    refine call_meets PySem.F.slot_list_count ⟨_, ho, rfl⟩ PySem.F.entry_list_count (PySem.F.args_list_count_2 _ _) (SeqAt.list_countAt a its.toArray k dd sl uy (eqU (.int n))) ⟨ho, fun u' hu' => mem_eqAt ry rfl rv fys u' (by simpa using hu'), ?_⟩
    have e : its.countP (eqU (.int n)) = ns.count n := by
      clear hlen ho hs q fys
      revert rv
      generalize its = l
      induction ns generalizing l with
      | nil => intro rv; cases rv; rfl
      | cons m ns ih =>
        intro rv
        cases rv with
        | cons r rt =>
          rw [List.countP_cons, List.count_cons, ih _ rt]
          obtain ⟨t, rfl⟩ := r
          rfl
    refine ⟨.int (ns.count n : Nat), H, I.tok _, ⟨s.toks, ?_⟩, q⟩
    simp only [e]
end DV
end
noncomputable section
set_option Elab.async false
set_option linter.all false
set_option maxRecDepth 100000
set_option maxHeartbeats 4000000
namespace DV
open PySem PySem.W PySem.Spec PySem.Calls PyProof.Rows L2
theorem well_ints {P : Params} {h : Heap} : ∀ (ns : List Int) (vs : List Value), WellAll P h vs (ns.map WData.int) → IntsAre vs ns := by
  intro ns
  induction ns with
  | nil => intro vs q; cases q; exact .nil
  | cons n ns ih =>
    intro vs q
    cases q with
    | cons a b => cases a; exact .cons _ _ (ih _ b)
theorem well_arg {P : Params} {h : Heap} {vals : List Value} {ns : List Int} (q : WellAll P h vals [.list (ns.map WData.int)]) : ∃ (a : Addr) (vs : List Value), vals = [.ref a] ∧ h.get? a = some { cls := .type "list", data := .seq vs.toArray } ∧ IntsAre vs ns := by
  cases q with
  | cons q1 q2 =>
    cases q2
    cases q1 with
    | list ho hall => exact ⟨_, _, rfl, ho, well_ints _ _ hall⟩
theorem reads_ints {R : PySem.W.WRecords} {cl : Str → Option Addr} {h : Heap} : ∀ {us : List Value} {ns : List Int}, IntsAre us ns → ∃ as, ReadsAllW R cl h us (ns.map WData.int) as
  | _, _, .nil => ⟨_, ReadsAllW.nil⟩
  | _, _, .cons n t r => let ⟨_, q⟩ := reads_ints r; ⟨_, ReadsAllW.cons (ReadsW.int n t) q⟩
theorem weight_le {ds : List WData} {ns : List Int} (h : WData.layableAll ds = true) (e : ds = [.list (ns.map WData.int)]) : ns.length ≤ sizeLine := by
  subst e
  have z := (PySem.W.layableW_iff.mp (List.all_eq_true.mp h _ (List.mem_singleton.mpr rfl))).2.2
  have z2 : WData.weightAll (ns.map WData.int) ≤ 1048576 := z
  have z3 := Nat.le_trans (PySem.W.length_le_weightAllW _) z2
  rw [List.length_map] at z3
  exact Nat.le_trans z3 (by decide)
theorem spec_callT {P : Program} {w : World} {K : PySem.W.Frag} {mg mb : Str → Option Value} {CX : CXT} {k : Nat} {fa c t : Addr} {fd : FuncData} {x : Str} {sp : Sp} {s₁ : Shared} {vals : List Value} {ns zs : List Int} {R : PySem.W.WRecords} {cl : Str → Option Addr}
    (KX : K.In s₁.heap) (hns : s₁.heap.Ns mainGlobals mg) (hb : s₁.heap.Ns builtinsNs mb) (hbb : ∀ x : Str, x ≠ "__name__" → mb x = bootBuiltins x) (hlim : s₁.heap.NoLimit) (hg : s₁.gens = #[])
    (hwl : WellAll w.params s₁.heap vals [.list (ns.map WData.int)]) (hz : ns.length ≤ sizeLine) (hr : Room k callerA)
    (hcd : CodeHd s₁.heap c t) (ht : s₁.heap.get? t = some (tabObj #[])) (htK : K.lookup t = none) (hbm : s₁.heap.BuiltinsAt mg t)
    (F : ∀ base : Heap, K.In base → base.Ns mainGlobals mg → CodeHd base c t → base.BuiltinsAt mg t → FnOk P w K mg base CX k fa fd [x] sp) (hbind : ∀ (s : Shared) (us : List Value), us.length = ([x] : List Str).length → BindsTo s fd ⟨us, []⟩ (([x] : List Str).zip us))
    (hsp : ∀ (H : Hp) (a : Addr), H t = some (.tbl #[]) → SqL K H a (ns.map V.int) → sp [.ref a] H (fun v H' => ∃ p, v = .ref p ∧ H' p = some (.lst (zs.map V.int))) fun _ _ _ => False)
    (hCX : ∀ H e s', CX [] H s₁ (fun _ _ _ => False) e s' → False) :
    codeAny (model P w) callerA (.call (.ref fa) ⟨vals, []⟩) (fun r s' => ∃ u as, r = .ok (.ret u) ∧ ReadsW R cl s'.heap u (.list (zs.map WData.int)) as ∧ OldK s₁.heap s'.heap ∧ s'.os = s₁.os ∧ AllBare s'.gens) s₁ := by
  obtain ⟨a, vs, rfl, ha, hi⟩ := well_arg hwl
  have hva := vals_of_ints hi
  obtain ⟨H0, h0a, h0n⟩ : ∃ H0 : Hp, (H0 a = if (K.lookup a).isNone = true then some (.frz { cls := .type "list", data := .seq vs.toArray } (.lst (ns.map V.int))) else none) ∧ ∀ b, b ≠ a → H0 b = none := ⟨fun b => if b = a then (if (K.lookup a).isNone = true then some (.frz { cls := .type "list", data := .seq vs.toArray } (.lst (ns.map V.int))) else none) else none, if_pos rfl, fun b n => if_neg n⟩
  have is0 : ∀ b u, H0 b = some u → b = a ∧ K.lookup a = none ∧ u = .frz { cls := .type "list", data := .seq vs.toArray } (.lst (ns.map V.int)) := fun b u e => by
    by_cases hba : b = a
    · subst hba
      rw [h0a] at e
      cases q : K.lookup b with
      | none => rw [q] at e; exact ⟨rfl, rfl, (Option.some.inj e).symm⟩
      | some o => rw [q] at e; cases e
    · rw [h0n b hba] at e
      cases e
  have hO : ∀ b, H0 b = none ∨ ∃ o u, H0 b = some (.frz o u) := fun b => by
    cases q : H0 b with
    | none => exact .inl rfl
    | some u => exact .inr ⟨_, _, by rw [(is0 b u q).2.2]⟩
  have hok : HOk P w H0 s₁.heap := fun b u e => by
    obtain ⟨rfl, _, rfl⟩ := is0 b u e
    exact ⟨ha, by rw [List.length_map]; exact hz, vs, _, hva, ha⟩
  have hS : SqL K H0 a (ns.map V.int) := by
    cases q : K.lookup a with
    | none => exact .inl (.inr ⟨_, by rw [h0a, q]; rfl⟩)
    | some o =>
      have e2 := KX a o q
      rw [ha] at e2
      obtain rfl := Option.some.inj e2
      exact .inr ⟨_, vs.toArray, _, q, rfl, rfl, rfl, by rw [List.size_toArray, ← hva.length, List.length_map]; exact hz, by simpa using hva⟩
  have hK : ∀ b u, H0 b = some u → K.lookup b = none := fun b u q => by
    obtain ⟨rfl, h, _⟩ := is0 b u q
    exact h
  have noS : ∀ {b : Addr} {o : Obj}, s₁.heap.get? b = some o → (∀ vs n, o.data ≠ .seq vs n) → H0 b = none := fun {b o} e d => by
    cases q : H0 b with
    | none => rfl
    | some u =>
      obtain ⟨rfl, _, _⟩ := is0 b u q
      rw [ha] at e
      cases e
      exact absurd rfl (d _ _)
  have h0t : H0 t = none := noS ht fun _ _ z => by cases z
  obtain ⟨H, hH⟩ : ∃ H, H = upd H0 t (.tbl #[]) := ⟨_, rfl⟩
  have hHt : H t = some (.tbl #[]) := by rw [hH, upd_same]
  have hHn : ∀ b, b ≠ t → H b = H0 b := fun b n => by rw [hH, upd_ne n]
  have mono : ∀ b o, H0 b = some o → H b = some o := fun b o e => by rw [hHn b (ne_of_none e h0t)]; exact e
  have hokH : HOk P w H s₁.heap := fun b u e => by
    by_cases hbt : b = t
    · subst hbt
      rw [hHt] at e
      cases e
      exact ht
    · rw [hHn b hbt] at e
      exact (hok b u e).stay (fun _ _ _ q => q) (fun d q => mono _ _ q) fun d xs q => mono _ _ q
  have hSH : SqL K H a (ns.map V.int) := by
    rcases hS with q | q
    · exact .inl (q.imp (fun z => mono _ _ z) fun ⟨o, z⟩ => ⟨o, mono _ _ z⟩)
    · exact .inr q
  have noH : ∀ {b : Addr} {o : Obj}, s₁.heap.get? b = some o → (∀ vs n, o.data ≠ .seq vs n) → b ≠ t → H b = none := fun {b o} e d n => by rw [hHn b n]; exact noS e d
  have base_of : ∀ {b : Addr} {o : Obj}, s₁.heap.get? b = some o → H b = none → (hidT s₁.heap H).get? b = some o := fun e n => hidT_get e n
  have nsK : ∀ {b : Addr} {m : Str → Option Value}, s₁.heap.Ns b m → (hidT s₁.heap H).Ns b m := fun {b m} ⟨o, es, ep, e, d, r⟩ => ⟨o, es, ep, base_of e (noH e (fun _ _ z => by rw [d] at z; cases z) (fun z => by rw [z, ht] at e; cases e; cases d)), d, r⟩
  have nK : ∀ b o, K.lookup b = some o → H b = none := fun b o e => by
    rw [hHn b (fun z => by rw [z, htK] at e; cases e)]
    cases q : H0 b with
    | none => rfl
    | some u =>
      rw [hK b u q] at e
      cases e
  have hKb : K.In (hidT s₁.heap H) := fun b o e => base_of (KX b o e) (nK b o e)
  have hM : Mod K mg (hidT s₁.heap H) := ⟨hKb, nsK hns, ⟨mb, nsK hb, hbb⟩, let ⟨mc, h1, h2⟩ := hlim; ⟨mc, nsK h1, h2⟩⟩
  have hcb : CodeHd (hidT s₁.heap H) c t := by
    obtain ⟨o, vs, file, tf, flags, tg, inF, text, tt, e1, e2, e3, r⟩ := hcd
    exact ⟨o, vs, file, tf, flags, tg, inF, text, tt, base_of e1 (noH e1 (fun _ _ z => by rw [e3] at z; cases z) r.2.2.2.2.2.2), e2, e3, r⟩
  have hbb2 : (hidT s₁.heap H).BuiltinsAt mg t := by
    obtain ⟨bm, ob, b1, b2, b3, b4, b5, b6, b7, b8⟩ := hbm
    exact ⟨bm, ob, b1, b2, b3, b4, base_of b5 (noH b5 (fun _ _ z => by rw [b8] at z; cases z) b4), b6, b7, b8⟩
  have e0 : Env0 P w K mg (hidT s₁.heap H) callerA [] s₁ H := ⟨rfl, hM, fun b o e => of_hidT e, Nat.le_of_eq (hidT_size _ _), trivial, fun b hb => absurd (show b ∈ ([] : List Addr) from hb) (by simp), hokH, .of_eq hg⟩
  refine codeAny_mono ((F _ hKb (nsK hns) hcb hbb2).run callerA [] s₁ H ⟨[.ref a], []⟩ [.ref a] [.ref a] _ _ hr e0 (hbind s₁ [.ref a] rfl) (.cons rfl .nil) (hsp H a hHt hSH)) fun r s' x => ?_
  cases r with
  | error e => exact (hCX H e s' x).elim
  | ok fl =>
    cases fl with
    | next => exact False.elim x
    | brk => exact False.elim x
    | cont => exact False.elim x
    | ret u =>
      obtain ⟨v, H', os, bare, un, hok', r', q⟩ := x
      have kept : ∀ b o, b ≠ t → s₁.heap.get? b = some o → s'.heap.get? b = some o := fun b o n e => by
        cases q2 : H b with
        | none => exact un.keep b o e q2 (by intro z; exact absurd (show b ∈ ([] : List Addr) from z) (by simp)) (by simp)
        | some u2 =>
          rcases hO b with z | ⟨ob, u3, z⟩
          · rw [hHn b n, z] at q2
            cases q2
          · have z1 := mono _ _ z
            have z2 := un.frzs b ob _ z1
            obtain ⟨e1, _⟩ := hokH b _ z1
            obtain ⟨e2, _⟩ := hok' b _ z2
            rw [e] at e1
            cases e1
            exact e2
      have KX' : K.In s'.heap := fun b o e => kept b o (fun z => by rw [z, htK] at e; cases e) (KX b o e)
      obtain ⟨p, rfl, hp⟩ := q
      cases r'
      obtain ⟨_, its, n, rv, ho⟩ := hok' p _ hp
      obtain ⟨as, hrd0⟩ := reads_ints (R := R) (cl := cl) (h := s'.heap) rv.ints
      have hrd := ReadsW.list ho rfl rfl hrd0
      obtain ⟨more, ht'⟩ := un.tbls t _ hHt
      have hts : s'.heap.get? t = some (tabObj (#[] ++ more)) := hok' t _ ht'
      refine ⟨_, _, rfl, hrd, ⟨fun b o e => ?_, fun b o e => ?_⟩, os, bare⟩
      · by_cases hbt : b = t
        · subst hbt
          rw [ht] at e
          cases e
          exact .inr (.inl ⟨(hcd.tab ht).isCodeTable, rfl, #[], more, rfl, hts⟩)
        · exact .inl (kept b o hbt e)
      · by_cases hbt : b = t
        · exact ⟨_, by rw [hbt]; exact hts⟩
        · exact ⟨o, kept b o hbt e⟩
theorem walk_specT {r : OpenSpec} {k : Nat} {q : Program} {loose : List Str} {XP : (Str → Option Value) → Heap → Prop} {YP : World → Heap → Prop} {d : DefRec} {K : Params → PySem.W.Frag} {CX : CXT} {x : Str} {sp : PySem.W.Frag → Addr → Sp} {arg due : Codec.denoteAll r.args → List Int}
    (hwell : r.wellSaid = true) (hdf : d.params.defaults = []) (henc : ∀ a, Codec.encAll r.args a = [.list ((arg a).map WData.int)]) (hret : ∀ a, r.ret.enc (Codec.app r.args r.f a) = .list ((due a).map WData.int)) (hr : Room k callerA)
    (hY : ∀ (w : World) (h : Heap), YP w h → (K w.params).In h)
    (F : ∀ (w : World) (mg mb : Str → Option Value) (mean : ExcName → Option Value) (fa : Addr) (h : Heap), YP w h → (K w.params).In h → Top q (looseW q loose) mean mg mb h → mg d.name = some (.ref fa) →
      ∃ (fd : FuncData) (c t : Addr), (∀ (s : Shared) (us : List Value), us.length = ([x] : List Str).length → BindsTo s fd ⟨us, []⟩ (([x] : List Str).zip us)) ∧ CodeHd h c t ∧ h.get? t = some (tabObj #[]) ∧ (K w.params).lookup t = none ∧ h.BuiltinsAt mg t ∧
        ∀ base : Heap, (K w.params).In base → base.Ns mainGlobals mg → CodeHd base c t → base.BuiltinsAt mg t → FnOk r.prog w (K w.params) mg base CX k fa fd [x] (sp (K w.params) t))
    (hsp : ∀ (K : PySem.W.Frag) (t : Addr) (H : Hp) (q : Addr) (a : Codec.denoteAll r.args), H t = some (.tbl #[]) → Codec.app r.args r.asked a = true → SqL K H q ((arg a).map V.int) → sp K t [.ref q] H (fun v H' => ∃ p, v = .ref p ∧ H' p = some (.lst ((due a).map V.int))) fun _ _ _ => False)
    (hCX : ∀ (H : Hp) (s : Shared) (e : Value) (s' : Shared), CX [] H s (fun _ _ _ => False) e s' → False) :
    PySem.W.WalkOS q loose XP YP r d [] (fun f vs => PySem.call f vs) := by
  intro w s_0 s₁ mg mb G Y fa o pm cd doc dV kV ho hd hcd hD hmg hg args vals as hpre hlay hrd hwl hlo
  obtain ⟨a, e1, e2⟩ := PySem.W.os_pre_some hpre
  obtain ⟨e3, hwi⟩ := Codec.encAll_of_decAll r.args args a e1
  subst e3
  have KX := hY w _ Y
  obtain ⟨fd, c, t, hb, h1, h2, h3, h4, hF⟩ := F w mg mb _ fa _ Y KX G.T hmg
  rw [henc] at hwl
  refine PySem.W.enter_call (codeAny_mono (spec_callT (R := []) (cl := classAt s_0.heap) (zs := due a) KX G.T.g G.T.b G.T.builtins G.T.nolimit hg hwl (weight_le hlay (henc a)) hr h1 h2 h3 h4 hF hb
    (fun H q hO hS => hsp (K w.params) t H q a hO e2 hS) fun H e s' => hCX H s₁ e s') fun r' s' hq => ?_)
  obtain ⟨u, as', rfl, h1, h2, h3, h4⟩ := hq
  rw [← hret] at h1
  exact ⟨.inl ⟨u, _, as', rfl, fun _ => rfl, h1, (OpenSpec.post_iff hwell hwi _ _).mpr rfl, fun z => Bool.noConfusion (show false = true from z)⟩, h2, h3, h4⟩
end DV
end
noncomputable section
set_option Elab.async false
set_option linter.all false
set_option maxRecDepth 100000
namespace DV
open PySem PySem.Spec PyProof.Rows L2
theorem cas1 {us : List Value} (h : us.length = 1) : ∃ a, us = [a] := List.length_eq_one_iff.mp h
theorem cas2 {us : List Value} (h : us.length = 2) : ∃ a b, us = [a, b] := by
  cases us with
  | nil => cases h
  | cons a us =>
    obtain ⟨b, rfl⟩ := cas1 (Nat.succ.inj h)
    exact ⟨a, b, rfl⟩
theorem cas3 {us : List Value} (h : us.length = 3) : ∃ a b c, us = [a, b, c] := by
  cases us with
  | nil => cases h
  | cons a us =>
    obtain ⟨b, c, rfl⟩ := cas2 (Nat.succ.inj h)
    exact ⟨a, b, c, rfl⟩
theorem cas4 {us : List Value} (h : us.length = 4) : ∃ a b c d, us = [a, b, c, d] := by
  cases us with
  | nil => cases h
  | cons a us =>
    obtain ⟨b, c, d, rfl⟩ := cas3 (Nat.succ.inj h)
    exact ⟨a, b, c, d, rfl⟩
set_option genInjectivity false
set_option genSizeOf false
def top (i : Nat) : Stmt := PySem.Challenge.pw_dipvats_s01_answers.main.body.getD i (.Pass ⟨0, 0, 0, 0⟩)
abbrev s_may_be_wanted : Stmt := (top 35)
abbrev s_ranked_frames : Stmt := (top 36)
abbrev s_other_dips : Stmt := (top 37)
abbrev s_best_plan : Stmt := (top 38)
abbrev s_least_minutes : Stmt := (top 39)
abbrev s_wrong_minute : Stmt := (top 40)
abbrev s_wrong_frame : Stmt := (top 41)
abbrev s_judged : Stmt := (top 42)
abbrev s_longest_cooling : Stmt := (top 43)
abbrev s_Frame_init : Stmt := inClass (top 44) 0
abbrev s_Frame_warm_minutes : Stmt := inClass (top 44) 1
abbrev s_Frame_wax_held : Stmt := inClass (top 44) 2
abbrev s_Frame_layers_left : Stmt := inClass (top 44) 3
abbrev s_Workshop_init : Stmt := inClass (top 45) 0
abbrev s_Workshop_standing_frame : Stmt := inClass (top 45) 1
abbrev s_Workshop_add_frame : Stmt := inClass (top 45) 2
abbrev s_Workshop_buy_wax : Stmt := inClass (top 45) 3
abbrev s_Workshop_melt_layer : Stmt := inClass (top 45) 6
abbrev s_Workshop_put_layer : Stmt := inClass (top 45) 5
abbrev s_Workshop_dip : Stmt := inClass (top 45) 4
abbrev s_Workshop_wait : Stmt := inClass (top 45) 7
abbrev s_Workshop_sell : Stmt := inClass (top 45) 8
abbrev s_Workshop_look : Stmt := inClass (top 45) 9
abbrev s_Workshop_rest : Stmt := inClass (top 45) 10
abbrev s_Workshop_follow : Stmt := inClass (top 45) 11
abbrev s_Workshop_book : Stmt := inClass (top 45) 12
abbrev s_Line_init : Stmt := inClass (top 46) 0
abbrev s_Line_at_end : Stmt := inClass (top 46) 1
abbrev s_Line_take_number : Stmt := inClass (top 46) 2
abbrev s_Line_take_numbers : Stmt := inClass (top 46) 3
abbrev s_Line_take_rows : Stmt := inClass (top 46) 4
abbrev s_may_begin : Stmt := (top 47)
abbrev s_answer_to_wanted : Stmt := (top 48)
abbrev s_answer_in : Stmt := (top 49)
abbrev s_answers : Stmt := (top 50)
theorem sc_may_be_wanted : FnScope ["wanted"] ["wanted"] (defScope s_may_be_wanted) := ⟨rfl, rfl, rfl, by decide +kernel, rfl, by decide +kernel, by decide +kernel⟩
theorem sc_ranked_frames : FnScope ["wanted"] ["wanted"] (defScope s_ranked_frames) := ⟨rfl, rfl, rfl, by decide +kernel, rfl, by decide +kernel, by decide +kernel⟩
theorem sc_other_dips : FnScope ["wanted", "ranked", "most", "dips", "number"] ["wanted", "ranked", "most"] (defScope s_other_dips) := ⟨rfl, rfl, rfl, by decide +kernel, rfl, by decide +kernel, by decide +kernel⟩
theorem sc_best_plan : FnScope ["cools", "wanted", "most", "ranked", "tops", "rows", "turn", "dipped", "plan", "row", "number", "k"] ["cools", "wanted"] (defScope s_best_plan) := ⟨rfl, rfl, rfl, by decide +kernel, rfl, by decide +kernel, by decide +kernel⟩
theorem sc_least_minutes : FnScope ["cools", "wanted"] ["cools", "wanted"] (defScope s_least_minutes) := ⟨rfl, rfl, rfl, by decide +kernel, rfl, by decide +kernel, by decide +kernel⟩
theorem sc_wrong_minute : FnScope ["cools", "wanted", "plan", "cool_again", "minute", "dipped", "number"] ["cools", "wanted", "plan"] (defScope s_wrong_minute) := ⟨rfl, rfl, rfl, by decide +kernel, rfl, by decide +kernel, by decide +kernel⟩
theorem sc_wrong_frame : FnScope ["wanted", "plan", "number", "dips"] ["wanted", "plan"] (defScope s_wrong_frame) := ⟨rfl, rfl, rfl, by decide +kernel, rfl, by decide +kernel, by decide +kernel⟩
theorem sc_judged : FnScope ["cools", "wanted", "plan", "minute", "number"] ["cools", "wanted", "plan"] (defScope s_judged) := ⟨rfl, rfl, rfl, by decide +kernel, rfl, by decide +kernel, by decide +kernel⟩
theorem sc_longest_cooling : FnScope ["minutes", "wanted", "cools"] ["minutes", "wanted"] (defScope s_longest_cooling) := ⟨rfl, rfl, rfl, by decide +kernel, rfl, by decide +kernel, by decide +kernel⟩
theorem sc_Frame_init : FnScope ["self", "wanted"] ["self", "wanted"] (defScope s_Frame_init) := ⟨rfl, rfl, rfl, by decide +kernel, rfl, by decide +kernel, by decide +kernel⟩
theorem sc_Frame_warm_minutes : FnScope ["self", "minute"] ["self", "minute"] (defScope s_Frame_warm_minutes) := ⟨rfl, rfl, rfl, by decide +kernel, rfl, by decide +kernel, by decide +kernel⟩
theorem sc_Frame_wax_held : FnScope ["self"] ["self"] (defScope s_Frame_wax_held) := ⟨rfl, rfl, rfl, by decide +kernel, rfl, by decide +kernel, by decide +kernel⟩
theorem sc_Frame_layers_left : FnScope ["self"] ["self"] (defScope s_Frame_layers_left) := ⟨rfl, rfl, rfl, by decide +kernel, rfl, by decide +kernel, by decide +kernel⟩
theorem sc_Workshop_init : FnScope ["self", "cools", "wax"] ["self", "cools", "wax"] (defScope s_Workshop_init) := ⟨rfl, rfl, rfl, by decide +kernel, rfl, by decide +kernel, by decide +kernel⟩
theorem sc_Workshop_standing_frame : FnScope ["self", "number", "frame"] ["self", "number"] (defScope s_Workshop_standing_frame) := ⟨rfl, rfl, rfl, by decide +kernel, rfl, by decide +kernel, by decide +kernel⟩
theorem sc_Workshop_add_frame : FnScope ["self", "layers"] ["self", "layers"] (defScope s_Workshop_add_frame) := ⟨rfl, rfl, rfl, by decide +kernel, rfl, by decide +kernel, by decide +kernel⟩
theorem sc_Workshop_buy_wax : FnScope ["self", "measures"] ["self", "measures"] (defScope s_Workshop_buy_wax) := ⟨rfl, rfl, rfl, by decide +kernel, rfl, by decide +kernel, by decide +kernel⟩
theorem sc_Workshop_melt_layer : FnScope ["self", "frame"] ["self", "frame"] (defScope s_Workshop_melt_layer) := ⟨rfl, rfl, rfl, by decide +kernel, rfl, by decide +kernel, by decide +kernel⟩
theorem sc_Workshop_put_layer : FnScope ["self", "frame"] ["self", "frame"] (defScope s_Workshop_put_layer) := ⟨rfl, rfl, rfl, by decide +kernel, rfl, by decide +kernel, by decide +kernel⟩
theorem sc_Workshop_dip : FnScope ["self", "number", "frame"] ["self", "number"] (defScope s_Workshop_dip) := ⟨rfl, rfl, rfl, by decide +kernel, rfl, by decide +kernel, by decide +kernel⟩
theorem sc_Workshop_wait : FnScope ["self", "minutes"] ["self", "minutes"] (defScope s_Workshop_wait) := ⟨rfl, rfl, rfl, by decide +kernel, rfl, by decide +kernel, by decide +kernel⟩
theorem sc_Workshop_sell : FnScope ["self", "number", "frame"] ["self", "number"] (defScope s_Workshop_sell) := ⟨rfl, rfl, rfl, by decide +kernel, rfl, by decide +kernel, by decide +kernel⟩
theorem sc_Workshop_look : FnScope ["self", "number", "frame"] ["self", "number"] (defScope s_Workshop_look) := ⟨rfl, rfl, rfl, by decide +kernel, rfl, by decide +kernel, by decide +kernel⟩
theorem sc_Workshop_rest : FnScope ["self", "wanted", "frame"] ["self"] (defScope s_Workshop_rest) := ⟨rfl, rfl, rfl, by decide +kernel, rfl, by decide +kernel, by decide +kernel⟩
theorem sc_Workshop_follow : FnScope ["self", "plan", "passed", "dipped", "answer"] ["self", "plan"] (defScope s_Workshop_follow) := ⟨rfl, rfl, rfl, by decide +kernel, rfl, by decide +kernel, by decide +kernel⟩
theorem sc_Workshop_book : FnScope ["self", "standing", "gone", "frame"] ["self"] (defScope s_Workshop_book) := ⟨rfl, rfl, rfl, by decide +kernel, rfl, by decide +kernel, by decide +kernel⟩
theorem sc_Line_init : FnScope ["self", "calls"] ["self", "calls"] (defScope s_Line_init) := ⟨rfl, rfl, rfl, by decide +kernel, rfl, by decide +kernel, by decide +kernel⟩
theorem sc_Line_at_end : FnScope ["self"] ["self"] (defScope s_Line_at_end) := ⟨rfl, rfl, rfl, by decide +kernel, rfl, by decide +kernel, by decide +kernel⟩
theorem sc_Line_take_number : FnScope ["self", "number"] ["self"] (defScope s_Line_take_number) := ⟨rfl, rfl, rfl, by decide +kernel, rfl, by decide +kernel, by decide +kernel⟩
theorem sc_Line_take_numbers : FnScope ["self", "how_many", "behind", "numbers"] ["self", "how_many"] (defScope s_Line_take_numbers) := ⟨rfl, rfl, rfl, by decide +kernel, rfl, by decide +kernel, by decide +kernel⟩
theorem sc_Line_take_rows : FnScope ["self", "how_many", "rows", "k", "count"] ["self", "how_many"] (defScope s_Line_take_rows) := ⟨rfl, rfl, rfl, by decide +kernel, rfl, by decide +kernel, by decide +kernel⟩
theorem sc_may_begin : FnScope ["cools", "wax"] ["cools", "wax"] (defScope s_may_begin) := ⟨rfl, rfl, rfl, by decide +kernel, rfl, by decide +kernel, by decide +kernel⟩
theorem sc_answer_to_wanted : FnScope ["cools", "call", "numbers", "rows", "wanted", "plan"] ["cools", "call", "numbers", "rows"] (defScope s_answer_to_wanted) := ⟨rfl, rfl, rfl, by decide +kernel, rfl, by decide +kernel, by decide +kernel⟩
theorem sc_answer_in : FnScope ["shop", "call", "numbers", "rows"] ["shop", "call", "numbers", "rows"] (defScope s_answer_in) := ⟨rfl, rfl, rfl, by decide +kernel, rfl, by decide +kernel, by decide +kernel⟩
theorem sc_answers : FnScope ["calls", "told", "shop", "line", "call", "numbers", "rows", "answer"] ["calls"] (defScope s_answers) := ⟨rfl, rfl, rfl, by decide +kernel, rfl, by decide +kernel, by decide +kernel⟩
structure Dat where
  C_Frame : Addr
  C_Workshop : Addr
  C_Line : Addr
  f_may_be_wanted : Addr
  fd_may_be_wanted : FuncData
  f_ranked_frames : Addr
  fd_ranked_frames : FuncData
  f_other_dips : Addr
  fd_other_dips : FuncData
  f_best_plan : Addr
  fd_best_plan : FuncData
  f_least_minutes : Addr
  fd_least_minutes : FuncData
  f_wrong_minute : Addr
  fd_wrong_minute : FuncData
  f_wrong_frame : Addr
  fd_wrong_frame : FuncData
  f_judged : Addr
  fd_judged : FuncData
  f_longest_cooling : Addr
  fd_longest_cooling : FuncData
  f_Frame_init : Addr
  fd_Frame_init : FuncData
  f_Frame_warm_minutes : Addr
  fd_Frame_warm_minutes : FuncData
  f_Frame_wax_held : Addr
  fd_Frame_wax_held : FuncData
  f_Frame_layers_left : Addr
  fd_Frame_layers_left : FuncData
  f_Workshop_init : Addr
  fd_Workshop_init : FuncData
  f_Workshop_standing_frame : Addr
  fd_Workshop_standing_frame : FuncData
  f_Workshop_add_frame : Addr
  fd_Workshop_add_frame : FuncData
  f_Workshop_buy_wax : Addr
  fd_Workshop_buy_wax : FuncData
  f_Workshop_melt_layer : Addr
  fd_Workshop_melt_layer : FuncData
  f_Workshop_put_layer : Addr
  fd_Workshop_put_layer : FuncData
  f_Workshop_dip : Addr
  fd_Workshop_dip : FuncData
  f_Workshop_wait : Addr
  fd_Workshop_wait : FuncData
  f_Workshop_sell : Addr
  fd_Workshop_sell : FuncData
  f_Workshop_look : Addr
  fd_Workshop_look : FuncData
  f_Workshop_rest : Addr
  fd_Workshop_rest : FuncData
  f_Workshop_follow : Addr
  fd_Workshop_follow : FuncData
  f_Workshop_book : Addr
  fd_Workshop_book : FuncData
  f_Line_init : Addr
  fd_Line_init : FuncData
  f_Line_at_end : Addr
  fd_Line_at_end : FuncData
  f_Line_take_number : Addr
  fd_Line_take_number : FuncData
  f_Line_take_numbers : Addr
  fd_Line_take_numbers : FuncData
  f_Line_take_rows : Addr
  fd_Line_take_rows : FuncData
  f_may_begin : Addr
  fd_may_begin : FuncData
  f_answer_to_wanted : Addr
  fd_answer_to_wanted : FuncData
  f_answer_in : Addr
  fd_answer_in : FuncData
  f_answers : Addr
  fd_answers : FuncData
  a_HANDED_OVER : Addr
  a_ROWS_BEHIND : Addr
def GV (mg : Str → Option Value) (x : Str) (v : V) : Prop := ∃ u, mg x = some u ∧ RelV v u
structure Txt (K : PySem.W.Frag) (mg : Str → Option Value) (D : Dat) : Prop where
  g_BEGIN : GV mg "BEGIN" (.int 0)
  g_COOLING : GV mg "COOLING" (.int 10)
  g_DIP : GV mg "DIP" (.int 3)
  g_FOLLOW : GV mg "FOLLOW" (.int 12)
  g_FRAME : GV mg "FRAME" (.int 1)
  g_FULL_FRAME : GV mg "FULL_FRAME" (.int (-7))
  g_HANDED_OVER : GV mg "HANDED_OVER" (.ref D.a_HANDED_OVER)
  t_HANDED_OVER : ∀ H : Hp, SqT K H D.a_HANDED_OVER [.int 2, .int 1, .int 1, .int 1, .int 1, .int 1, .int 1, .int 0, .int 0, .int 0, .int 1, .int 0, .int 0, .int 0]
  g_JUDGE : GV mg "JUDGE" (.int 9)
  g_LAST_MINUTE : GV mg "LAST_MINUTE" (.int 100000)
  g_LEAST : GV mg "LEAST" (.int 7)
  g_LONGEST_WAIT : GV mg "LONGEST_WAIT" (.int 100)
  g_LOOK : GV mg "LOOK" (.int 6)
  g_MOST_BOUGHT : GV mg "MOST_BOUGHT" (.int 1000)
  g_MOST_COOLS : GV mg "MOST_COOLS" (.int 5)
  g_MOST_FRAMES : GV mg "MOST_FRAMES" (.int 6)
  g_MOST_LAYERS : GV mg "MOST_LAYERS" (.int 6)
  g_NOTHING : GV mg "NOTHING" (.int 0)
  g_NO_COOLING : GV mg "NO_COOLING" (.int (-6))
  g_NO_PLACE : GV mg "NO_PLACE" (.int (-5))
  g_NO_SUCH_FRAME : GV mg "NO_SUCH_FRAME" (.int (-2))
  g_NO_WORKSHOP : GV mg "NO_WORKSHOP" (.int (-9))
  g_OUT_OF_RANGE : GV mg "OUT_OF_RANGE" (.int (-1))
  g_PLAN : GV mg "PLAN" (.int 8)
  g_REST : GV mg "REST" (.int 11)
  g_ROWS_BEHIND : GV mg "ROWS_BEHIND" (.ref D.a_ROWS_BEHIND)
  t_ROWS_BEHIND : ∀ H : Hp, SqT K H D.a_ROWS_BEHIND [.int 0, .int 0, .int 0, .int 0, .int 0, .int 0, .int 0, .int 1, .int 1, .int 2, .int 1, .int 0, .int 1, .int 0]
  g_SELL : GV mg "SELL" (.int 5)
  g_STILL_WARM : GV mg "STILL_WARM" (.int (-3))
  g_TOO_FEW_LAYERS : GV mg "TOO_FEW_LAYERS" (.int (-4))
  g_TOO_LATE : GV mg "TOO_LATE" (.int (-8))
  g_TOO_LITTLE_WAX : GV mg "TOO_LITTLE_WAX" (.int (-6))
  g_WAIT : GV mg "WAIT" (.int 4)
  g_WAX : GV mg "WAX" (.int 2)
  g_WRONG_FRAME : GV mg "WRONG_FRAME" (.int (-4))
  g_WRONG_MINUTE : GV mg "WRONG_MINUTE" (.int (-3))
  n_enumerate : mg "enumerate" = none
  n_len : mg "len" = none
  n_list : mg "list" = none
  n_max : mg "max" = none
  n_range : mg "range" = none
  n_sorted : mg "sorted" = none
  n_sum : mg "sum" = none
  c_Frame : mg "Frame" = some (.ref D.C_Frame)
  cl_Frame : Cls K D.C_Frame
  mk_Frame : Mk K D.C_Frame D.f_Frame_init
  na_Frame_wanted : NoAttr K D.C_Frame "wanted"
  na_Frame_layers : NoAttr K D.C_Frame "layers"
  na_Frame_cool_from : NoAttr K D.C_Frame "cool_from"
  na_Frame_sold : NoAttr K D.C_Frame "sold"
  c_Workshop : mg "Workshop" = some (.ref D.C_Workshop)
  cl_Workshop : Cls K D.C_Workshop
  mk_Workshop : Mk K D.C_Workshop D.f_Workshop_init
  na_Workshop_cools : NoAttr K D.C_Workshop "cools"
  na_Workshop_minute : NoAttr K D.C_Workshop "minute"
  na_Workshop_vat : NoAttr K D.C_Workshop "vat"
  na_Workshop_bought : NoAttr K D.C_Workshop "bought"
  na_Workshop_frames : NoAttr K D.C_Workshop "frames"
  c_Line : mg "Line" = some (.ref D.C_Line)
  cl_Line : Cls K D.C_Line
  mk_Line : Mk K D.C_Line D.f_Line_init
  na_Line_calls : NoAttr K D.C_Line "calls"
  na_Line_place : NoAttr K D.C_Line "place"
  F_may_be_wanted : Fun K "may_be_wanted" "may_be_wanted" s_may_be_wanted D.f_may_be_wanted D.fd_may_be_wanted
  b_may_be_wanted : Binds K D.fd_may_be_wanted ["wanted"] []
  gl_may_be_wanted : mg "may_be_wanted" = some (.ref D.f_may_be_wanted)
  F_ranked_frames : Fun K "ranked_frames" "ranked_frames" s_ranked_frames D.f_ranked_frames D.fd_ranked_frames
  b_ranked_frames : Binds K D.fd_ranked_frames ["wanted"] []
  gl_ranked_frames : mg "ranked_frames" = some (.ref D.f_ranked_frames)
  F_other_dips : Fun K "other_dips" "other_dips" s_other_dips D.f_other_dips D.fd_other_dips
  b_other_dips : Binds K D.fd_other_dips ["wanted", "ranked", "most"] []
  gl_other_dips : mg "other_dips" = some (.ref D.f_other_dips)
  F_best_plan : Fun K "best_plan" "best_plan" s_best_plan D.f_best_plan D.fd_best_plan
  b_best_plan : Binds K D.fd_best_plan ["cools", "wanted"] []
  gl_best_plan : mg "best_plan" = some (.ref D.f_best_plan)
  F_least_minutes : Fun K "least_minutes" "least_minutes" s_least_minutes D.f_least_minutes D.fd_least_minutes
  b_least_minutes : Binds K D.fd_least_minutes ["cools", "wanted"] []
  gl_least_minutes : mg "least_minutes" = some (.ref D.f_least_minutes)
  F_wrong_minute : Fun K "wrong_minute" "wrong_minute" s_wrong_minute D.f_wrong_minute D.fd_wrong_minute
  b_wrong_minute : Binds K D.fd_wrong_minute ["cools", "wanted", "plan"] []
  gl_wrong_minute : mg "wrong_minute" = some (.ref D.f_wrong_minute)
  F_wrong_frame : Fun K "wrong_frame" "wrong_frame" s_wrong_frame D.f_wrong_frame D.fd_wrong_frame
  b_wrong_frame : Binds K D.fd_wrong_frame ["wanted", "plan"] []
  gl_wrong_frame : mg "wrong_frame" = some (.ref D.f_wrong_frame)
  F_judged : Fun K "judged" "judged" s_judged D.f_judged D.fd_judged
  b_judged : Binds K D.fd_judged ["cools", "wanted", "plan"] []
  gl_judged : mg "judged" = some (.ref D.f_judged)
  F_longest_cooling : Fun K "longest_cooling" "longest_cooling" s_longest_cooling D.f_longest_cooling D.fd_longest_cooling
  b_longest_cooling : Binds K D.fd_longest_cooling ["minutes", "wanted"] []
  gl_longest_cooling : mg "longest_cooling" = some (.ref D.f_longest_cooling)
  F_Frame_init : Fun K "__init__" "Frame.__init__" s_Frame_init D.f_Frame_init D.fd_Frame_init
  b_Frame_init : Binds K D.fd_Frame_init ["self", "wanted"] []
  m_Frame_init : Meth K D.C_Frame "__init__" D.f_Frame_init
  F_Frame_warm_minutes : Fun K "warm_minutes" "Frame.warm_minutes" s_Frame_warm_minutes D.f_Frame_warm_minutes D.fd_Frame_warm_minutes
  b_Frame_warm_minutes : Binds K D.fd_Frame_warm_minutes ["self", "minute"] []
  m_Frame_warm_minutes : Meth K D.C_Frame "warm_minutes" D.f_Frame_warm_minutes
  F_Frame_wax_held : Fun K "wax_held" "Frame.wax_held" s_Frame_wax_held D.f_Frame_wax_held D.fd_Frame_wax_held
  b_Frame_wax_held : Binds K D.fd_Frame_wax_held ["self"] []
  m_Frame_wax_held : Meth K D.C_Frame "wax_held" D.f_Frame_wax_held
  F_Frame_layers_left : Fun K "layers_left" "Frame.layers_left" s_Frame_layers_left D.f_Frame_layers_left D.fd_Frame_layers_left
  b_Frame_layers_left : Binds K D.fd_Frame_layers_left ["self"] []
  m_Frame_layers_left : Meth K D.C_Frame "layers_left" D.f_Frame_layers_left
  F_Workshop_init : Fun K "__init__" "Workshop.__init__" s_Workshop_init D.f_Workshop_init D.fd_Workshop_init
  b_Workshop_init : Binds K D.fd_Workshop_init ["self", "cools", "wax"] []
  m_Workshop_init : Meth K D.C_Workshop "__init__" D.f_Workshop_init
  F_Workshop_standing_frame : Fun K "standing_frame" "Workshop.standing_frame" s_Workshop_standing_frame D.f_Workshop_standing_frame D.fd_Workshop_standing_frame
  b_Workshop_standing_frame : Binds K D.fd_Workshop_standing_frame ["self", "number"] []
  m_Workshop_standing_frame : Meth K D.C_Workshop "standing_frame" D.f_Workshop_standing_frame
  F_Workshop_add_frame : Fun K "add_frame" "Workshop.add_frame" s_Workshop_add_frame D.f_Workshop_add_frame D.fd_Workshop_add_frame
  b_Workshop_add_frame : Binds K D.fd_Workshop_add_frame ["self", "layers"] []
  m_Workshop_add_frame : Meth K D.C_Workshop "add_frame" D.f_Workshop_add_frame
  F_Workshop_buy_wax : Fun K "buy_wax" "Workshop.buy_wax" s_Workshop_buy_wax D.f_Workshop_buy_wax D.fd_Workshop_buy_wax
  b_Workshop_buy_wax : Binds K D.fd_Workshop_buy_wax ["self", "measures"] []
  m_Workshop_buy_wax : Meth K D.C_Workshop "buy_wax" D.f_Workshop_buy_wax
  F_Workshop_melt_layer : Fun K "melt_layer" "Workshop.melt_layer" s_Workshop_melt_layer D.f_Workshop_melt_layer D.fd_Workshop_melt_layer
  b_Workshop_melt_layer : Binds K D.fd_Workshop_melt_layer ["self", "frame"] []
  m_Workshop_melt_layer : Meth K D.C_Workshop "melt_layer" D.f_Workshop_melt_layer
  F_Workshop_put_layer : Fun K "put_layer" "Workshop.put_layer" s_Workshop_put_layer D.f_Workshop_put_layer D.fd_Workshop_put_layer
  b_Workshop_put_layer : Binds K D.fd_Workshop_put_layer ["self", "frame"] []
  m_Workshop_put_layer : Meth K D.C_Workshop "put_layer" D.f_Workshop_put_layer
  F_Workshop_dip : Fun K "dip" "Workshop.dip" s_Workshop_dip D.f_Workshop_dip D.fd_Workshop_dip
  b_Workshop_dip : Binds K D.fd_Workshop_dip ["self", "number"] []
  m_Workshop_dip : Meth K D.C_Workshop "dip" D.f_Workshop_dip
  F_Workshop_wait : Fun K "wait" "Workshop.wait" s_Workshop_wait D.f_Workshop_wait D.fd_Workshop_wait
  b_Workshop_wait : Binds K D.fd_Workshop_wait ["self", "minutes"] []
  m_Workshop_wait : Meth K D.C_Workshop "wait" D.f_Workshop_wait
  F_Workshop_sell : Fun K "sell" "Workshop.sell" s_Workshop_sell D.f_Workshop_sell D.fd_Workshop_sell
  b_Workshop_sell : Binds K D.fd_Workshop_sell ["self", "number"] []
  m_Workshop_sell : Meth K D.C_Workshop "sell" D.f_Workshop_sell
  F_Workshop_look : Fun K "look" "Workshop.look" s_Workshop_look D.f_Workshop_look D.fd_Workshop_look
  b_Workshop_look : Binds K D.fd_Workshop_look ["self", "number"] []
  m_Workshop_look : Meth K D.C_Workshop "look" D.f_Workshop_look
  F_Workshop_rest : Fun K "rest" "Workshop.rest" s_Workshop_rest D.f_Workshop_rest D.fd_Workshop_rest
  b_Workshop_rest : Binds K D.fd_Workshop_rest ["self"] []
  m_Workshop_rest : Meth K D.C_Workshop "rest" D.f_Workshop_rest
  F_Workshop_follow : Fun K "follow" "Workshop.follow" s_Workshop_follow D.f_Workshop_follow D.fd_Workshop_follow
  b_Workshop_follow : Binds K D.fd_Workshop_follow ["self", "plan"] []
  m_Workshop_follow : Meth K D.C_Workshop "follow" D.f_Workshop_follow
  F_Workshop_book : Fun K "book" "Workshop.book" s_Workshop_book D.f_Workshop_book D.fd_Workshop_book
  b_Workshop_book : Binds K D.fd_Workshop_book ["self"] []
  m_Workshop_book : Meth K D.C_Workshop "book" D.f_Workshop_book
  F_Line_init : Fun K "__init__" "Line.__init__" s_Line_init D.f_Line_init D.fd_Line_init
  b_Line_init : Binds K D.fd_Line_init ["self", "calls"] []
  m_Line_init : Meth K D.C_Line "__init__" D.f_Line_init
  F_Line_at_end : Fun K "at_end" "Line.at_end" s_Line_at_end D.f_Line_at_end D.fd_Line_at_end
  b_Line_at_end : Binds K D.fd_Line_at_end ["self"] []
  m_Line_at_end : Meth K D.C_Line "at_end" D.f_Line_at_end
  F_Line_take_number : Fun K "take_number" "Line.take_number" s_Line_take_number D.f_Line_take_number D.fd_Line_take_number
  b_Line_take_number : Binds K D.fd_Line_take_number ["self"] []
  m_Line_take_number : Meth K D.C_Line "take_number" D.f_Line_take_number
  F_Line_take_numbers : Fun K "take_numbers" "Line.take_numbers" s_Line_take_numbers D.f_Line_take_numbers D.fd_Line_take_numbers
  b_Line_take_numbers : Binds K D.fd_Line_take_numbers ["self", "how_many"] []
  m_Line_take_numbers : Meth K D.C_Line "take_numbers" D.f_Line_take_numbers
  F_Line_take_rows : Fun K "take_rows" "Line.take_rows" s_Line_take_rows D.f_Line_take_rows D.fd_Line_take_rows
  b_Line_take_rows : Binds K D.fd_Line_take_rows ["self", "how_many"] []
  m_Line_take_rows : Meth K D.C_Line "take_rows" D.f_Line_take_rows
  F_may_begin : Fun K "may_begin" "may_begin" s_may_begin D.f_may_begin D.fd_may_begin
  b_may_begin : Binds K D.fd_may_begin ["cools", "wax"] []
  gl_may_begin : mg "may_begin" = some (.ref D.f_may_begin)
  F_answer_to_wanted : Fun K "answer_to_wanted" "answer_to_wanted" s_answer_to_wanted D.f_answer_to_wanted D.fd_answer_to_wanted
  b_answer_to_wanted : Binds K D.fd_answer_to_wanted ["cools", "call", "numbers", "rows"] []
  gl_answer_to_wanted : mg "answer_to_wanted" = some (.ref D.f_answer_to_wanted)
  F_answer_in : Fun K "answer_in" "answer_in" s_answer_in D.f_answer_in D.fd_answer_in
  b_answer_in : Binds K D.fd_answer_in ["shop", "call", "numbers", "rows"] []
  gl_answer_in : mg "answer_in" = some (.ref D.f_answer_in)
  F_answers : Fun K "answers" "answers" s_answers D.f_answers D.fd_answers
  b_answers : Binds K D.fd_answers ["calls"] []
  gl_answers : mg "answers" = some (.ref D.f_answers)
theorem pe_g {X : Cx} {x : Str} {v : V} {pos : Pos} (hg : Gl X x) (h : GV X.mg x v) (hd : (x == ("__debug__" : Str)) = false := by decide) : PE X (.Name x pos) (tC v) := by
  obtain ⟨u, h1, h2⟩ := h
  exact pe_glob hg h1 h2 hd
def ff (w l c : Int) (s : Bool) : List (Str × V) := [("wanted", .int w), ("layers", .int l), ("cool_from", .int c), ("sold", .bl s)]
def wf (c m v b : Int) (l : Addr) : List (Str × V) := [("cools", .int c), ("minute", .int m), ("vat", .int v), ("bought", .int b), ("frames", .ref l)]
section
variable (w l c : Int) (s : Bool)
theorem ff_wanted : (ff w l c s).lookup ("wanted" : Str) = some (.int w) := rfl
theorem ff_layers : (ff w l c s).lookup ("layers" : Str) = some (.int l) := rfl
theorem ff_cool : (ff w l c s).lookup ("cool_from" : Str) = some (.int c) := rfl
theorem ff_sold : (ff w l c s).lookup ("sold" : Str) = some (.bl s) := rfl
theorem ff_no1 : (ff w l c s).lookup ("wax_held" : Str) = none := rfl
theorem ff_no2 : (ff w l c s).lookup ("warm_minutes" : Str) = none := rfl
theorem ff_len : (ff w l c s).length < 1000 := by show 4 < 1000; decide
theorem ff_pl (y : Int) : putF "layers" (.int y) (ff w l c s) = ff w y c s := rfl
theorem ff_pc (y : Int) : putF "cool_from" (.int y) (ff w l c s) = ff w l y s := rfl
theorem ff_ps (y : Bool) : putF "sold" (.bl y) (ff w l c s) = ff w l c y := rfl
end
section
variable (c m v b : Int) (l : Addr)
theorem wf_cools : (wf c m v b l).lookup ("cools" : Str) = some (.int c) := rfl
theorem wf_minute : (wf c m v b l).lookup ("minute" : Str) = some (.int m) := rfl
theorem wf_vat : (wf c m v b l).lookup ("vat" : Str) = some (.int v) := rfl
theorem wf_bought : (wf c m v b l).lookup ("bought" : Str) = some (.int b) := rfl
theorem wf_frames : (wf c m v b l).lookup ("frames" : Str) = some (.ref l) := rfl
theorem wf_len : (wf c m v b l).length < 1000 := by show 5 < 1000; decide
theorem wf_pm (y : Int) : putF "minute" (.int y) (wf c m v b l) = wf c y v b l := rfl
theorem wf_pv (y : Int) : putF "vat" (.int y) (wf c m v b l) = wf c m y b l := rfl
theorem wf_pb (y : Int) : putF "bought" (.int y) (wf c m v b l) = wf c m v y l := rfl
end
def FrameAt (D : Dat) (H : Hp) (a : Addr) (f : Mu41.Frame) : Prop := ∃ dx, H a = some (.ins D.C_Frame dx (ff f.wants f.layers f.cool (!f.there)))
def spFInit (D : Dat) : Sp := fun vs H Q _ => ∃ (p dx : Addr) (n : Nat), vs = [.ref p, .int n] ∧ H p = some (.ins D.C_Frame dx []) ∧ ∀ H' : Hp, FrameAt D H' p ⟨n, 0, 0, true⟩ → (∀ b o, H b = some o → b ≠ p → H' b = some o) → Q .non H'
def spWarm (D : Dat) : Sp := fun vs H Q _ => ∃ (p : Addr) (n : Nat) (f : Mu41.Frame), vs = [.ref p, .int n] ∧ FrameAt D H p f ∧ Q (.int ((f.cool - n : Nat) : Int)) H
def spHeld (D : Dat) : Sp := fun vs H Q _ => ∃ (p : Addr) (f : Mu41.Frame), vs = [.ref p] ∧ FrameAt D H p f ∧ f.layers ≤ 100 ∧ Q (.int (Mu41.wax f.layers : Int)) H
theorem wax_eq : ∀ n : Nat, ((Mu41.wax n : Nat) : Int) = (n : Int) * ((n : Int) + 1) / 2 := fun n => by
  have h : ∀ n : Nat, 2 * ((Mu41.wax n : Nat) : Int) = (n : Int) * ((n : Int) + 1) := by
    intro n
    induction n with
    | zero => rfl
    | succ n ih =>
      show 2 * (((Mu41.wax n + (n + 1) : Nat)) : Int) = _
      have e : ((n + 1 : Nat) : Int) * (((n + 1 : Nat) : Int) + 1) = (n : Int) * ((n : Int) + 1) + 2 * (n + 1) := by
        rw [Int.natCast_add]
        simp only [Int.add_mul, Int.mul_add]
        omega
      rw [e]
      omega
  have := h n
  omega
end DV
end
noncomputable section
set_option Elab.async false
set_option linter.all false
set_option maxRecDepth 100000
namespace DV
open PySem PySem.Spec PyProof.Rows L2
section
variable {P : Program} {w : World} {K : PySem.W.Frag} {mg : Str → Option Value} {base : Heap} {D : Dat}
theorem ok_Frame_init (T : Txt K mg D) : FnOk P w K mg base CX0 1 D.f_Frame_init D.fd_Frame_init ["self", "wanted"] (spFInit D) := by
  refine T.F_Frame_init.ok sc_Frame_init (fun vs H Q E h => ?_) (fun cdv A outer s H vs Q E hr h => ?_)
  · obtain ⟨p, dx, n, rfl, _⟩ := h
    rfl
  · obtain ⟨p, dx, n, rfl, hp, k⟩ := h
    refine ⟨_, (pss_cons (ps_fld (pv 0) (pv 1) rfl)
      (pss_cons (ps_fld (pv 0) pe_int rfl)
      (pss_cons (ps_fld (pv 0) pe_int rfl)
      (pss_one (ps_fld (pv 0) pe_bl rfl))))), ?_⟩
    refine ⟨_, rfl, _, rfl, p, _, dx, _, rfl, hp, T.cl_Frame, T.na_Frame_wanted, (by show 0 < 1000; decide), ?_⟩
    refine ⟨_, rfl, p, _, dx, _, rfl, upd_same, T.cl_Frame, T.na_Frame_layers, (by show 1 < 1000; decide), ?_⟩
    refine ⟨_, rfl, p, _, dx, _, rfl, upd_same, T.cl_Frame, T.na_Frame_cool_from, (by show 2 < 1000; decide), ?_⟩
    refine ⟨_, rfl, p, _, dx, _, rfl, upd_same, T.cl_Frame, T.na_Frame_sold, (by show 3 < 1000; decide), ?_⟩
    exact k _ ⟨dx, upd_same⟩ fun b o e hb => by rw [upd_ne hb, upd_ne hb, upd_ne hb, upd_ne hb]; exact e
theorem ok_Frame_warm_minutes (T : Txt K mg D) : FnOk P w K mg base CX0 1 D.f_Frame_warm_minutes D.fd_Frame_warm_minutes ["self", "minute"] (spWarm D) := by
  refine T.F_Frame_warm_minutes.ok sc_Frame_warm_minutes (fun vs H Q E h => ?_) (fun cdv A outer s H vs Q E hr h => ?_)
  · obtain ⟨p, n, f, rfl, _⟩ := h
    rfl
  · obtain ⟨p, n, f, rfl, ⟨dx, hp⟩, k⟩ := h
    refine ⟨_, (pss_one (ps_ret (pe_callB (call_max2 rfl) rfl T.n_max boot_max (pa_cons pe_int (pa_cons (pe_op op_sub (pe_fld (pv 0) rfl) (pv 1)) pa_nil))))), ?_⟩
    refine ⟨_, rfl, p, _, dx, _, _, rfl, hp, T.cl_Frame, T.na_Frame_cool_from, ff_cool _ _ _ _, _, rfl, _, _, rfl, rfl, _, _, rfl, ?_⟩
    have e : (if (f.cool : Int) - n > 0 then (f.cool : Int) - n else 0) = ((f.cool - n : Nat) : Int) := by
      by_cases h : (f.cool : Int) - n > 0
      · rw [if_pos h]; omega
      · rw [if_neg h]; omega
    show Q (.int (if (f.cool : Int) - n > 0 then (f.cool : Int) - n else 0)) H
    rw [e]
    exact k
theorem ok_Frame_wax_held (T : Txt K mg D) : FnOk P w K mg base CX0 1 D.f_Frame_wax_held D.fd_Frame_wax_held ["self"] (spHeld D) := by
  refine T.F_Frame_wax_held.ok sc_Frame_wax_held (fun vs H Q E h => ?_) (fun cdv A outer s H vs Q E hr h => ?_)
  · obtain ⟨p, f, rfl, _⟩ := h
    rfl
  · obtain ⟨p, f, rfl, ⟨dx, hp⟩, hl, k⟩ := h
    refine ⟨_, (pss_one (ps_ret (pe_op op_fdiv (pe_op op_mul (pe_fld (pv 0) rfl) (pe_op op_add (pe_fld (pv 0) rfl) pe_int)) pe_int))), ?_⟩
    refine ⟨_, rfl, p, _, dx, _, _, rfl, hp, T.cl_Frame, T.na_Frame_layers, ff_layers _ _ _ _, _, rfl, p, _, dx, _, _, rfl, hp, T.cl_Frame, T.na_Frame_layers, ff_layers _ _ _ _, _, _, rfl, rfl, _, _, rfl, rfl, .inl ⟨by omega, by omega⟩, _, _, rfl, rfl, ⟨by decide, by decide⟩, ?_⟩
    show Q (.int ((f.layers : Int) * ((f.layers : Int) + 1) / 2)) H
    rw [← wax_eq]
    exact k
end
end DV
end
noncomputable section
set_option Elab.async false
set_option linter.all false
set_option maxRecDepth 100000
namespace DV
open PySem PySem.Spec PyProof.Rows L2
structure Good (s : Mu41.State) : Prop where
  few : s.frames.length ≤ 6
  low : ∀ f ∈ s.frames, f.layers ≤ 6
structure ShopAt (D : Dat) (H : Hp) (p : Addr) (s : Mu41.State) (l : Addr) (as : List Addr) : Prop where
  obj : ∃ dx, H p = some (.ins D.C_Workshop dx (wf s.cooling s.time s.vat s.bought l))
  lst : H l = some (.lst (as.map V.ref))
  nd : as.Nodup
  len : as.length = s.frames.length
  at_ : ∀ (j : Nat) (a : Addr) (f : Mu41.Frame), as[j]? = some a → s.frames[j]? = some f → FrameAt D H a f
  good : Good s
structure Did (D : Dat) (H : Hp) (p l : Addr) (as : List Addr) (H' : Hp) (s' : Mu41.State) (as' : List Addr) : Prop where
  shop : ShopAt D H' p s' l as'
  new : ∀ a ∈ as', a ∈ as ∨ H a = none
  old : ∀ a ∈ as, a ∈ as'
  kept : ∀ b o, H b = some o → b ≠ p → b ≠ l → b ∉ as → H' b = some o
section
variable {D : Dat} {H H' H'' : Hp} {p l : Addr} {as as' as'' : List Addr} {s s' s'' : Mu41.State} {q : Addr} {o : HO}
theorem ShopAt.frm (B : ShopAt D H p s l as) {j : Nat} {f : Mu41.Frame} (h : s.frames[j]? = some f) : ∃ a, as[j]? = some a ∧ FrameAt D H a f := by
  have hj : j < as.length := by
    rw [B.len]
    exact (List.getElem?_eq_some_iff.mp h).1
  exact ⟨as[j], List.getElem?_eq_getElem hj, B.at_ j _ f (List.getElem?_eq_getElem hj) h⟩
theorem ShopAt.mem (B : ShopAt D H p s l as) {a : Addr} (h : a ∈ as) : ∃ (j : Nat) (f : Mu41.Frame), as[j]? = some a ∧ s.frames[j]? = some f ∧ FrameAt D H a f := by
  obtain ⟨j, hj, e⟩ := List.mem_iff_getElem.mp h
  have hj' : j < s.frames.length := by
    rw [← B.len]
    exact hj
  have e1 : as[j]? = some a := by rw [List.getElem?_eq_getElem hj, e]
  have e2 : s.frames[j]? = some s.frames[j] := List.getElem?_eq_getElem hj'
  exact ⟨j, _, e1, e2, B.at_ j a _ e1 e2⟩
theorem ShopAt.keep (B : ShopAt D H p s l as) (k : ∀ b o, H b = some o → (b = p ∨ b = l ∨ b ∈ as) → H' b = some o) : ShopAt D H' p s l as := by
  obtain ⟨dx, hp⟩ := B.obj
  refine ⟨⟨dx, k _ _ hp (.inl rfl)⟩, k _ _ B.lst (.inr (.inl rfl)), B.nd, B.len, fun j a f h1 h2 => ?_, B.good⟩
  obtain ⟨dy, ha⟩ := B.at_ j a f h1 h2
  exact ⟨dy, k _ _ ha (.inr (.inr (List.mem_of_getElem? h1)))⟩
theorem ShopAt.fresh (B : ShopAt D H p s l as) (hq : H q = none) : ShopAt D (upd H q o) p s l as :=
  B.keep fun b u e _ => by rw [upd_ne (ne_of_none e hq)]; exact e
theorem ShopAt.pl (B : ShopAt D H p s l as) : p ≠ l := by
  obtain ⟨dx, hp⟩ := B.obj
  exact ne_of hp B.lst (by intro z; cases z)
theorem ShopAt.la (B : ShopAt D H p s l as) {a : Addr} (h : a ∈ as) : a ≠ l := by
  obtain ⟨j, f, _, _, dx, ha⟩ := B.mem h
  exact ne_of ha B.lst (by intro z; cases z)
theorem ShopAt.pa (B : ShopAt D H p s l as) {a : Addr} (h : a ∈ as) : a ≠ p := by
  obtain ⟨j, f, _, _, dx, ha⟩ := B.mem h
  obtain ⟨dy, hp⟩ := B.obj
  refine ne_of ha hp (by
    intro z
    injection z with _ _ z
    exact absurd (congrArg List.length z) (by show ¬ 4 = 5; decide))
theorem Did.refl (B : ShopAt D H p s l as) : Did D H p l as H s as := ⟨B, fun _ h => .inl h, fun _ h => h, fun _ _ e _ _ _ => e⟩
theorem Did.fresh (B : ShopAt D H p s l as) (hq : H q = none) : Did D H p l as (upd H q o) s as :=
  ⟨B.fresh hq, fun _ h => .inl h, fun _ h => h, fun b u e _ _ _ => by rw [upd_ne (ne_of_none e hq)]; exact e⟩
theorem Did.then (a : Did D H p l as H' s' as') (b : Did D H' p l as' H'' s'' as'') : Did D H p l as H'' s'' as'' := by
  refine ⟨b.shop, fun x hx => ?_, fun x hx => b.old x (a.old x hx), fun c o e h1 h2 h3 => ?_⟩
  · rcases b.new x hx with h | h
    · exact a.new x h
    · by_cases hm : x ∈ as
      · exact .inl hm
      · cases e : H x with
        | none => exact .inr rfl
        | some o =>
          by_cases h1 : x = p
          · obtain ⟨dx, hp⟩ := a.shop.obj
            rw [h1, hp] at h
            cases h
          · by_cases h2 : x = l
            · rw [h2, a.shop.lst] at h
              cases h
            · rw [a.kept x o e h1 h2 hm] at h
              cases h
  · refine b.kept c o (a.kept c o e h1 h2 h3) h1 h2 fun hm => ?_
    rcases a.new c hm with q | q
    · exact h3 q
    · rw [q] at e
      cases e
theorem Did.list (a : Did D H p l as H' s' as') (hq : H' q = none) : Did D H p l as (upd H' q o) s' as' := a.then (Did.fresh a.shop hq)
theorem Did.free (a : Did D H p l as H' s' as') (h : H' q = none) : H q = none := by
  cases e : H q with
  | none => rfl
  | some o =>
    by_cases h1 : q = p
    · obtain ⟨dx, hp⟩ := a.shop.obj
      rw [h1, hp] at h
      cases h
    · by_cases h2 : q = l
      · rw [h2, a.shop.lst] at h
        cases h
      · by_cases h4 : q ∈ as
        · obtain ⟨_, _, _, _, dx, hx⟩ := a.shop.mem (a.old q h4)
          rw [hx] at h
          cases h
        · rw [a.kept q o e h1 h2 h4] at h
          cases h
theorem ShopAt.setW (B : ShopAt D H p s l as) {dx : Addr} {s' : Mu41.State} (hf : s'.frames = s.frames) : Did D H p l as (upd H p (.ins D.C_Workshop dx (wf s'.cooling s'.time s'.vat s'.bought l))) s' as := by
  refine ⟨⟨⟨dx, upd_same⟩, by rw [upd_ne B.pl.symm]; exact B.lst, B.nd, by rw [hf]; exact B.len, fun j a f h1 h2 => ?_, ⟨by rw [hf]; exact B.good.few, by rw [hf]; exact B.good.low⟩⟩, fun _ h => .inl h, fun _ h => h, fun b o e h1 _ _ => by rw [upd_ne h1]; exact e⟩
  rw [hf] at h2
  obtain ⟨dy, ha⟩ := B.at_ j a f h1 h2
  exact ⟨dy, by rw [upd_ne (B.pa (List.mem_of_getElem? h1))]; exact ha⟩
theorem ShopAt.setF (B : ShopAt D H p s l as) {j : Nat} {a dx : Addr} (ha : as[j]? = some a) (f : Mu41.Frame) (h6 : f.layers ≤ 6) :
    Did D H p l as (upd H a (.ins D.C_Frame dx (ff f.wants f.layers f.cool (!f.there)))) { s with frames := s.frames.set j f } as := by
  have hm := List.mem_of_getElem? ha
  obtain ⟨dp, hp⟩ := B.obj
  refine ⟨⟨⟨dp, by rw [upd_ne (B.pa hm).symm]; exact hp⟩, by rw [upd_ne (B.la hm).symm]; exact B.lst, B.nd, by rw [List.length_set]; exact B.len, fun i b g h1 h2 => ?_, ⟨by rw [List.length_set]; exact B.good.few, fun g hg => ?_⟩⟩, fun _ h => .inl h, fun _ h => h, fun b o e _ _ h3 => by rw [upd_ne fun z => h3 (by rw [z]; exact hm)]; exact e⟩
  · by_cases hij : i = j
    · subst hij
      have e : b = a := Option.some.inj (h1.symm.trans ha)
      subst e
      have hl : i < s.frames.length := by
        rw [← B.len]
        exact (List.getElem?_eq_some_iff.mp ha).1
      have e2 : f = g := Option.some.inj ((List.getElem?_set_self hl).symm.trans h2)
      subst e2
      exact ⟨dx, upd_same⟩
    · have h2' : s.frames[i]? = some g := by
        rw [← h2]
        exact (List.getElem?_set_ne (fun z => hij z.symm)).symm
      obtain ⟨dy, hb⟩ := B.at_ i b g h1 h2'
      exact ⟨dy, by rw [upd_ne fun z => hij (nd_ix B.nd h1 (by rw [z]; exact ha))]; exact hb⟩
  · rcases List.mem_or_eq_of_mem_set hg with h | h
    · exact B.good.low g h
    · rw [h]
      exact h6
theorem ShopAt.add (B : ShopAt D H p s l as) {x : Addr} {f : Mu41.Frame} (hx : H x = none) (h6 : f.layers ≤ 6) (hl : s.frames.length < 6) (k : ∀ b o, H b = some o → H' b = some o) (hf : FrameAt D H' x f) :
    Did D H p l as (upd H' l (.lst (as.map V.ref ++ [.ref x]))) { s with frames := s.frames ++ [f] } (as ++ [x]) := by
  have hxs : x ∉ as := fun hm => by
    obtain ⟨_, _, _, _, dx, ha⟩ := B.mem hm
    rw [hx] at ha
    cases ha
  have nl : x ≠ l := (ne_of_none B.lst hx).symm
  obtain ⟨dp, hp⟩ := B.obj
  refine ⟨⟨⟨dp, by rw [upd_ne B.pl]; exact k _ _ hp⟩, ?_, ?_, ?_, fun i b g h1 h2 => ?_, ⟨?_, fun g hg => ?_⟩⟩, fun a ha => ?_, fun a ha => List.mem_append_left _ ha, fun b o e _ h2 _ => by rw [upd_ne h2]; exact k _ _ e⟩
  · rw [upd_same, List.map_append]
    rfl
  · refine List.nodup_append.mpr ⟨B.nd, by simp, fun a ha b hb => ?_⟩
    rw [List.mem_singleton.mp hb]
    exact fun z => hxs (by rw [← z]; exact ha)
  · rw [List.length_append, List.length_append, B.len]
    rfl
  · by_cases hi : i < as.length
    · rw [List.getElem?_append_left hi] at h1
      rw [List.getElem?_append_left (by rw [← B.len]; exact hi)] at h2
      obtain ⟨dy, hb⟩ := B.at_ i b g h1 h2
      exact ⟨dy, by rw [upd_ne (B.la (List.mem_of_getElem? h1))]; exact k _ _ hb⟩
    · rw [List.getElem?_append_right (by omega)] at h1
      rw [List.getElem?_append_right (by rw [← B.len]; omega), ← B.len] at h2
      obtain ⟨e1, e2⟩ := List.getElem?_eq_some_iff.mp h1
      have e0 : i - as.length = 0 := by
        have : i - as.length < 1 := e1
        omega
      rw [e0] at h1 h2
      have e3 : x = b := Option.some.inj h1
      have e4 : f = g := Option.some.inj h2
      subst e3 e4
      obtain ⟨dy, hb⟩ := hf
      exact ⟨dy, by rw [upd_ne nl]; exact hb⟩
  · rw [List.length_append]
    show s.frames.length + 1 ≤ 6
    omega
  · rcases List.mem_append.mp hg with h | h
    · exact B.good.low g h
    · rw [List.mem_singleton.mp h]
      exact h6
  · rcases List.mem_append.mp ha with h | h
    · exact .inl h
    · rw [List.mem_singleton.mp h]
      exact .inr hx
end
def did (s : Mu41.State) (c : Mu41.Call) : Mu41.State := ((Mu41.step (some s) c).1).getD s
def ans (s : Mu41.State) (c : Mu41.Call) : List Int := (Mu41.step (some s) c).2
def Out (D : Dat) (H : Hp) (p l : Addr) (as : List Addr) (s' : Mu41.State) (zs : List Int) (Q : VK) : Prop :=
  ∀ (H' : Hp) (as' : List Addr) (q : Addr), Did D H p l as H' s' as' → H q = none → H' q = some (.lst (zs.map V.int)) → Q (.ref q) H'
def spCall (D : Dat) (g : Nat → Mu41.Call) : Sp := fun vs H Q _ => ∃ (p : Addr) (n : Nat) (s : Mu41.State) (l : Addr) (as : List Addr), vs = [.ref p, .int n] ∧ ShopAt D H p s l as ∧ Out D H p l as (did s (g n)) (ans s (g n)) Q
theorem Out.eq {D : Dat} {H : Hp} {p l : Addr} {as : List Addr} {s s' : Mu41.State} {c : Mu41.Call} {zs : List Int} {Q : VK} (k : Out D H p l as (did s c) (ans s c) Q) (e : Mu41.step (some s) c = (some s', zs)) : Out D H p l as s' zs Q := by
  unfold did ans at k
  rw [e] at k
  exact k
theorem line1 : ([V.non] : List V).length ≤ sizeLine := by show 1 ≤ sizeLine; decide
theorem ndec {c : Prop} [Decidable c] (h : ¬ decide c = true) : ¬ c := fun z => h (decide_eq_true z)
theorem ydec {c : Prop} [Decidable c] (h : decide c = true) : c := of_decide_eq_true h
theorem Out.same {D : Dat} {H : Hp} {p l q : Addr} {as : List Addr} {s s' : Mu41.State} {zs : List Int} {Q : VK} (k : Out D H p l as s' zs Q) (B : ShopAt D H p s l as) (hq : H q = none) (e : s' = s) : Q (.ref q) (upd H q (.lst (zs.map V.int))) := by
  subst e
  exact k _ as q (Did.fresh B hq) hq upd_same
theorem Out.then {D : Dat} {H H' : Hp} {p l q : Addr} {as as' : List Addr} {s' : Mu41.State} {zs : List Int} {Q : VK} (k : Out D H p l as s' zs Q) (d : Did D H p l as H' s' as') (hq : H' q = none) : Q (.ref q) (upd H' q (.lst (zs.map V.int))) :=
  k _ as' q (d.list hq) (d.free hq) upd_same
end DV
end
noncomputable section
set_option Elab.async false
set_option linter.all false
set_option maxRecDepth 100000
set_option maxHeartbeats 4000000
namespace DV
open PySem PySem.Spec PyProof.Rows L2
section
variable {P : Program} {w : World} {K : PySem.W.Frag} {mg : Str → Option Value} {base : Heap} {D : Dat}
theorem ok_Workshop_add_frame (T : Txt K mg D) : FnOk P w K mg base CX0 3 D.f_Workshop_add_frame D.fd_Workshop_add_frame ["self", "layers"] (spCall D .frame) := by
  refine T.F_Workshop_add_frame.ok sc_Workshop_add_frame (fun vs H Q E h => ?_) (fun cdv A outer s H vs Q E hr h => ?_)
  · obtain ⟨p, n, st, l, as, rfl, _⟩ := h
    rfl
  · obtain ⟨p, n, st, l, as, rfl, B, k⟩ := h
    obtain ⟨dx, hp⟩ := B.obj
    refine ⟨_, (pss_cons (ps_if (PW.pt (pw_or (pt_cmpR op_lt (pv 1) pe_int (nomark _)) (pw_or1 (pt_cmpR op_gt (pv 1) (pe_g rfl T.g_MOST_LAYERS) (nomark _)))))
      (pss_one (ps_ret (pe_lst (pa_cons (pe_g rfl T.g_OUT_OF_RANGE) pa_nil))))
      pss_nil)
      (pss_cons (ps_if (pt_cmpR op_ge (pe_callB call_len_seq rfl T.n_len PySem.boot_len (pa_cons (pe_fld (pv 0) rfl) pa_nil)) (pe_g rfl T.g_MOST_FRAMES) (nomark _))
      (pss_one (ps_ret (pe_lst (pa_cons (pe_g rfl T.g_NO_PLACE) pa_nil))))
      pss_nil)
      (pss_cons (ps_expr (pe_bm PySem.F.plainAttrs_list PySem.F.slot_list_append PySem.F.type_list_append mt_append (pe_fld (pv 0) rfl) (pa_cons (pe_make T.mk_Frame (ok_Frame_init T) (hr.mono (by decide)) rfl T.c_Frame T.b_Frame_init .nil pass0 (pa_cons (pv 1) pa_nil)) pa_nil)))
      (pss_one (ps_ret (pe_lst (pa_cons (pe_op op_sub (pe_callB call_len_seq rfl T.n_len PySem.boot_len (pa_cons (pe_fld (pv 0) rfl) pa_nil)) pe_int) pa_nil))))))), ?_⟩
    have bad : n < 1 ∨ 6 < n → tRet (tLst (tCons (tC (.int (-1))) tNil)) { nx := fun _ H' => Q .non H', rt := Q } (start ["self", "layers"] [.ref p, .int n]) H := fun hc =>
      ⟨line1, fun q hq => (k.eq (s' := st) (zs := [-1]) (if_pos hc)).same B hq rfl⟩
    refine ⟨_, rfl, _, _, rfl, rfl, _, rfl, ite2 (fun hc => iteT (bad (.inl (by have := ydec hc; omega)))) (fun hc => ?_)⟩
    refine ⟨_, rfl, _, _, rfl, rfl, _, rfl, ite2 (fun hc2 => (bad (.inr (by have := ydec hc2; omega)))) (fun hc2 => ?_)⟩
    have h1 : ¬ (n < 1 ∨ 6 < n) := by
      have a1 := ndec hc
      have a2 := ndec hc2
      omega
    have e1 : Mu41.step (some st) (.frame n) = if 6 ≤ st.frames.length then (some st, [-5]) else (some { st with frames := st.frames ++ [⟨n, 0, 0, true⟩] }, [(st.frames.length : Int)]) := if_neg h1
    refine ⟨_, rfl, p, _, dx, _, _, rfl, hp, T.cl_Workshop, T.na_Workshop_frames, wf_frames _ _ _ _ _, l, _, rfl, .inl (SqL.of B.lst), _, _, rfl, rfl, _, rfl, ite2 (fun hc3 => ?_) (fun hc3 => ?_)⟩
    · have h3 : 6 ≤ st.frames.length := by
        have := ydec hc3
        rw [List.length_map, B.len] at this
        omega
      exact ⟨line1, fun q hq => (k.eq (s' := st) (zs := [-5]) (e1.trans (if_pos h3))).same B hq rfl⟩
    · have h3 : ¬ 6 ≤ st.frames.length := by
        have := ndec hc3
        rw [List.length_map, B.len] at this
        omega
      have k' := k.eq (e1.trans (if_neg h3))
      refine ⟨_, rfl, p, _, dx, _, _, rfl, hp, T.cl_Workshop, T.na_Workshop_frames, wf_frames _ _ _ _ _, .inl ⟨rfl, _, SqL.of B.lst⟩, _, rfl, ?_⟩
      intro x dy hx hy hxy
      refine ⟨x, dy, n, rfl, upd_same, fun H1 hf k1 => ⟨rfl, ?_⟩⟩
      have s1 : Same H H1 := Same.made hx hy k1
      refine ⟨l, _, _, rfl, rfl, s1 _ _ B.lst, ?_, ?_⟩
      · rw [List.length_map, B.len]
        exact small1000 (by omega)
      · have d := B.add hx (by show 0 ≤ 6; decide) (by omega) s1 hf
        obtain ⟨dz, hz⟩ := d.shop.obj
        refine ⟨_, rfl, p, _, dz, _, _, rfl, hz, T.cl_Workshop, T.na_Workshop_frames, wf_frames _ _ _ _ _, l, _, rfl, .inl (SqL.of d.shop.lst), _, _, rfl, rfl, line1, fun q hq => ?_⟩
        have e2 : (((as ++ [x]).map V.ref).length : Int) - 1 = (st.frames.length : Int) := by
          rw [List.length_map, List.length_append, B.len]
          show ((st.frames.length + 1 : Nat) : Int) - 1 = _
          omega
        have := k'.then d hq
        show Q (.ref q) (upd _ q (.lst [.int ((((as ++ [x]).map V.ref).length : Int) - 1)]))
        rw [e2]
        exact this
theorem ok_Workshop_buy_wax (T : Txt K mg D) : FnOk P w K mg base CX0 1 D.f_Workshop_buy_wax D.fd_Workshop_buy_wax ["self", "measures"] (spCall D .wax) := by
  refine T.F_Workshop_buy_wax.ok sc_Workshop_buy_wax (fun vs H Q E h => ?_) (fun cdv A outer s H vs Q E hr h => ?_)
  · obtain ⟨p, n, st, l, as, rfl, _⟩ := h
    rfl
  · obtain ⟨p, n, st, l, as, rfl, B, k⟩ := h
    obtain ⟨dx, hp⟩ := B.obj
    refine ⟨_, (pss_cons (ps_if (PW.pt (pw_or (pt_cmpR op_lt (pv 1) pe_int (nomark _)) (pw_or1 (pt_cmpR op_gt (pe_op op_add (pe_fld (pv 0) rfl) (pv 1)) (pe_g rfl T.g_MOST_BOUGHT) (nomark _)))))
      (pss_one (ps_ret (pe_lst (pa_cons (pe_g rfl T.g_OUT_OF_RANGE) pa_nil))))
      pss_nil)
      (pss_cons (ps_fld (pv 0) (pe_op op_add (pe_fld (pv 0) rfl) (pv 1)) rfl)
      (pss_cons (ps_fld (pv 0) (pe_op op_add (pe_fld (pv 0) rfl) (pv 1)) rfl)
      (pss_one (ps_ret (pe_lst (pa_cons (pe_fld (pv 0) rfl) pa_nil))))))), ?_⟩
    have bad : n < 1 ∨ 1000 < st.bought + n → tRet (tLst (tCons (tC (.int (-1))) tNil)) { nx := fun _ H' => Q .non H', rt := Q } (start ["self", "layers"] [.ref p, .int n]) H := fun hc =>
      ⟨line1, fun q hq => (k.eq (s' := st) (zs := [-1]) (if_pos hc)).same B hq rfl⟩
    refine ⟨_, rfl, _, _, rfl, rfl, _, rfl, ite2 (fun hc => iteT (bad (.inl (by have := ydec hc; omega)))) (fun hc => ?_)⟩
    refine ⟨_, rfl, p, _, dx, _, _, rfl, hp, T.cl_Workshop, T.na_Workshop_bought, wf_bought _ _ _ _ _, _, rfl, _, _, rfl, rfl, _, _, rfl, rfl, _, rfl, ite2 (fun hc2 => (bad (.inr (by have := ydec hc2; omega)))) (fun hc2 => ?_)⟩
    have h1 : ¬ (n < 1 ∨ 1000 < st.bought + n) := by
      have a1 := ndec hc
      have a2 := ndec hc2
      omega
    have k' := k.eq (s' := { st with vat := st.vat + n, bought := st.bought + n }) (zs := [((st.vat + n : Nat) : Int)]) (if_neg h1)
    refine ⟨_, rfl, p, _, dx, _, _, rfl, hp, T.cl_Workshop, T.na_Workshop_bought, wf_bought _ _ _ _ _, _, rfl, _, _, rfl, rfl, _, rfl, p, _, dx, _, rfl, hp, T.cl_Workshop, T.na_Workshop_bought, wf_len _ _ _ _ _, ?_⟩
    refine ⟨_, rfl, p, _, dx, _, _, rfl, upd_same, T.cl_Workshop, T.na_Workshop_vat, wf_vat _ _ _ _ _, _, rfl, _, _, rfl, rfl, _, rfl, p, _, dx, _, rfl, upd_same, T.cl_Workshop, T.na_Workshop_vat, wf_len _ _ _ _ _, ?_⟩
    refine ⟨_, rfl, p, _, dx, _, _, rfl, upd_same, T.cl_Workshop, T.na_Workshop_vat, wf_vat _ _ _ _ _, line1, fun q hq => ?_⟩
    rw [upd_upd] at hq ⊢
    exact k'.then (B.setW (dx := dx) (s' := { st with vat := st.vat + n, bought := st.bought + n }) rfl) hq
theorem ok_Workshop_wait (T : Txt K mg D) : FnOk P w K mg base CX0 1 D.f_Workshop_wait D.fd_Workshop_wait ["self", "minutes"] (spCall D .wait) := by
  refine T.F_Workshop_wait.ok sc_Workshop_wait (fun vs H Q E h => ?_) (fun cdv A outer s H vs Q E hr h => ?_)
  · obtain ⟨p, n, st, l, as, rfl, _⟩ := h
    rfl
  · obtain ⟨p, n, st, l, as, rfl, B, k⟩ := h
    obtain ⟨dx, hp⟩ := B.obj
    refine ⟨_, (pss_cons (ps_if (PW.pt (pw_or (pt_cmpR op_lt (pv 1) pe_int (nomark _)) (pw_or1 (pt_cmpR op_gt (pv 1) (pe_g rfl T.g_LONGEST_WAIT) (nomark _)))))
      (pss_one (ps_ret (pe_lst (pa_cons (pe_g rfl T.g_OUT_OF_RANGE) pa_nil))))
      pss_nil)
      (pss_cons (ps_if (pt_cmpR op_gt (pe_op op_add (pe_fld (pv 0) rfl) (pv 1)) (pe_g rfl T.g_LAST_MINUTE) (nomark _))
      (pss_one (ps_ret (pe_lst (pa_cons (pe_g rfl T.g_TOO_LATE) pa_nil))))
      pss_nil)
      (pss_cons (ps_fld (pv 0) (pe_op op_add (pe_fld (pv 0) rfl) (pv 1)) rfl)
      (pss_one (ps_ret (pe_lst (pa_cons (pe_fld (pv 0) rfl) pa_nil))))))), ?_⟩
    have bad : n < 1 ∨ 100 < n → tRet (tLst (tCons (tC (.int (-1))) tNil)) { nx := fun _ H' => Q .non H', rt := Q } (start ["self", "layers"] [.ref p, .int n]) H := fun hc =>
      ⟨line1, fun q hq => (k.eq (s' := st) (zs := [-1]) (if_pos hc)).same B hq rfl⟩
    refine ⟨_, rfl, _, _, rfl, rfl, _, rfl, ite2 (fun hc => iteT (bad (.inl (by have := ydec hc; omega)))) (fun hc => ?_)⟩
    refine ⟨_, rfl, _, _, rfl, rfl, _, rfl, ite2 (fun hc2 => (bad (.inr (by have := ydec hc2; omega)))) (fun hc2 => ?_)⟩
    have h1 : ¬ (n < 1 ∨ 100 < n) := by
      have a1 := ndec hc
      have a2 := ndec hc2
      omega
    have e1 : Mu41.step (some st) (.wait n) = if 100000 < st.time + n then (some st, [-8]) else (some { st with time := st.time + n }, [((st.time + n : Nat) : Int)]) := if_neg h1
    refine ⟨_, rfl, p, _, dx, _, _, rfl, hp, T.cl_Workshop, T.na_Workshop_minute, wf_minute _ _ _ _ _, _, rfl, _, _, rfl, rfl, _, _, rfl, rfl, _, rfl, ite2 (fun hc3 => ?_) (fun hc3 => ?_)⟩
    · exact ⟨line1, fun q hq => (k.eq (s' := st) (zs := [-8]) (e1.trans (if_pos (by have := ydec hc3; omega)))).same B hq rfl⟩
    · have k' := k.eq (e1.trans (if_neg (by have := ndec hc3; omega)))
      refine ⟨_, rfl, p, _, dx, _, _, rfl, hp, T.cl_Workshop, T.na_Workshop_minute, wf_minute _ _ _ _ _, _, rfl, _, _, rfl, rfl, _, rfl, p, _, dx, _, rfl, hp, T.cl_Workshop, T.na_Workshop_minute, wf_len _ _ _ _ _, ?_⟩
      refine ⟨_, rfl, p, _, dx, _, _, rfl, upd_same, T.cl_Workshop, T.na_Workshop_minute, wf_minute _ _ _ _ _, line1, fun q hq => ?_⟩
      exact k'.then (B.setW (dx := dx) (s' := { st with time := st.time + n }) rfl) hq
end
end DV
end
noncomputable section
set_option Elab.async false
set_option linter.all false
set_option maxRecDepth 100000
set_option maxHeartbeats 4000000
namespace DV
open PySem PySem.Spec PyProof.Rows L2
def spStand (D : Dat) : Sp := fun vs H Q _ => ∃ (p : Addr) (n : Nat) (s : Mu41.State) (l : Addr) (as : List Addr), vs = [.ref p, .int n] ∧ ShopAt D H p s l as ∧ (Mu41.frame s n = none → Q .non H) ∧
  (∀ (a : Addr) (f : Mu41.Frame), as[n]? = some a → s.frames[n]? = some f → Mu41.frame s n = some f → Q (.ref a) H)
def spTouch (D : Dat) (c : Mu41.State → Mu41.Frame → Prop) (g : Mu41.State → Mu41.Frame → Mu41.Frame) (v : Mu41.State → Mu41.Frame → Nat) : Sp := fun vs H Q _ => ∃ (p a : Addr) (s : Mu41.State) (l : Addr) (as : List Addr) (j : Nat) (f : Mu41.Frame), vs = [.ref p, .ref a] ∧ ShopAt D H p s l as ∧
  as[j]? = some a ∧ s.frames[j]? = some f ∧ c s f ∧ ∀ H' : Hp, Did D H p l as H' { s with frames := s.frames.set j (g s f), vat := v s f } as → Q .non H'
def spMelt (D : Dat) : Sp := spTouch D (fun _ _ => True) (fun _ f => { f with layers := f.layers - 1 }) (fun s f => s.vat + f.layers)
def spPut (D : Dat) : Sp := spTouch D (fun s f => f.layers < 6 ∧ f.layers + 1 ≤ s.vat) (fun _ f => { f with layers := f.layers + 1 }) (fun s f => s.vat - (f.layers + 1))
theorem set_same {α : Type} : ∀ {l : List α} {j : Nat} {x : α}, l[j]? = some x → l.set j x = l
  | [], j, x, h => by simp at h
  | a :: l, 0, x, h => by
    have e : a = x := Option.some.inj h
    subst e
    rfl
  | a :: l, j + 1, x, h => by
    show a :: l.set j x = a :: l
    rw [set_same (l := l) (j := j) h]
section
variable {P : Program} {w : World} {K : PySem.W.Frag} {mg : Str → Option Value} {base : Heap} {D : Dat}
theorem ok_Workshop_standing_frame (T : Txt K mg D) : FnOk P w K mg base CX0 1 D.f_Workshop_standing_frame D.fd_Workshop_standing_frame ["self", "number"] (spStand D) := by
  refine T.F_Workshop_standing_frame.ok sc_Workshop_standing_frame (fun vs H Q E h => ?_) (fun cdv A outer s H vs Q E hr h => ?_)
  · obtain ⟨p, n, st, l, as, rfl, _⟩ := h
    rfl
  · obtain ⟨p, n, st, l, as, rfl, B, k0, k1⟩ := h
    obtain ⟨dx, hp⟩ := B.obj
    refine ⟨_, (pss_cons (ps_if (pt_cmpR op_ge (pv 1) (pe_callB call_len_seq rfl T.n_len PySem.boot_len (pa_cons (pe_fld (pv 0) rfl) pa_nil)) (nomark _))
      (pss_one (ps_ret pe_non))
      pss_nil)
      (pss_cons (ps_set (i := 2) sc_Workshop_standing_frame.nd rfl (Or.inl rfl) (pe_ix ix_list (pe_fld (pv 0) rfl) (pv 1) (fun _ _ => rfl)))
      (pss_cons (ps_if (pt_truth (pe_fld (pv 2) rfl) (fun _ => rfl))
      (pss_one (ps_ret pe_non))
      pss_nil)
      (pss_one (ps_ret (pv 2)))))), ?_⟩
    refine ⟨_, rfl, _, rfl, p, _, dx, _, _, rfl, hp, T.cl_Workshop, T.na_Workshop_frames, wf_frames _ _ _ _ _, l, _, rfl, .inl (SqL.of B.lst), _, _, rfl, rfl, _, rfl, ite2 (fun hc => ?_) (fun hc => ?_)⟩
    · have hn : st.frames.length ≤ n := by
        have := ydec hc
        rw [List.length_map, B.len] at this
        omega
      refine k0 ?_
      unfold Mu41.frame
      rw [List.getElem?_eq_none hn]
    · have hn : n < st.frames.length := by
        have := ndec hc
        rw [List.length_map, B.len] at this
        omega
      obtain ⟨a, ha, dy, hy⟩ := B.frm (List.getElem?_eq_getElem hn)
      refine ⟨_, rfl, p, _, dx, _, _, rfl, hp, T.cl_Workshop, T.na_Workshop_frames, wf_frames _ _ _ _ _, _, rfl, l, _, _, _, rfl, rfl, SqL.of B.lst, atI_nat (v := V.ref a) (by rw [List.getElem?_map, ha]; rfl), ?_⟩
      refine ⟨_, rfl, a, _, dy, _, _, rfl, hy, T.cl_Frame, T.na_Frame_sold, ff_sold _ _ _ _, _, rfl, ite2 (fun hs => ?_) (fun hs => ?_)⟩
      · refine k0 ?_
        unfold Mu41.frame
        rw [List.getElem?_eq_getElem hn]
        cases e : (st.frames[n]).there with
        | true => rw [e] at hs; cases hs
        | false => simp [e]
      · refine ⟨_, rfl, k1 a _ ha (List.getElem?_eq_getElem hn) ?_⟩
        unfold Mu41.frame
        rw [List.getElem?_eq_getElem hn]
        cases e : (st.frames[n]).there with
        | true => simp [e]
        | false => rw [e] at hs; exact absurd rfl hs
theorem ok_Workshop_melt_layer (T : Txt K mg D) : FnOk P w K mg base CX0 1 D.f_Workshop_melt_layer D.fd_Workshop_melt_layer ["self", "frame"] (spMelt D) := by
  refine T.F_Workshop_melt_layer.ok sc_Workshop_melt_layer (fun vs H Q E h => ?_) (fun cdv A outer s H vs Q E hr h => ?_)
  · obtain ⟨p, a, st, l, as, j, f, rfl, _⟩ := h
    rfl
  · obtain ⟨p, a, st, l, as, j, f, rfl, B, ha, hf, _, k⟩ := h
    obtain ⟨dx, hp⟩ := B.obj
    obtain ⟨dy, hy⟩ := B.at_ j a f ha hf
    have npa : a ≠ p := B.pa (List.mem_of_getElem? ha)
    refine ⟨_, (pss_one (ps_if (pt_cmpR op_gt (pe_fld (pv 1) rfl) pe_int (nomark _))
      (pss_cons (ps_fld (pv 0) (pe_op op_add (pe_fld (pv 0) rfl) (pe_fld (pv 1) rfl)) rfl)
      (pss_one (ps_fld (pv 1) (pe_op op_sub (pe_fld (pv 1) rfl) pe_int) rfl)))
      pss_nil)), ?_⟩
    refine ⟨_, rfl, a, _, dy, _, _, rfl, hy, T.cl_Frame, T.na_Frame_layers, ff_layers _ _ _ _, _, _, rfl, rfl, _, rfl, ite2 (fun hc => ?_) (fun hc => ?_)⟩
    · have h0 : 0 < f.layers := by
        have := ydec hc
        omega
      have d1 := B.setW (dx := dx) (s' := { st with vat := st.vat + f.layers }) rfl
      refine ⟨_, rfl, p, _, dx, _, _, rfl, hp, T.cl_Workshop, T.na_Workshop_vat, wf_vat _ _ _ _ _, _, rfl, a, _, dy, _, _, rfl, hy, T.cl_Frame, T.na_Frame_layers, ff_layers _ _ _ _, _, _, rfl, rfl, _, rfl, p, _, dx, _, rfl, hp, T.cl_Workshop, T.na_Workshop_vat, wf_len _ _ _ _ _, ?_⟩
      refine ⟨_, rfl, a, _, dy, _, _, rfl, (by rw [upd_ne npa]; exact hy), T.cl_Frame, T.na_Frame_layers, ff_layers _ _ _ _, _, _, rfl, rfl, _, rfl, a, _, dy, _, rfl, (by rw [upd_ne npa]; exact hy), T.cl_Frame, T.na_Frame_layers, ff_len _ _ _ _, ?_⟩
      have d2 := d1.shop.setF (dx := dy) ha { f with layers := f.layers - 1 } (by
        have := B.good.low f (List.mem_of_getElem? hf)
        show f.layers - 1 ≤ 6
        omega)
      have e : ((f.layers - 1 : Nat) : Int) = (f.layers : Int) - 1 := by omega
      have d3 := d1.then d2
      rw [show ({ f with layers := f.layers - 1 } : Mu41.Frame).layers = f.layers - 1 from rfl, e] at d3
      exact k _ d3
    · have h0 : f.layers = 0 := by
        have := ndec hc
        omega
      have e : { st with frames := st.frames.set j { f with layers := f.layers - 1 }, vat := st.vat + f.layers } = st := by
        have e1 : ({ f with layers := f.layers - 1 } : Mu41.Frame) = f := by
          cases f
          simp at h0
          subst h0
          rfl
        rw [e1, set_same hf, h0]
        rfl
      have := k H (by rw [e]; exact Did.refl B)
      exact this
theorem ok_Workshop_put_layer (T : Txt K mg D) : FnOk P w K mg base CX0 1 D.f_Workshop_put_layer D.fd_Workshop_put_layer ["self", "frame"] (spPut D) := by
  refine T.F_Workshop_put_layer.ok sc_Workshop_put_layer (fun vs H Q E h => ?_) (fun cdv A outer s H vs Q E hr h => ?_)
  · obtain ⟨p, a, st, l, as, j, f, rfl, _⟩ := h
    rfl
  · obtain ⟨p, a, st, l, as, j, f, rfl, B, ha, hf, ⟨h6, hv⟩, k⟩ := h
    obtain ⟨dx, hp⟩ := B.obj
    obtain ⟨dy, hy⟩ := B.at_ j a f ha hf
    have npa : a ≠ p := B.pa (List.mem_of_getElem? ha)
    refine ⟨_, (pss_cons (ps_fld (pv 1) (pe_op op_add (pe_fld (pv 1) rfl) pe_int) rfl)
      (pss_one (ps_fld (pv 0) (pe_op op_sub (pe_fld (pv 0) rfl) (pe_fld (pv 1) rfl)) rfl))), ?_⟩
    refine ⟨_, rfl, a, _, dy, _, _, rfl, hy, T.cl_Frame, T.na_Frame_layers, ff_layers _ _ _ _, _, _, rfl, rfl, _, rfl, a, _, dy, _, rfl, hy, T.cl_Frame, T.na_Frame_layers, ff_len _ _ _ _, ?_⟩
    refine ⟨_, rfl, p, _, dx, _, _, rfl, (by rw [upd_ne npa.symm]; exact hp), T.cl_Workshop, T.na_Workshop_vat, wf_vat _ _ _ _ _, _, rfl, a, _, dy, _, _, rfl, upd_same, T.cl_Frame, T.na_Frame_layers, ff_layers _ _ _ _, _, _, rfl, rfl, _, rfl, p, _, dx, _, rfl, (by rw [upd_ne npa.symm]; exact hp), T.cl_Workshop, T.na_Workshop_vat, wf_len _ _ _ _ _, ?_⟩
    have d1 := B.setF (dx := dy) ha { f with layers := f.layers + 1 } (by show f.layers + 1 ≤ 6; omega)
    have d2 := d1.then (d1.shop.setW (dx := dx) (s' := { st with frames := st.frames.set j { f with layers := f.layers + 1 }, vat := st.vat - (f.layers + 1) }) rfl)
    have e : ((st.vat - (f.layers + 1) : Nat) : Int) = (st.vat : Int) - ((f.layers : Int) + 1) := by omega
    rw [show ({ st with frames := st.frames.set j { f with layers := f.layers + 1 }, vat := st.vat - (f.layers + 1) } : Mu41.State).vat = st.vat - (f.layers + 1) from rfl, e] at d2
    exact k _ d2
end
end DV
end
noncomputable section
set_option Elab.async false
set_option linter.all false
set_option maxRecDepth 100000
set_option maxHeartbeats 4000000
namespace DV
open PySem PySem.Spec PyProof.Rows L2
theorem isN {A B : Prop} (h : A) : if decide (V.non = V.non) = true then A else B := ite2 (fun _ => h) (fun z => absurd (decide_eq_true rfl) z)
theorem notN {a : Addr} {A B : Prop} (h : B) : if decide (V.ref a = V.non) = true then A else B := ite2 (fun z => nomatch (of_decide_eq_true z)) (fun _ => h)
theorem nat_pos {a b : Nat} : (0 : Int) < ((a - b : Nat) : Int) ↔ ¬ a ≤ b := by omega
section
variable {P : Program} {w : World} {K : PySem.W.Frag} {mg : Str → Option Value} {base : Heap} {D : Dat}
theorem ok_Workshop_dip (T : Txt K mg D) : FnOk P w K mg base CX0 2 D.f_Workshop_dip D.fd_Workshop_dip ["self", "number"] (spCall D .dip) := by
  refine T.F_Workshop_dip.ok sc_Workshop_dip (fun vs H Q E h => ?_) (fun cdv A outer s H vs Q E hr h => ?_)
  · obtain ⟨p, n, st, l, as, rfl, _⟩ := h
    rfl
  · obtain ⟨p, n, st, l, as, rfl, B, k⟩ := h
    obtain ⟨dx, hp⟩ := B.obj
    refine ⟨_, (pss_cons (ps_set (i := 2) sc_Workshop_dip.nd rfl (Or.inl rfl) (pe_meth (pv 0) T.cl_Workshop T.m_Workshop_standing_frame (ok_Workshop_standing_frame T) (hr.mono (by decide)) T.b_Workshop_standing_frame .nil pass0 (pa_cons (pv 1) pa_nil)))
      (pss_cons (ps_if (pt_cmpR op_isN (pv 2) pe_non (nomark _))
      (pss_one (ps_ret (pe_lst (pa_cons (pe_g rfl T.g_NO_SUCH_FRAME) pa_nil))))
      pss_nil)
      (pss_cons (ps_if (pt_cmpR op_ge (pe_fld (pv 0) rfl) (pe_g rfl T.g_LAST_MINUTE) (nomark _))
      (pss_one (ps_ret (pe_lst (pa_cons (pe_g rfl T.g_TOO_LATE) pa_nil))))
      pss_nil)
      (pss_cons (ps_if (pt_cmpR op_gt (pe_meth (pv 2) T.cl_Frame T.m_Frame_warm_minutes (ok_Frame_warm_minutes T) (hr.mono (by decide)) T.b_Frame_warm_minutes .nil pass0 (pa_cons (pe_fld (pv 0) rfl) pa_nil)) pe_int (nomark _))
      (pss_one (ps_expr (pe_meth (pv 0) T.cl_Workshop T.m_Workshop_melt_layer (ok_Workshop_melt_layer T) (hr.mono (by decide)) T.b_Workshop_melt_layer .nil pass0 (pa_cons (pv 2) pa_nil))))
      (pss_one (ps_if (pt_cmpR op_ge (pe_fld (pv 2) rfl) (pe_g rfl T.g_MOST_LAYERS) (nomark _))
      (pss_one (ps_ret (pe_lst (pa_cons (pe_g rfl T.g_FULL_FRAME) pa_nil))))
      (pss_one (ps_if (pt_cmpR op_lt (pe_fld (pv 0) rfl) (pe_op op_add (pe_fld (pv 2) rfl) pe_int) (nomark _))
      (pss_one (ps_ret (pe_lst (pa_cons (pe_g rfl T.g_TOO_LITTLE_WAX) pa_nil))))
      (pss_one (ps_expr (pe_meth (pv 0) T.cl_Workshop T.m_Workshop_put_layer (ok_Workshop_put_layer T) (hr.mono (by decide)) T.b_Workshop_put_layer .nil pass0 (pa_cons (pv 2) pa_nil)))))))))
      (pss_cons (ps_fld (pv 0) (pe_op op_add (pe_fld (pv 0) rfl) pe_int) rfl)
      (pss_cons (ps_fld (pv 2) (pe_op op_add (pe_fld (pv 0) rfl) (pe_fld (pv 0) rfl)) rfl)
      (pss_one (ps_ret (pe_lst (pa_cons (pe_fld (pv 2) rfl) pa_nil)))))))))), ?_⟩
    have e0 : Mu41.step (some st) (.dip n) = (some (Mu41.doDip st n).1, (Mu41.doDip st n).2) := rfl
    refine ⟨_, rfl, p, dx, _, rfl, hp, rfl, _, rfl, p, n, st, l, as, rfl, B, fun h0 => ?_, fun a f ha hf h1 => ?_⟩
    · have e1 : Mu41.doDip st n = (st, [-2]) := by unfold Mu41.doDip; rw [h0]
      refine ⟨_, rfl, rfl, _, rfl, isN ⟨line1, fun q hq => (k.eq (s' := st) (zs := [-2]) (by rw [e0, e1])).same B hq rfl⟩⟩
    · have e1 : Mu41.doDip st n = if 100000 ≤ st.time then (st, [-8]) else if f.cool ≤ st.time ∧ 6 ≤ f.layers then (st, [-7]) else if f.cool ≤ st.time ∧ st.vat < f.layers + 1 then (st, [-6]) else (Mu41.dipped st n f, [((((Mu41.dipped st n f).frames[n]?.map fun (x : Mu41.Frame) => x.layers).getD 0 : Nat) : Int)]) := by
        unfold Mu41.doDip
        rw [h1]
        rfl
      obtain ⟨dy, hy⟩ := B.at_ n a f ha hf
      have hn : n < st.frames.length := (List.getElem?_eq_some_iff.mp hf).1
      have npa : a ≠ p := B.pa (List.mem_of_getElem? ha)
      have lo := B.good.low f (List.mem_of_getElem? hf)
      refine ⟨_, rfl, rfl, _, rfl, notN ?_⟩
      refine ⟨_, rfl, p, _, dx, _, _, rfl, hp, T.cl_Workshop, T.na_Workshop_minute, wf_minute _ _ _ _ _, _, _, rfl, rfl, _, rfl, ite2 (fun hc => ?_) (fun hc => ?_)⟩
      · have hl : 100000 ≤ st.time := by
          have := ydec hc
          omega
        exact ⟨line1, fun q hq => (k.eq (s' := st) (zs := [-8]) (by rw [e0, e1, if_pos hl])).same B hq rfl⟩
      · have hl : ¬ 100000 ≤ st.time := by
          have := ndec hc
          omega
        rw [if_neg hl] at e1
        refine ⟨_, rfl, a, dy, _, rfl, hy, rfl, _, rfl, p, _, dx, _, _, rfl, hp, T.cl_Workshop, T.na_Workshop_minute, wf_minute _ _ _ _ _, a, st.time, f, rfl, ⟨dy, hy⟩, _, _, rfl, rfl, _, rfl, ite2 (fun hc2 => ?_) (fun hc2 => ?_)⟩
        · have hw : ¬ f.cool ≤ st.time := nat_pos.mp (ydec hc2)
          rw [if_neg (fun z => hw z.1), if_neg (fun z => hw z.1)] at e1
          refine ⟨_, rfl, p, dx, _, rfl, hp, rfl, _, rfl, p, a, st, l, as, n, f, rfl, B, ha, hf, trivial, fun H1 d1 => ?_⟩
          obtain ⟨dx1, hp1⟩ := d1.shop.obj
          obtain ⟨dy1, hy1⟩ := d1.shop.at_ n a _ ha (List.getElem?_set_self hn)
          have d2 := d1.then (d1.shop.setW (dx := dx1) (s' := { st with frames := st.frames.set n { f with layers := f.layers - 1 }, vat := st.vat + f.layers, time := st.time + 1 }) rfl)
          have d3 := d2.then (d2.shop.setF (dx := dy1) ha { f with layers := f.layers - 1, cool := st.time + 1 + st.cooling } (by show f.layers - 1 ≤ 6; omega))
          refine ⟨_, rfl, p, _, dx1, _, _, rfl, hp1, T.cl_Workshop, T.na_Workshop_minute, wf_minute _ _ _ _ _, _, _, rfl, rfl, _, rfl, p, _, dx1, _, rfl, hp1, T.cl_Workshop, T.na_Workshop_minute, wf_len _ _ _ _ _, ?_⟩
          refine ⟨_, rfl, p, _, dx1, _, _, rfl, upd_same, T.cl_Workshop, T.na_Workshop_minute, wf_minute _ _ _ _ _, _, rfl, p, _, dx1, _, _, rfl, upd_same, T.cl_Workshop, T.na_Workshop_cools, wf_cools _ _ _ _ _, _, _, rfl, rfl, _, rfl, a, _, dy1, _, rfl, (by rw [upd_ne npa]; exact hy1), T.cl_Frame, T.na_Frame_cool_from, ff_len _ _ _ _, ?_⟩
          refine ⟨_, rfl, a, _, dy1, _, _, rfl, upd_same, T.cl_Frame, T.na_Frame_layers, ff_layers _ _ _ _, line1, fun q hq => ?_⟩
          have e2 : Mu41.dipped st n f = { st with frames := (st.frames.set n { f with layers := f.layers - 1 }).set n { f with layers := f.layers - 1, cool := st.time + 1 + st.cooling }, vat := st.vat + f.layers, time := st.time + 1 } := by
            unfold Mu41.dipped Mu41.put
            rw [if_neg hw, List.set_set, Nat.add_right_comm st.time 1 st.cooling]
          have e3 : ((Mu41.dipped st n f).frames[n]?.map fun (x : Mu41.Frame) => x.layers).getD 0 = f.layers - 1 := by
            rw [e2]
            simp [hn]
          rw [e3, e2] at e1
          exact (k.eq (by rw [e0, e1])).then d3 hq
        · have hw : f.cool ≤ st.time := by
            have := ndec hc2
            omega
          refine ⟨_, rfl, a, _, dy, _, _, rfl, hy, T.cl_Frame, T.na_Frame_layers, ff_layers _ _ _ _, _, _, rfl, rfl, _, rfl, ite2 (fun hc3 => ?_) (fun hc3 => ?_)⟩
          · have h6 : 6 ≤ f.layers := by
              have := ydec hc3
              omega
            exact ⟨line1, fun q hq => (k.eq (s' := st) (zs := [-7]) (by rw [e0, e1, if_pos ⟨hw, h6⟩])).same B hq rfl⟩
          have h6 : ¬ 6 ≤ f.layers := by
            have := ndec hc3
            omega
          rw [if_neg (fun z => h6 z.2)] at e1
          refine ⟨_, rfl, p, _, dx, _, _, rfl, hp, T.cl_Workshop, T.na_Workshop_vat, wf_vat _ _ _ _ _, _, rfl, a, _, dy, _, _, rfl, hy, T.cl_Frame, T.na_Frame_layers, ff_layers _ _ _ _, _, _, rfl, rfl, _, _, rfl, rfl, _, rfl, ite2 (fun hc4 => ?_) (fun hc4 => ?_)⟩
          · have hv : st.vat < f.layers + 1 := by
              have := ydec hc4
              omega
            exact ⟨line1, fun q hq => (k.eq (s' := st) (zs := [-6]) (by rw [e0, e1, if_pos ⟨hw, hv⟩])).same B hq rfl⟩
          have hv : ¬ st.vat < f.layers + 1 := by
            have := ndec hc4
            omega
          rw [if_neg (fun z => hv z.2)] at e1
          refine ⟨_, rfl, p, dx, _, rfl, hp, rfl, _, rfl, p, a, st, l, as, n, f, rfl, B, ha, hf, ⟨by omega, by omega⟩, fun H1 d1 => ?_⟩
          obtain ⟨dx1, hp1⟩ := d1.shop.obj
          obtain ⟨dy1, hy1⟩ := d1.shop.at_ n a _ ha (List.getElem?_set_self hn)
          have d2 := d1.then (d1.shop.setW (dx := dx1) (s' := { st with frames := st.frames.set n { f with layers := f.layers + 1 }, vat := st.vat - (f.layers + 1), time := st.time + 1 }) rfl)
          have d3 := d2.then (d2.shop.setF (dx := dy1) ha { f with layers := f.layers + 1, cool := st.time + 1 + st.cooling } (by show f.layers + 1 ≤ 6; omega))
          refine ⟨_, rfl, p, _, dx1, _, _, rfl, hp1, T.cl_Workshop, T.na_Workshop_minute, wf_minute _ _ _ _ _, _, _, rfl, rfl, _, rfl, p, _, dx1, _, rfl, hp1, T.cl_Workshop, T.na_Workshop_minute, wf_len _ _ _ _ _, ?_⟩
          refine ⟨_, rfl, p, _, dx1, _, _, rfl, upd_same, T.cl_Workshop, T.na_Workshop_minute, wf_minute _ _ _ _ _, _, rfl, p, _, dx1, _, _, rfl, upd_same, T.cl_Workshop, T.na_Workshop_cools, wf_cools _ _ _ _ _, _, _, rfl, rfl, _, rfl, a, _, dy1, _, rfl, (by rw [upd_ne npa]; exact hy1), T.cl_Frame, T.na_Frame_cool_from, ff_len _ _ _ _, ?_⟩
          refine ⟨_, rfl, a, _, dy1, _, _, rfl, upd_same, T.cl_Frame, T.na_Frame_layers, ff_layers _ _ _ _, line1, fun q hq => ?_⟩
          have e2 : Mu41.dipped st n f = { st with frames := (st.frames.set n { f with layers := f.layers + 1 }).set n { f with layers := f.layers + 1, cool := st.time + 1 + st.cooling }, vat := st.vat - (f.layers + 1), time := st.time + 1 } := by
            unfold Mu41.dipped Mu41.put
            rw [if_pos hw, List.set_set, Nat.add_right_comm st.time 1 st.cooling]
          have e3 : ((Mu41.dipped st n f).frames[n]?.map fun (x : Mu41.Frame) => x.layers).getD 0 = f.layers + 1 := by
            rw [e2]
            simp [hn]
          rw [e3, e2] at e1
          exact (k.eq (by rw [e0, e1])).then d3 hq
theorem ok_Workshop_sell (T : Txt K mg D) : FnOk P w K mg base CX0 2 D.f_Workshop_sell D.fd_Workshop_sell ["self", "number"] (spCall D .sell) := by
  refine T.F_Workshop_sell.ok sc_Workshop_sell (fun vs H Q E h => ?_) (fun cdv A outer s H vs Q E hr h => ?_)
  · obtain ⟨p, n, st, l, as, rfl, _⟩ := h
    rfl
  · obtain ⟨p, n, st, l, as, rfl, B, k⟩ := h
    obtain ⟨dx, hp⟩ := B.obj
    refine ⟨_, (pss_cons (ps_set (i := 2) sc_Workshop_sell.nd rfl (Or.inl rfl) (pe_meth (pv 0) T.cl_Workshop T.m_Workshop_standing_frame (ok_Workshop_standing_frame T) (hr.mono (by decide)) T.b_Workshop_standing_frame .nil pass0 (pa_cons (pv 1) pa_nil)))
      (pss_cons (ps_if (pt_cmpR op_isN (pv 2) pe_non (nomark _))
      (pss_one (ps_ret (pe_lst (pa_cons (pe_g rfl T.g_NO_SUCH_FRAME) pa_nil))))
      pss_nil)
      (pss_cons (ps_if (pt_cmpR op_lt (pe_fld (pv 2) rfl) (pe_fld (pv 2) rfl) (nomark _))
      (pss_one (ps_ret (pe_lst (pa_cons (pe_g rfl T.g_TOO_FEW_LAYERS) pa_nil))))
      pss_nil)
      (pss_cons (ps_if (pt_cmpR op_gt (pe_meth (pv 2) T.cl_Frame T.m_Frame_warm_minutes (ok_Frame_warm_minutes T) (hr.mono (by decide)) T.b_Frame_warm_minutes .nil pass0 (pa_cons (pe_fld (pv 0) rfl) pa_nil)) pe_int (nomark _))
      (pss_one (ps_ret (pe_lst (pa_cons (pe_g rfl T.g_STILL_WARM) pa_nil))))
      pss_nil)
      (pss_cons (ps_fld (pv 2) pe_bl rfl)
      (pss_one (ps_ret (pe_lst (pa_cons (pe_meth0 (pv 2) T.cl_Frame T.m_Frame_wax_held (ok_Frame_wax_held T) (hr.mono (by decide)) T.b_Frame_wax_held .nil pass0) pa_nil))))))))), ?_⟩
    refine ⟨_, rfl, p, dx, _, rfl, hp, rfl, _, rfl, p, n, st, l, as, rfl, B, fun h0 => ?_, fun a f ha hf h1 => ?_⟩
    · have e1 : Mu41.step (some st) (.sell n) = (some st, [-2]) := by simp only [Mu41.step, h0]
      refine ⟨_, rfl, rfl, _, rfl, isN ⟨line1, fun q hq => (k.eq (s' := st) (zs := [-2]) e1).same B hq rfl⟩⟩
    · have e1 : Mu41.step (some st) (.sell n) = if f.layers < f.wants then (some st, [-4]) else if st.time < f.cool then (some st, [-3]) else (some { Mu41.put st n { f with there := false } with sold := st.sold + Mu41.wax f.layers }, [(Mu41.wax f.layers : Int)]) := by
        simp only [Mu41.step, h1]
      obtain ⟨dy, hy⟩ := B.at_ n a f ha hf
      have hn : n < st.frames.length := (List.getElem?_eq_some_iff.mp hf).1
      have lo := B.good.low f (List.mem_of_getElem? hf)
      refine ⟨_, rfl, rfl, _, rfl, notN ?_⟩
      refine ⟨_, rfl, a, _, dy, _, _, rfl, hy, T.cl_Frame, T.na_Frame_layers, ff_layers _ _ _ _, _, rfl, a, _, dy, _, _, rfl, hy, T.cl_Frame, T.na_Frame_wanted, ff_wanted _ _ _ _, _, _, rfl, rfl, _, rfl, ite2 (fun hc => ?_) (fun hc => ?_)⟩
      · have hl : f.layers < f.wants := by
          have := ydec hc
          omega
        exact ⟨line1, fun q hq => (k.eq (s' := st) (zs := [-4]) (by rw [e1, if_pos hl])).same B hq rfl⟩
      have hl : ¬ f.layers < f.wants := by
        have := ndec hc
        omega
      rw [if_neg hl] at e1
      refine ⟨_, rfl, a, dy, _, rfl, hy, rfl, _, rfl, p, _, dx, _, _, rfl, hp, T.cl_Workshop, T.na_Workshop_minute, wf_minute _ _ _ _ _, a, st.time, f, rfl, ⟨dy, hy⟩, _, _, rfl, rfl, _, rfl, ite2 (fun hc2 => ?_) (fun hc2 => ?_)⟩
      · have hw : st.time < f.cool := by
          have := ydec hc2
          omega
        exact ⟨line1, fun q hq => (k.eq (s' := st) (zs := [-3]) (by rw [e1, if_pos hw])).same B hq rfl⟩
      have hw : ¬ st.time < f.cool := by
        have := ndec hc2
        omega
      rw [if_neg hw] at e1
      refine ⟨_, rfl, a, _, dy, _, rfl, hy, T.cl_Frame, T.na_Frame_sold, ff_len _ _ _ _, ?_⟩
      have d1 := B.setF (dx := dy) ha { f with there := false } lo
      refine ⟨_, rfl, a, dy, _, rfl, upd_same, rfl, a, { f with there := false }, rfl, ⟨dy, upd_same⟩, (by show f.layers ≤ 100; omega), line1, fun q hq => ?_⟩
      have d2 : Did D H p l as _ { Mu41.put st n { f with there := false } with sold := st.sold + Mu41.wax f.layers } as := ⟨⟨d1.shop.obj, d1.shop.lst, d1.shop.nd, d1.shop.len, d1.shop.at_, ⟨d1.shop.good.few, d1.shop.good.low⟩⟩, d1.new, d1.old, d1.kept⟩
      exact (k.eq e1).then d2 hq
theorem ok_Workshop_look (T : Txt K mg D) : FnOk P w K mg base CX0 2 D.f_Workshop_look D.fd_Workshop_look ["self", "number"] (spCall D .look) := by
  refine T.F_Workshop_look.ok sc_Workshop_look (fun vs H Q E h => ?_) (fun cdv A outer s H vs Q E hr h => ?_)
  · obtain ⟨p, n, st, l, as, rfl, _⟩ := h
    rfl
  · obtain ⟨p, n, st, l, as, rfl, B, k⟩ := h
    obtain ⟨dx, hp⟩ := B.obj
    refine ⟨_, (pss_cons (ps_set (i := 2) sc_Workshop_look.nd rfl (Or.inl rfl) (pe_meth (pv 0) T.cl_Workshop T.m_Workshop_standing_frame (ok_Workshop_standing_frame T) (hr.mono (by decide)) T.b_Workshop_standing_frame .nil pass0 (pa_cons (pv 1) pa_nil)))
      (pss_cons (ps_if (pt_cmpR op_isN (pv 2) pe_non (nomark _))
      (pss_one (ps_ret (pe_lst (pa_cons (pe_g rfl T.g_NO_SUCH_FRAME) pa_nil))))
      pss_nil)
      (pss_one (ps_ret (pe_lst (pa_cons (pe_fld (pv 2) rfl) (pa_cons (pe_fld (pv 2) rfl) (pa_cons (pe_meth (pv 2) T.cl_Frame T.m_Frame_warm_minutes (ok_Frame_warm_minutes T) (hr.mono (by decide)) T.b_Frame_warm_minutes .nil pass0 (pa_cons (pe_fld (pv 0) rfl) pa_nil)) pa_nil)))))))), ?_⟩
    refine ⟨_, rfl, p, dx, _, rfl, hp, rfl, _, rfl, p, n, st, l, as, rfl, B, fun h0 => ?_, fun a f ha hf h1 => ?_⟩
    · have e1 : Mu41.step (some st) (.look n) = (some st, [-2]) := by simp only [Mu41.step, h0]
      refine ⟨_, rfl, rfl, _, rfl, isN ⟨line1, fun q hq => (k.eq (s' := st) (zs := [-2]) e1).same B hq rfl⟩⟩
    · have e1 : Mu41.step (some st) (.look n) = (some st, Mu41.nums [f.wants, f.layers, f.cool - st.time]) := by
        simp only [Mu41.step, h1]
      obtain ⟨dy, hy⟩ := B.at_ n a f ha hf
      refine ⟨_, rfl, rfl, _, rfl, notN ?_⟩
      refine ⟨_, rfl, a, _, dy, _, _, rfl, hy, T.cl_Frame, T.na_Frame_wanted, ff_wanted _ _ _ _, _, rfl, a, _, dy, _, _, rfl, hy, T.cl_Frame, T.na_Frame_layers, ff_layers _ _ _ _, _, rfl, a, dy, _, rfl, hy, rfl, _, rfl, p, _, dx, _, _, rfl, hp, T.cl_Workshop, T.na_Workshop_minute, wf_minute _ _ _ _ _, a, st.time, f, rfl, ⟨dy, hy⟩, (by show 3 ≤ sizeLine; decide), fun q hq => ?_⟩
      exact (k.eq e1).same B hq rfl
end
end DV
end
noncomputable section
set_option Elab.async false
set_option linter.all false
set_option maxRecDepth 100000
set_option maxHeartbeats 4000000
namespace DV
open PySem PySem.Spec PyProof.Rows L2
def tRngV (ta : TA) : TE := fun σ H Q => ta σ H fun vs H1 => ∃ j : Int, vs = [.int j] ∧ ∀ r, H1 r = none → Q (.ref r) (upd H1 r (.rng 0 j))
theorem pe_rngV {X : Cx} {a : Expr} {ta : TA} {p pos : Pos} (hg : Gl X "range") (hm : X.mg "range" = none) (ha : PA X [a] ta) (hs : starEach [a] X.env = [(false, eval a X.env)] := by rfl) : PE X (.Call (.Name "range" p) [a] [] pos) (tRngV ta) := by
  intro pins s σ H Q I h
  refine Call_ (ld_blt I hg hm boot_range (PyProof.Rows.callWith_type1 (thn (ha pos pins s σ H _ I h) fun us s1 ⟨vs, H1, I1, r1, q1⟩ => ?_) hs rfl))
  obtain ⟨j, e, q⟩ := q1
  subst e
  cases r1 with
  | cons r rr =>
    cases rr
    obtain ⟨t, rfl⟩ := r
    exact call_range_1 ⟨.ref _, _, I1.laid (o := .rng 0 j) (fun b o e => Heap.get?_push_of_some _ e) (Nat.le_refl _) ⟨_, _, _, Heap.get?_push_size _ rfl⟩, rfl, q _ (I1.hok.fresh (Nat.le_refl _))⟩
def lamOf (s : Stmt) : Expr := match defBody s with
  | [.Return (some (.Call _ _ [k] _)) _] => k.value
  | _ => .Name "" ⟨0, 0, 0, 0⟩
def lamArgs : Expr → Arguments
  | .Lambda a _ _ _ => a
  | _ => { posonlyargs := [], args := [], vararg := none, kwonlyargs := [], kw_defaults := [], kwarg := none, defaults := [] }
def lamBody : Expr → Expr
  | .Lambda _ b _ _ => b
  | e => e
def lamScope (s : Scope) : Expr → Scope
  | .Lambda _ _ c _ => c
  | _ => s
def lamPos : Expr → Pos
  | .Lambda _ _ _ p => p
  | _ => ⟨0, 0, 0, 0⟩
abbrev lam : Expr := lamOf s_ranked_frames
abbrev lp : Pos := lamPos lam
abbrev lq : Str := "ranked_frames" ++ ".<locals>." ++ "<lambda>"
abbrev TAt (t : Addr) (H : Hp) : Prop := TabAt t lp lq H
abbrev KP (t : Addr) (H H' : Hp) : Prop := Kp t lp lq H H'
structure Gr (mg : Str → Option Value) (base : Heap) (D : Dat) (c t : Addr) : Prop where
  code : PySem.W.CodeHd base c t
  blt : base.BuiltinsAt mg t
  fd : D.fd_ranked_frames.code = .ref c
def wKey (w : List Nat) : Nat → Int := fun i => -((w.getD i 0 : Nat) : Int)
def spRank (K : PySem.W.Frag) (t : Addr) : Sp := fun vs H Q _ => ∃ (a : Addr) (w : List Nat), vs = [.ref a] ∧ SqL K H a (nv w) ∧ w.length < 64 ∧ TAt t H ∧
  ∀ (is : List Nat) (p : Addr) (H' : Hp), Sorted (wKey w) w.length is → H p = none → KP t H H' → H' p = some (.lst (nv is)) → Q (.ref p) H'
theorem nv_len (w : List Nat) : (nv w).length = w.length := by unfold nv; rw [List.length_map]
theorem nv_get {w : List Nat} {i : Nat} (h : i < w.length) : (nv w)[i]? = some (.int ((w.getD i 0 : Nat) : Int)) := by
  unfold nv
  rw [List.getElem?_map, List.getElem?_eq_getElem h, List.getD_eq_getElem?_getD, List.getElem?_eq_getElem h]
  rfl
theorem SqL.same {K : PySem.W.Frag} {H H' : Hp} {a : Addr} {xs : List V} (q : SqL K H a xs) (h : ∀ o, H a = some o → H' a = some o) : SqL K H' a xs := by
  rcases q with q | q
  · rcases q with q | ⟨o, q⟩
    · exact .inl (.inl (h _ q))
    · exact .inl (.inr ⟨o, h _ q⟩)
  · exact .inr q
theorem TabAt.fresh {t : Addr} {pos : Pos} {qual : Str} {H : Hp} {a : Addr} {o : HO} (h : TabAt t pos qual H) (hn : H a = none) : TabAt t pos qual (upd H a o) := by
  rcases h with h | ⟨c', h1, h2⟩
  · exact .inl (by rw [upd_ne (ne_of_none h hn)]; exact h)
  · exact .inr ⟨c', by rw [upd_ne (ne_of_none h1 hn)]; exact h1, by rw [upd_ne (ne_of_none h2 hn)]; exact h2⟩
def tSortL (t : Addr) (lps : Pos) (qual : Str) (ta : TA) (te : TE) : TE := fun σ H Q => tRngV ta σ H fun v H1 => ∃ (r a : Addr) (n : Nat) (g : Nat → Int), v = .ref r ∧ H1 r = some (.rng 0 (n : Int)) ∧ n < 64 ∧ σ[0]? = some (some (.ref a)) ∧ TabAt t lps qual H1 ∧
  (∀ (i : Nat) (H2 : Hp), i < n → (∀ b o, H1 b = some o → b ≠ t → H2 b = some o) → te [some (.int (i : Int)), some (.ref a)] H2 fun v H3 => ∃ p, v = .ref p ∧ H2 p = none ∧ H3 = upd H2 p (.tup [.int (g i), .int (i : Int)])) ∧
  ∀ (is : List Nat) (p : Addr) (H' : Hp), Sorted g n is → H1 p = none → Kp t lps qual H1 H' → H' p = some (.lst (nv is)) → Q (.ref p) H'
theorem pe_sortL {X : Cx} {p pos rp rpos kpos lps : Pos} {ra : Expr} {params : Arguments} {body : Expr} {scope : Scope} {ta : TA} {te : TE} {c t cell : Addr} {x y : Str} (hcalm : X.calm = true) (hgs : Gl X "sorted") (hms : X.mg "sorted" = none) (hgr : Gl X "range") (hmr : X.mg "range" = none) (hra : PA X [ra] ta)
    (hcode : X.env.code = .ref c) (C : PySem.W.CodeHd X.base c t) (hb : X.base.BuiltinsAt X.mg t) (hcl : closureFor scope X.env = pure [(y, cell)]) (hdef : defaultsOf params X.env = ([], [])) (hroom : X.A.depth < recursionLimit)
    (hN : X.N[0]? = some y) (hcy : X.env.cells.lookup y = some cell) (hky : X.env.kindOf y = some .cell) (hxy : x ≠ y) (hn : scope.names = [(x, .local), (y, .free)]) (hk : scope.kind = .function) (hco : scope.isCoroutine = false) (hgen : scope.isGenerator = false)
    (hbind : ∀ (pm v ctv : Value) (c' : Addr), bindArgs (PySem.W.kla_fn "<lambda>" (X.env.qual ++ "<lambda>") params body scope [(y, cell)] pm (.ref c') ctv) ⟨[v], []⟩ = pure [(x, v)])
    (hbody : ∀ (f c' : Addr) (A : Around) (outer : List Env) (s : Shared) (H : Hp), PE (lamX X.prog X.w X.K X.mg X.base A outer s H x y (lamE (X.env.qual ++ "<lambda>") scope f c' y cell s)) body te)
    (hs : starEach [ra] X.env = [(false, eval ra X.env)] := by rfl) (he : backTo pos (starEach [.Call (.Name "range" rp) [ra] [] rpos] X.env) = (false, eval (.Call (.Name "range" rp) [ra] [] rpos) X.env) :: backTo pos (starEach [] X.env) := by rfl) :
    PE X (.Call (.Name "sorted" p) [.Call (.Name "range" rp) [ra] [] rpos] [⟨some "key", .Lambda params body scope lps, kpos⟩] pos) (tSortL t lps (X.env.qual ++ "<lambda>") ta te) := by
  intro pins s σ H Q I h
  refine wpAny_Call_Name_kw (ld_blt I hgs hms boot_sorted ?_ (by decide) (by decide))
  refine callWith_kw ?_ he rfl rfl rfl
  have hpa : PA X [.Call (.Name "range" rp) [ra] [] rpos] (tCons (tRngV ta) tNil) := pa_cons (pe_rngV hgr hmr hra hs) pa_nil (by rfl)
  refine thn (hpa pos pins s σ H (fun vs H1 => match vs with
    | [v] => ∃ (r a : Addr) (n : Nat) (g : Nat → Int), v = .ref r ∧ H1 r = some (.rng 0 (n : Int)) ∧ n < 64 ∧ σ[0]? = some (some (.ref a)) ∧ TabAt t lps (X.env.qual ++ "<lambda>") H1 ∧
      (∀ (i : Nat) (H2 : Hp), i < n → (∀ b o, H1 b = some o → b ≠ t → H2 b = some o) → te [some (.int (i : Int)), some (.ref a)] H2 fun v H3 => ∃ p, v = .ref p ∧ H2 p = none ∧ H3 = upd H2 p (.tup [.int (g i), .int (i : Int)])) ∧
      ∀ (is : List Nat) (p : Addr) (H' : Hp), Sorted g n is → H1 p = none → Kp t lps (X.env.qual ++ "<lambda>") H1 H' → H' p = some (.lst (nv is)) → Q (.ref p) H'
    | _ => False) I h) fun us s1 ⟨vs, H1, I1, r1, q1⟩ => ?_
  match vs, q1, r1 with
  | [v], q1, r1 =>
    obtain ⟨r, a, n, g, rfl, hr, h64, hσ, hT, hkey, k⟩ := q1
    have r1 := Vals.ref1 r1
    subst r1
    obtain ⟨t1, t2, t3, hrng⟩ := I1.hok r _ hr
    refine kws_cons (lam_make (c := c) (P := t) I1 hcode C hb hcl hdef hT fun f c' ctv H2 s2 I2 sm on fr => kws_nil ?_)
    show wpAny _ _ (call (.builtin "sorted") [.ref r] [(Str.ofString "key", .ref f)]) _ _ _
    have rt : r ≠ t := fun z => by
      rcases hT with z2 | ⟨_, z2, _⟩ <;> · rw [← z, hr] at z2; cases z2
    have hr2 : H2 r = some (.rng 0 (n : Int)) := sm r _ hr rt
    obtain ⟨u1, u2, u3, hrng2⟩ := I2.hok r _ hr2
    refine thn (key_sorted (n := n) (g := g) (Q := Q) hcalm I2 hrng2 h64 ?_ fun is p H' hS hp sm2 hl => ?_) fun u s3 ⟨v, H3, I3, rv, q⟩ => ⟨v, H3, Inv.unpinned I3, rv, q⟩
    · intro i tk pins' H4 s4 hi hsub sm4 I4
      have pf := I4.pin _ (List.mem_append_right _ (hsub _ (List.mem_cons_self ..)))
      obtain ⟨hcr, _, _⟩ := I4.hok c' _ (sm4 _ _ on.2)
      obtain ⟨m, hns, hl⟩ := id I4.loc
      obtain ⟨u, ru, hlook⟩ := hl 0 y (.ref a) hN hσ (.inr (.inl hky))
      cases ru
      have hcell : s4.heap.IsCell cell (some (.ref a)) := by
        rcases hlook with ⟨z, _⟩ | ⟨_, d, e1, e2⟩
        · rw [hky] at z; cases z
        · rw [hcy] at e1; cases e1; exact e2
      refine wpAny_call (codeAny_mono (lam_run hxy hn hk hco hgen (hbind _ · _ _) I4.env0.in1.in1 hroom (I4.ok.hd hcalm) pf.1 hcr hcell (I4.freeC y cell hcy) (hbody f c' _ _ s4 H4) (hkey i H4 hi fun b o e1 e2 => sm4 b o (sm b o e1 e2))) fun r s' hq => ?_)
      cases r with
      | error e => exact hq.elim
      | ok fl =>
        cases fl with
        | ret u => exact I4.after hq
        | next => exact hq.elim
        | brk => exact hq.elim
        | cont => exact hq.elim
    · refine k is p H' hS (fr p hp) ⟨fun b o e1 e2 => sm2 b o (sm b o e1 e2), .inr ⟨c', sm2 _ _ on.1, sm2 _ _ on.2⟩⟩ hl
theorem TabAt.ne {t : Addr} {pos : Pos} {qual : Str} {H : Hp} {a : Addr} {o : HO} (h : TabAt t pos qual H) (e : H a = some o) (hn : ∀ ps, o ≠ .tbl ps) : a ≠ t := fun z => by
  rcases h with h | ⟨c', h, _⟩ <;> (rw [z, h] at e; exact hn _ (Option.some.inj e).symm)
theorem SqL.keep {K : PySem.W.Frag} {H H' : Hp} {a t : Addr} {xs : List V} {pos : Pos} {qual : Str} (q : SqL K H a xs) (h : TabAt t pos qual H) (sm : ∀ b o, H b = some o → b ≠ t → H' b = some o) : SqL K H' a xs := by
  rcases q with q | q
  · rcases q with q | ⟨o, q⟩
    · exact .inl (.inl (sm _ _ q (h.ne q fun _ z => nomatch z)))
    · exact .inl (.inr ⟨o, sm _ _ q (h.ne q fun _ z => nomatch z)⟩)
  · exact .inr q
theorem upd_none {H : Hp} {a b : Addr} {o : HO} (h : upd H a o b = none) : H b = none := by
  by_cases e : b = a
  · rw [e, upd_same] at h; cases h
  · rw [upd_ne e] at h; exact h
def lamT (K : PySem.W.Frag) : TE := tTup (tCons (tUn (rU fun i => .int (-i)) (tOp (rIxL K) (tVar 1) (tVar 0))) (tCons (tVar 0) tNil))
section
variable {P : Program} {w : World} {K : PySem.W.Frag} {mg : Str → Option Value} {base : Heap} {D : Dat} {c t : Addr}
theorem ok_ranked_frames (T : Txt K mg D) (G : Gr mg base D c t) : FnOk P w K mg base CX0 1 D.f_ranked_frames D.fd_ranked_frames ["wanted"] (spRank K t) := by
  obtain ⟨oc, od, kV, doc, pm, an, cdv, ct, osl, e, lk, hcd⟩ := T.F_ranked_frames.ex
  have hcv : cdv = .ref c := by
    have := G.fd
    rw [e] at this
    exact this
  subst hcv
  rw [e] at lk ⊢
  refine fn_of lk hcd sc_ranked_frames (fun vs H Q E h => ?_) fun A outer s0 H0 vs Q E hr h => ?_
  · obtain ⟨a, w, rfl, _⟩ := h
    rfl
  · obtain ⟨a, ws, rfl, hs, h64, hT, k⟩ := h
    have hr1 : (A.deeper (envOfC "ranked_frames" (defScope s_ranked_frames) s0.heap.objs.size D.f_ranked_frames (.ref c))).depth < recursionLimit := hr.depth
    refine ⟨_, PSs.nox (pss_one (ps_ret (pe_sortL (te := lamT K) (c := c) (t := t) (x := "number") (y := "wanted") rfl rfl T.n_sorted rfl T.n_range (pa_cons (pe_callB call_len_seq rfl T.n_len PySem.boot_len (pa_cons (pv 0) pa_nil)) pa_nil)
      rfl G.code G.blt rfl rfl hr1 rfl rfl rfl (by decide) rfl rfl rfl rfl (fun _ _ _ _ => rfl) (fun f c' A outer s H => pe_tup (pa_cons (pe_un un_neg (pe_ix ix_list (pv 1) (pv 0) (fun _ _ => rfl))) (pa_cons (pv 0) pa_nil)))))), ?_⟩
    refine ⟨_, rfl, a, _, rfl, .inl hs, _, rfl, fun r hr => ⟨r, a, ws.length, wKey ws, rfl, by rw [upd_same, nv_len], h64, rfl, TabAt.fresh hT hr, fun i H2 hi sm => ?_, fun is p H' hS hp kp hl => ?_⟩⟩
    · exact ⟨_, rfl, _, rfl, a, _, _, _, rfl, rfl, SqL.keep hs hT (fun b o e n => sm b o (by rw [upd_ne (ne_of_none e hr)]; exact e) n), atI_nat (nv_get hi), _, rfl, _, rfl, (by show 2 ≤ sizeLine; decide), fun p hp => ⟨p, rfl, hp, rfl⟩⟩
    · refine k is p H' hS (upd_none hp) ⟨fun b o e n => kp.same b o (by rw [upd_ne (ne_of_none e hr)]; exact e) n, kp.tab⟩ hl
end
end DV
end
noncomputable section
set_option Elab.async false
set_option linter.all false
set_option maxRecDepth 100000
set_option maxHeartbeats 4000000
namespace DV
open PySem PySem.Spec PyProof.Rows L2
theorem nv_nums (w : List Nat) : (Mu41.nums w).map V.int = nv w := by
  unfold Mu41.nums nv
  rw [List.map_map]
  rfl
theorem nv_append (a b : List Nat) : nv (a ++ b) = nv a ++ nv b := by unfold nv; rw [List.map_append]
theorem mem_nums {w : List Nat} {z : Int} (h : z ∈ Mu41.nums w) : ∃ n ∈ w, z = (n : Int) := by
  unfold Mu41.nums at h
  obtain ⟨n, hn, rfl⟩ := List.mem_map.mp h
  exact ⟨n, hn, rfl⟩
theorem nums_mem {w : List Nat} {n : Nat} (h : n ∈ w) : (n : Int) ∈ Mu41.nums w := List.mem_map.mpr ⟨n, h, rfl⟩
theorem most_is {w : List Nat} {m : Int} (h : (Mu41.nums w = [] ∧ m = 0) ∨ (m ∈ Mu41.nums w ∧ ∀ y ∈ Mu41.nums w, y ≤ m)) : m = (Mu41.most w : Nat) := by
  rcases h with ⟨h1, h2⟩ | ⟨h1, h2⟩
  · have : w = [] := by
      unfold Mu41.nums at h1
      exact List.map_eq_nil_iff.mp h1
    subst this
    rw [h2]
    rfl
  · obtain ⟨n, hn, rfl⟩ := mem_nums h1
    have a1 := MJ.le_most hn
    by_cases h0 : Mu41.most w = 0
    · omega
    · have := h2 _ (nums_mem (MJ.most_mem h0))
      omega
def spMay (K : PySem.W.Frag) : Sp := fun vs H Q _ => ∃ (a : Addr) (w : List Nat), vs = [.ref a] ∧ SqL K H a (nv w) ∧ Q (.bl (Mu41.isWanted w)) H
structure Few (w : List Nat) : Prop where
  len : w.length ≤ 6
  low : ∀ x ∈ w, x ≤ 6
theorem few_of {w : List Nat} (h : Mu41.isWanted w = true) : Few w := by
  unfold Mu41.isWanted at h
  rw [Bool.and_eq_true, decide_eq_true_eq, List.all_eq_true] at h
  exact ⟨h.1, fun x hx => of_decide_eq_true (h.2 x hx)⟩
theorem Few.at_ {w : List Nat} (f : Few w) (i : Nat) : w.getD i 0 ≤ 6 := by
  rw [List.getD_eq_getElem?_getD]
  cases h : w[i]? with
  | none => exact Nat.zero_le _
  | some x => exact f.low x (List.mem_of_getElem? h)
def othersM (w : List Nat) (m : Nat) (is : List Nat) : List Nat := is.flatMap fun (i : Nat) => if w.getD i 0 < m then List.replicate (w.getD i 0) (i + 1) else []
theorem othersM_snoc (w : List Nat) (m i : Nat) (is : List Nat) : othersM w m (is ++ [i]) = othersM w m is ++ (if w.getD i 0 < m then List.replicate (w.getD i 0) (i + 1) else []) := by
  unfold othersM
  rw [List.flatMap_append, List.flatMap_cons, List.flatMap_nil, List.append_nil]
theorem othersM_len {w : List Nat} (f : Few w) (m : Nat) (is : List Nat) : (othersM w m is).length ≤ 6 * is.length := by
  unfold othersM
  induction is with
  | nil => exact Nat.le_refl _
  | cons i is ih =>
    rw [List.flatMap_cons, List.length_append, List.length_cons]
    have := f.at_ i
    split
    · rw [List.length_replicate]
      omega
    · show 0 + _ ≤ _
      omega
def spOther (K : PySem.W.Frag) : Sp := fun vs H Q _ => ∃ (a b : Addr) (w is : List Nat) (m : Nat), vs = [.ref a, .ref b, .int (m : Int)] ∧ SqL K H a (nv w) ∧ SqL K H b (nv is) ∧ Few w ∧ (∀ i ∈ is, i < w.length) ∧ is.length ≤ 6 ∧
  ∀ (p : Addr) (H' : Hp), H p = none → Same H H' → H' p = some (.lst (nv (othersM w m is))) → Q (.ref p) H'
theorem line_small {n : Nat} (h : n ≤ 10000) : n ≤ sizeLine := by
  rw [sizeLine_eq]
  omega
theorem take_snoc {α : Type} {l : List α} {i : Nat} {x : α} (h : l[i]? = some x) : l.take (i + 1) = l.take i ++ [x] := by
  rw [List.take_add_one, h]
  rfl
theorem nv_at {w : List Nat} {i : Nat} {x : V} (h : (nv w)[i]? = some x) : ∃ n : Nat, x = .int (n : Int) ∧ w[i]? = some n := by
  unfold nv at h
  rw [List.getElem?_map] at h
  cases e : w[i]? with
  | none => rw [e] at h; cases h
  | some n =>
    rw [e] at h
    exact ⟨n, (Option.some.inj h).symm, rfl⟩
theorem rep_nv (k n : Nat) : (List.replicate k [V.int (n : Int)]).flatten = nv (List.replicate k n) := by
  unfold nv
  induction k with
  | zero => rfl
  | succ k ih =>
    rw [List.replicate_succ, List.flatten_cons, ih]
    rfl
theorem _root_.L2.Same.fresh {H H' : Hp} {a : Addr} {o : HO} (h : Same H H') (hn : H' a = none) : Same H (upd H' a o) := fun b u e => by rw [upd_ne (ne_of_none (h b u e) hn)]; exact h b u e
theorem _root_.L2.Same.new {H : Hp} {a : Addr} {o : HO} (hn : H a = none) : Same H (upd H a o) := fun b u e => by rw [upd_ne (ne_of_none e hn)]; exact e
theorem _root_.L2.Same.over {H H' : Hp} {a : Addr} {o : HO} (h : Same H H') (hn : H a = none) : Same H (upd H' a o) := fun b u e => by rw [upd_ne (ne_of_none e hn)]; exact h b u e
section
variable {P : Program} {w : World} {K : PySem.W.Frag} {mg : Str → Option Value} {base : Heap} {D : Dat}
theorem ok_may_be_wanted (T : Txt K mg D) : FnOk P w K mg base CX0 1 D.f_may_be_wanted D.fd_may_be_wanted ["wanted"] (spMay K) := by
  refine T.F_may_be_wanted.ok sc_may_be_wanted (fun vs H Q E h => ?_) (fun cdv A outer s H vs Q E hr h => ?_)
  · obtain ⟨a, w, rfl, _⟩ := h
    rfl
  · obtain ⟨a, ws, rfl, hs, k⟩ := h
    refine ⟨_, (pss_one (ps_ret (pe_and (pe_cmpR op_le (pe_callB call_len_seq rfl T.n_len PySem.boot_len (pa_cons (pv 0) pa_nil)) (pe_g rfl T.g_MOST_FRAMES) (nomark _)) (pe_one (pe_cmpR op_le (pe_maxD rfl rfl T.n_max (pv 0)) (pe_g rfl T.g_MOST_LAYERS) (nomark _)))))), ?_⟩
    refine ⟨_, rfl, a, _, rfl, .inl hs, _, _, rfl, rfl, _, rfl, ite2 (fun h1 => ?_) (fun h1 => ?_)⟩
    · refine ⟨_, rfl, a, Mu41.nums ws, rfl, by rw [nv_nums]; exact hs, fun m hm => ⟨_, _, rfl, rfl, ?_⟩⟩
      have e := most_is hm
      have hl : ws.length ≤ 6 := by
        have := ydec h1
        rw [nv_len] at this
        omega
      have : decide (m ≤ 6) = Mu41.isWanted ws := by
        unfold Mu41.isWanted
        rw [decide_eq_true (show ws.length ≤ Mu41.FRAMES from hl), Bool.true_and]
        by_cases hm6 : m ≤ 6
        · rw [decide_eq_true hm6, eq_comm, List.all_eq_true]
          intro x hx
          have := MJ.le_most hx
          exact decide_eq_true (show x ≤ 6 by omega)
        · rw [decide_eq_false hm6, eq_comm]
          have h0 : Mu41.most ws ≠ 0 := by omega
          cases q : ws.all fun (d : Nat) => decide (d ≤ Mu41.DIPS) with
          | false => rfl
          | true =>
            have := of_decide_eq_true (List.all_eq_true.mp q _ (MJ.most_mem h0))
            have : Mu41.most ws ≤ 6 := this
            omega
      show Q (.bl (decide (m ≤ 6))) H
      rw [this]
      exact k
    · have : Mu41.isWanted ws = false := by
        unfold Mu41.isWanted
        have h2 := ndec h1
        rw [nv_len] at h2
        rw [decide_eq_false (show ¬ ws.length ≤ Mu41.FRAMES by show ¬ ws.length ≤ 6; omega)]
        rfl
      rw [this] at k
      exact k
theorem ok_other_dips (T : Txt K mg D) : FnOk P w K mg base CX0 1 D.f_other_dips D.fd_other_dips ["wanted", "ranked", "most"] (spOther K) := by
  refine T.F_other_dips.ok sc_other_dips (fun vs H Q E h => ?_) (fun cdv A outer s H vs Q E hr h => ?_)
  · obtain ⟨a, b, w, is, m, rfl, _⟩ := h
    rfl
  · obtain ⟨a, b, ws, is, m, rfl, ha, hb, fw, hin, hil, k⟩ := h
    refine ⟨_, (pss_cons (ps_set (i := 3) sc_other_dips.nd rfl (Or.inl rfl) (pe_lst pa_nil))
      (pss_cons (ps_for PassesOwn.never rfl (pi_list (pv 1)) (pg_name (i := 4) sc_other_dips.nd rfl (Or.inl rfl))
      (pss_one (ps_if (pt_cmpR op_lt (pe_ix ix_list (pv 0) (pv 4) (fun _ _ => rfl)) (pv 2) (nomark _))
      (pss_one (ps_expr (pe_bm PySem.F.plainAttrs_list PySem.F.slot_list_extend PySem.F.type_list_extend mt_extend (pv 3) (pa_cons (pe_op op_rep (pe_lst (pa_cons (pe_op op_add (pv 4) pe_int) pa_nil)) (pe_ix ix_list (pv 0) (pv 4) (fun _ _ => rfl))) pa_nil))))
      pss_nil)))
      (pss_one (ps_ret (pv 3))))), ?_⟩
    refine ⟨Nat.zero_le _, fun p hp => ⟨_, rfl, b, rfl, ⟨_, (Same.new hp).seq hb⟩, for_list (xs := nv is) (fun i σ H' => (∃ x, σ = [some (.ref a), some (.ref b), some (.int (m : Int)), some (.ref p), x]) ∧ Same H H' ∧ H' p = some (.lst (nv (othersM ws m (is.take i))))) ⟨⟨_, rfl⟩, Same.new hp, upd_same⟩ (fun i σ H' _ q => q.2.1.seq hb) ?turn ?done⟩⟩
    case turn =>
      rintro i x σ H' hx ⟨⟨y, rfl⟩, sm, hl⟩
      obtain ⟨n, rfl, hn⟩ := nv_at hx
      have hi : i < is.length := (List.getElem?_eq_some_iff.mp hn).1
      have hnw : n < ws.length := hin n (List.mem_of_getElem? hn)
      have e1 := take_snoc hn
      have hlen := othersM_len fw m (is.take i)
      rw [List.length_take] at hlen
      refine ⟨_, rfl, _, rfl, a, _, _, _, rfl, rfl, sm.seq ha, atI_nat (nv_get hnw), _, rfl, _, _, rfl, rfl, _, rfl, ite2 (fun hc => ?_) (fun hc => ?_)⟩
      · have hc' : ws.getD n 0 < m := by have := ydec hc; omega
        have h6 := fw.at_ n
        refine ⟨_, rfl, .inl ⟨rfl, _, SqL.of hl⟩, _, rfl, _, _, rfl, rfl, line1, fun q hq => ?_⟩
        have s1 := sm.fresh (o := .lst [.int ((n : Int) + 1)]) hq
        refine ⟨_, rfl, _, rfl, a, _, _, _, rfl, rfl, s1.seq ha, atI_nat (nv_get hnw), q, _, _, rfl, rfl, upd_same, by omega, by omega, ?_, fun r hr => ?_⟩
        · show 1 * (ws.getD n 0 : Int).toNat ≤ sizeLine
          exact line_small (by omega)
        · have pq : p ≠ q := ne_of_none hl hq
          have hl1 : upd H' q (.lst [.int ((n : Int) + 1)]) p = some (.lst (nv (othersM ws m (is.take i)))) := by rw [upd_ne pq]; exact hl
          have pr : p ≠ r := ne_of_none hl1 hr
          refine ⟨p, r, _, _, rfl, rfl, by rw [upd_ne pr]; exact hl1, upd_same, ?_, ⟨_, rfl⟩, ?_, ?_⟩
          · rw [nv_len, len_rep]
            show _ + (ws.getD n 0 : Int).toNat * 1 ≤ sizeLine
            exact line_small (by omega)
          · exact (s1.fresh hr).over hp
          · rw [upd_same, e1, othersM_snoc, if_pos hc', nv_append]
            have e2 : ((n : Int) + 1) = ((n + 1 : Nat) : Int) := by omega
            show some (HO.lst (_ ++ (List.replicate ((ws.getD n 0 : Nat) : Int).toNat [V.int ((n : Int) + 1)]).flatten)) = _
            rw [e2, rep_nv, Int.toNat_natCast]
      · have hc' : ¬ ws.getD n 0 < m := by have := ndec hc; omega
        refine ⟨⟨_, rfl⟩, sm, ?_⟩
        rw [e1, othersM_snoc, if_neg hc', List.append_nil]
        exact hl
    case done =>
      rintro σ H' ⟨⟨y, rfl⟩, sm, hl⟩
      rw [nv_len, List.take_length] at hl
      exact ⟨_, rfl, k p H' hp sm hl⟩
end
end DV
end
noncomputable section
set_option Elab.async false
set_option linter.all false
set_option maxRecDepth 100000
set_option maxHeartbeats 4000000
namespace DV
open PySem PySem.Spec PyProof.Rows L2
section
variable {t : Addr} {H H1 H2 : Hp} {a : Addr} {o : HO}
theorem TAt.some_ (h : TAt t H) : ∃ ps, H t = some (.tbl ps) := by
  rcases h with h | ⟨c, h, _⟩
  · exact ⟨_, h⟩
  · exact ⟨_, h⟩
theorem TAt.same (h : TAt t H) (s : Same H H1) : TAt t H1 := by
  rcases h with h | ⟨c, h1, h2⟩
  · exact .inl (s _ _ h)
  · exact .inr ⟨c, s _ _ h1, s _ _ h2⟩
theorem TAt.put (h : TAt t H) {u : HO} (ha : H a = some u) (h1 : ∀ ps, u ≠ .tbl ps) (h2 : ∀ f, u ≠ .ext f) : TAt t (upd H a o) := by
  rcases h with h | ⟨c, hc, hd⟩
  · exact .inl (by rw [upd_ne (ne_of h ha (fun z => h1 _ z.symm))]; exact h)
  · exact .inr ⟨c, by rw [upd_ne (ne_of hc ha (fun z => h1 _ z.symm))]; exact hc, by rw [upd_ne (ne_of hd ha (fun z => h2 _ z.symm))]; exact hd⟩
theorem KP.refl (h : TAt t H) : KP t H H := ⟨fun _ _ e _ => e, h⟩
theorem KP.of (h : TAt t H) (s : Same H H1) : KP t H H1 := ⟨fun b u e _ => s b u e, h.same s⟩
theorem KP.trans (a : KP t H H1) (b : KP t H1 H2) : KP t H H2 := ⟨fun c u e n => b.same c u (a.same c u e n) n, b.tab⟩
theorem KP.then (a : KP t H H1) (b : Same H1 H2) : KP t H H2 := KP.trans a (KP.of a.tab b)
theorem KP.free (k : KP t H H1) (h : H1 a = none) : H a = none := by
  cases e : H a with
  | none => rfl
  | some u =>
    by_cases z : a = t
    · obtain ⟨ps, q⟩ := TAt.some_ k.tab
      rw [z, q] at h
      cases h
    · rw [k.same a u e z] at h
      cases h
theorem KP.new (k : KP t H H1) (h : H1 a = none) : KP t H (upd H1 a o) := KP.then k (Same.new h)
theorem KP.put (k : KP t H H1) (h : H a = none) {u : HO} (ha : H1 a = some u) (h1 : ∀ ps, u ≠ .tbl ps) (h2 : ∀ f, u ≠ .ext f) : KP t H (upd H1 a o) :=
  ⟨fun b v e n => by rw [upd_ne (ne_of_none e h)]; exact k.same b v e n, TAt.put k.tab ha h1 h2⟩
theorem KP.putL (k : KP t H H1) (h : H a = none) {xs : List V} (ha : H1 a = some (.lst xs)) : KP t H (upd H1 a o) := KP.put k h ha (fun _ z => nomatch z) (fun _ z => nomatch z)
theorem KP.seq {K : PySem.W.Frag} {xs : List V} (k : KP t H H1) (hT : TAt t H) (q : SqL K H a xs) : SqL K H1 a xs := SqL.keep q hT k.same
theorem KP.lst (k : KP t H H1) (hT : TAt t H) {xs : List V} (q : H a = some (.lst xs)) : H1 a = some (.lst xs) := k.same _ _ q (TabAt.ne hT q fun _ z => nomatch z)
end
theorem for_enum {K : PySem.W.Frag} {a : Addr} {xs : List V} {g : TG} {tb : TS} {D : Ends} {σ : L2.St} {H : Hp} (Pv : Nat → L2.St → Hp → Prop) (h0 : Pv 0 σ H) (hl : ∀ i σ H, i ≤ xs.length → Pv i σ H → SqL K H a xs)
    (hs : ∀ i x σ H T, xs[i]? = some x → Pv i σ H → H T = none → g (.ref T) σ (upd H T (.tup [.int (i : Nat), x])) fun σ2 H2 => tb { D with nx := Pv (i + 1), ct := Pv (i + 1), bk := D.nx } σ2 H2) (hd : ∀ σ H, Pv xs.length σ H → D.nx σ H) :
    ∃ W : Nat → Nat → L2.St → Hp → Prop, (∃ m, W 0 m σ H) ∧ ∀ i m σ H, W i m σ H →
      ((Ite K a).stop i H ∧ D.nx σ H) ∨ ((Ite K a).go i H ∧ ∃ N : L2.St → Hp → Prop, (∀ σ' H', N σ' H' → ∃ m', m' < m ∧ W (i + 1) m' σ' H') ∧ ∀ x H', (Ite K a).yld i H x H' → g x σ H' fun σ2 H2 => tb { D with nx := N, ct := N, bk := D.nx } σ2 H2) := by
  refine ⟨fun i m σ H => m = xs.length - i ∧ i ≤ xs.length ∧ Pv i σ H, ⟨xs.length, by simp, Nat.zero_le _, h0⟩, ?_⟩
  rintro i m σ H ⟨rfl, hi, p⟩
  have q := hl i σ H hi p
  by_cases hlt : i < xs.length
  · refine .inr ⟨⟨xs, xs[i], q, by simp [hlt]⟩, Pv (i + 1), fun σ' H' p' => ⟨xs.length - (i + 1), by omega, rfl, hlt, p'⟩, fun v H' y => ?_⟩
    obtain ⟨T, x, rfl, hT, rfl, hx⟩ := y
    exact hs i x σ H T (hx xs q) p hT
  · have e : i = xs.length := by omega
    subst e
    exact .inl ⟨⟨xs, q, Nat.le_refl _⟩, hd σ H p⟩
structure RowsAt (H0 H : Hp) (rs : List Addr) (rows : List (List Nat)) : Prop where
  len : rs.length = rows.length
  nd : rs.Nodup
  at_ : ∀ (j : Nat) (r : Addr) (x : List Nat), rs[j]? = some r → rows[j]? = some x → H r = some (.lst (nv x))
  new : ∀ r ∈ rs, H0 r = none
section
variable {H0 H H' : Hp} {rs : List Addr} {rows : List (List Nat)}
theorem RowsAt.get (B : RowsAt H0 H rs rows) {r : Addr} (h : r ∈ rs) : ∃ (j : Nat) (x : List Nat), rs[j]? = some r ∧ rows[j]? = some x ∧ H r = some (.lst (nv x)) := by
  obtain ⟨j, hj, e⟩ := List.mem_iff_getElem.mp h
  have hj' : j < rows.length := by rw [← B.len]; exact hj
  have e1 : rs[j]? = some r := by rw [List.getElem?_eq_getElem hj, e]
  exact ⟨j, _, e1, List.getElem?_eq_getElem hj', B.at_ j r _ e1 (List.getElem?_eq_getElem hj')⟩
theorem RowsAt.keep (B : RowsAt H0 H rs rows) (k : ∀ b o, H b = some o → b ∈ rs → H' b = some o) : RowsAt H0 H' rs rows :=
  ⟨B.len, B.nd, fun j r x h1 h2 => k _ _ (B.at_ j r x h1 h2) (List.mem_of_getElem? h1), B.new⟩
theorem RowsAt.fresh (B : RowsAt H0 H rs rows) {a : Addr} {o : HO} (hn : H a = none) : RowsAt H0 (upd H a o) rs rows := B.keep fun b u e _ => by rw [upd_ne (ne_of_none e hn)]; exact e
theorem RowsAt.other (B : RowsAt H0 H rs rows) {a : Addr} {o : HO} (hn : a ∉ rs) : RowsAt H0 (upd H a o) rs rows := B.keep fun b u e m => by rw [upd_ne fun z => hn (by rw [← z]; exact m)]; exact e
theorem RowsAt.set (B : RowsAt H0 H rs rows) {j : Nat} {r : Addr} (hj : rs[j]? = some r) (x : List Nat) : RowsAt H0 (upd H r (.lst (nv x))) rs (rows.set j x) := by
  refine ⟨by rw [List.length_set]; exact B.len, B.nd, fun i q y h1 h2 => ?_, B.new⟩
  by_cases hij : j = i
  · subst hij
    have e : q = r := Option.some.inj (h1.symm.trans hj)
    subst e
    have hl : j < rows.length := by
      rw [← B.len]
      exact (List.getElem?_eq_some_iff.mp hj).1
    rw [List.getElem?_set_self hl] at h2
    rw [upd_same, Option.some.inj h2]
  · rw [List.getElem?_set_ne hij] at h2
    rw [upd_ne fun z => hij (nd_ix B.nd hj (by rw [← z]; exact h1))]
    exact B.at_ i q y h1 h2
theorem RowsAt.add (B : RowsAt H0 H rs rows) {r : Addr} {x : List Nat} (h0 : H0 r = none) (hr : H r = none) : RowsAt H0 (upd H r (.lst (nv x))) (rs ++ [r]) (rows ++ [x]) := by
  have hrs : r ∉ rs := fun m => by
    obtain ⟨_, _, _, _, e⟩ := B.get m
    rw [hr] at e
    cases e
  refine ⟨by rw [List.length_append, List.length_append, B.len]; rfl, List.nodup_append.mpr ⟨B.nd, by simp, fun a ha b hb => ?_⟩, fun i q y h1 h2 => ?_, fun q hq => ?_⟩
  · rw [List.mem_singleton.mp hb]
    exact fun z => hrs (by rw [← z]; exact ha)
  · by_cases hi : i < rs.length
    · rw [List.getElem?_append_left hi] at h1
      rw [List.getElem?_append_left (by rw [← B.len]; exact hi)] at h2
      rw [upd_ne fun z => hrs (by rw [← z]; exact List.mem_of_getElem? h1)]
      exact B.at_ i q y h1 h2
    · rw [List.getElem?_append_right (by omega)] at h1
      rw [List.getElem?_append_right (by rw [← B.len]; omega), ← B.len] at h2
      have h3 : i - rs.length < 1 := (List.getElem?_eq_some_iff.mp h1).1
      have e0 : i - rs.length = 0 := by omega
      rw [e0] at h1 h2
      have e1 : r = q := Option.some.inj h1
      have e2 : x = y := Option.some.inj h2
      subst e1 e2
      exact upd_same
  · rcases List.mem_append.mp hq with m | m
    · exact B.new q m
    · rw [List.mem_singleton.mp m]
      exact h0
end
theorem sorted_le {w is : List Nat} (h : Sorted (wKey w) w.length is) : is.Perm (List.range w.length) ∧ is.Pairwise (ML.Le w) := by
  refine ⟨h.1, h.2.imp fun {i j} q => ?_⟩
  unfold wKey at q
  unfold ML.Le
  omega
def topsM (w : List Nat) (m : Nat) (is : List Nat) : List Nat := (is.filter fun (i : Nat) => w.getD i 0 == m).map fun (i : Nat) => i + 1
theorem topsM_snoc (w : List Nat) (m i : Nat) (is : List Nat) : topsM w m (is ++ [i]) = topsM w m is ++ (if w.getD i 0 = m then [i + 1] else []) := by
  unfold topsM
  rw [List.filter_append, List.map_append]
  by_cases h : w.getD i 0 = m
  · rw [if_pos h, List.filter_cons_of_pos (by show (w.getD i 0 == m) = true; exact beq_iff_eq.mpr h)]
    rfl
  · rw [if_neg h, List.filter_cons_of_neg (by show ¬ (w.getD i 0 == m) = true; exact fun z => h (beq_iff_eq.mp z))]
    rfl
theorem topsM_len (w : List Nat) (m : Nat) (is : List Nat) : (topsM w m is).length ≤ is.length := by
  unfold topsM
  rw [List.length_map]
  exact List.length_filter_le ..
theorem deal_bound (B : Nat) (l : List Nat) : ∀ (rows : List (List Nat)) (k : Nat), (∀ x ∈ rows, x.length ≤ B) → ∀ x ∈ ML.deal rows k l, x.length ≤ B + l.length := by
  induction l generalizing B with
  | nil => intro rows k h x hx; exact h x hx
  | cons y l ih =>
    intro rows k h x hx
    unfold ML.deal at hx
    have := ih (B + 1) _ (k + 1) (fun z hz => ?_) x hx
    · rw [List.length_cons]
      omega
    · rcases List.mem_or_eq_of_mem_set hz with q | q
      · have := h z q
        omega
      · rw [q, List.length_append]
        show _ + 1 ≤ _
        rw [List.getD_eq_getElem?_getD]
        cases e : rows[k % rows.length]? with
        | none => show 0 + 1 ≤ _; omega
        | some u => have := h u (List.mem_of_getElem? e); show u.length + 1 ≤ _; omega
theorem padAll_snoc (c : Nat) (rows : List (List Nat)) (r : List Nat) : ML.padAll c (rows ++ [r]) = ML.padAll c rows ++ (r ++ List.replicate (c + 1 - r.length) 0) := by
  unfold ML.padAll
  rw [List.flatMap_append, List.flatMap_cons, List.flatMap_nil, List.append_nil]
  rfl
theorem padAll_take (c : Nat) (rows : List (List Nat)) (i : Nat) : (ML.padAll c (rows.take i)).length ≤ (ML.padAll c rows).length := by
  have e : ML.padAll c rows = ML.padAll c (rows.take i) ++ ML.padAll c (rows.drop i) := by
    unfold ML.padAll
    rw [← List.flatMap_append, List.take_append_drop]
  rw [e, List.length_append]
  omega
theorem sum_le6 {w : List Nat} (f : Few w) : Mu41.total w ≤ 6 * w.length := by
  rw [MJ.total_sum]
  have go : ∀ l : List Nat, (∀ x ∈ l, x ≤ 6) → l.sum ≤ 6 * l.length := by
    intro l
    induction l with
    | nil => intro _; exact Nat.le_refl _
    | cons x l ih =>
      intro h
      have := ih fun y hy => h y (List.mem_cons_of_mem _ hy)
      have := h x (List.mem_cons_self ..)
      rw [List.sum_cons, List.length_cons]
      omega
  exact go w f.low
theorem most_le {w : List Nat} (f : Few w) : Mu41.most w ≤ 6 := by
  by_cases h : Mu41.most w = 0
  · omega
  · exact f.low _ (MJ.most_mem h)
theorem least_small {c : Nat} {w : List Nat} (hc : c ≤ 9) (f : Few w) : Mu41.least c w ≤ 200 := by
  unfold Mu41.least
  split
  · omega
  · have h1 := sum_le6 f
    have h2 := f.len
    have h3 := most_le f
    have h4 : Mu41.count (Mu41.most w) w ≤ w.length := by unfold Mu41.count; exact List.length_filter_le ..
    have h5 : (Mu41.most w - 1) * (c + 1) ≤ 5 * 10 := Nat.mul_le_mul (by omega) (by omega)
    omega
def rListOf (K : PySem.W.Frag) : List V → Hp → VK → Prop := fun xs H Q => ∃ p ys, xs = [.ref p] ∧ (SqL K H p ys ∨ SqT K H p ys) ∧ ∀ l, H l = none → Q (.ref l) (upd H l (.lst ys))
def spBest (K : PySem.W.Frag) (t : Addr) : Sp := fun vs H Q _ => ∃ (c : Nat) (a : Addr) (w : List Nat), vs = [.int (c : Int), .ref a] ∧ c ≤ 9 ∧ SqL K H a (nv w) ∧ Few w ∧ TAt t H ∧
  ∀ (p : Addr) (H' : Hp), H p = none → KP t H H' → H' p = some (.lst (nv (Mu41.plan c w))) → Q (.ref p) H'
end DV
end
noncomputable section
set_option Elab.async false
set_option linter.all false
set_option maxRecDepth 100000
set_option maxHeartbeats 4000000
namespace DV
open PySem PySem.Spec PyProof.Rows L2
theorem refs_ints {H : Hp} {R r : Addr} {rs : List Addr} {x : List Nat} (h : r ∈ rs) (h1 : H R = some (.lst (rs.map V.ref))) (h2 : H R = some (.lst (nv x))) : False := by
  rw [h1] at h2
  injection h2 with h2
  injection h2 with h2
  have m : V.ref r ∈ nv x := by rw [← h2]; exact List.mem_map.mpr ⟨r, h, rfl⟩
  unfold nv at m
  obtain ⟨n, _, e⟩ := List.mem_map.mp m
  cases e
section
variable {P : Program} {w : World} {K : PySem.W.Frag} {mg : Str → Option Value} {base : Heap} {D : Dat} {cc t : Addr}
theorem ok_best_plan (T : Txt K mg D) (G : Gr mg base D cc t) : FnOk P w K mg base CX0 2 D.f_best_plan D.fd_best_plan ["cools", "wanted"] (spBest K t) := by
  refine T.F_best_plan.ok sc_best_plan (fun vs H Q E h => ?_) (fun cdv A outer s H vs Q E hr h => ?_)
  · obtain ⟨c, a, w, rfl, _⟩ := h
    rfl
  · obtain ⟨c, a, ws, rfl, hc9, hs, fw, hT, k⟩ := h
    refine ⟨_, (pss_cons (ps_set (i := 2) sc_best_plan.nd rfl (Or.inr rfl) (pe_maxD rfl rfl T.n_max (pv 1)))
      (pss_cons (ps_if (pt_cmpR op_eq (pv 2) pe_int (nomark _))
      (pss_one (ps_ret (pe_lst pa_nil)))
      pss_nil)
      (pss_cons (ps_set (i := 3) sc_best_plan.nd rfl (Or.inl rfl) (pe_call (ok_ranked_frames T G) (hr.mono (by decide)) rfl T.gl_ranked_frames T.F_ranked_frames.kp T.b_ranked_frames .nil pass0 (pa_cons (pv 1) pa_nil)))
      (pss_cons (ps_set (i := 4) sc_best_plan.nd rfl (Or.inr rfl) (pe_lc (g := gName 10) (tt := (tTest (tOp rEq (tOp (rIxL K) (tVar 1) (tVar 10)) (tVar 2)))) (te := (tOp (rI0 fun i j => .int (i + j)) (tVar 10) (tC (.int 1)))) rfl sc_best_plan.nd (pi_list (pv 3)) (blkOk_by (own := [("number", 10)]) (by kernel_rfl)) (fun _ _ _ _ _ => pg_name (i := 10) sc_best_plan.nd rfl (Or.inl rfl)) (fun _ _ _ _ _ => (pts_one (pt_cmpR op_eq (pe_ix ix_list (pv 1) (pv 10) (fun _ _ => rfl)) (pv 2) (nomark _)))) (fun _ _ _ _ _ => (pe_op op_add (pv 10) pe_int))))
      (pss_cons (ps_setLc (i := 5) (hy := rfl) (hyl := rfl) (hsw := sw_true rfl rfl rfl rfl) (g := gName 11) (tt := tYes) (te := (tCB (rListOf K) (tCons (tVar 4) tNil))) (hc := rfl) (hN := sc_best_plan.nd) (pi_range1 rfl T.n_range (pa_cons (pe_op op_sub (pv 2) pe_int) pa_nil)) (blkOk_by (own := [("k", 11)]) (by kernel_rfl)) (fun _ _ _ _ _ => pg_name (i := 11) sc_best_plan.nd rfl (Or.inl rfl)) (fun _ _ _ _ _ => pts_nil) (fun _ _ _ _ _ => (pe_callTy call_list_of rfl T.n_list PyProof.Rows.boot_list (pa_cons (pv 4) pa_nil))))
      (pss_cons (ps_for PassesOwn.never rfl (pi_enum rfl T.n_enumerate (pa_cons (pe_call (ok_other_dips T) (hr.mono (by decide)) rfl T.gl_other_dips T.F_other_dips.kp T.b_other_dips .nil pass0 (pa_cons (pv 1) (pa_cons (pv 3) (pa_cons (pv 2) pa_nil)))) pa_nil)) (pg_tup rfl (pgs_cons (pg_name (i := 6) sc_best_plan.nd rfl (Or.inl rfl)) (pgs_cons (pg_name (i := 7) sc_best_plan.nd rfl (Or.inl rfl)) pgs_nil)))
      (pss_one (ps_expr (pe_bm PySem.F.plainAttrs_list PySem.F.slot_list_append PySem.F.type_list_append mt_append (pe_ix ix_list (pv 5) (pe_op op_mod (pv 6) (pe_callB call_len_seq rfl T.n_len PySem.boot_len (pa_cons (pv 5) pa_nil))) (fun _ _ => rfl)) (pa_cons (pv 7) pa_nil)))))
      (pss_cons (ps_set (i := 8) sc_best_plan.nd rfl (Or.inl rfl) (pe_lst pa_nil))
      (pss_cons (ps_for PassesOwn.never rfl (pi_list (pv 5)) (pg_name (i := 9) sc_best_plan.nd rfl (Or.inl rfl))
      (pss_cons (ps_expr (pe_bm PySem.F.plainAttrs_list PySem.F.slot_list_extend PySem.F.type_list_extend mt_extend (pv 8) (pa_cons (pv 9) pa_nil)))
      (pss_one (ps_expr (pe_bm PySem.F.plainAttrs_list PySem.F.slot_list_extend PySem.F.type_list_extend mt_extend (pv 8) (pa_cons (pe_op op_rep (pe_lst (pa_cons (pe_g rfl T.g_NOTHING) pa_nil)) (pe_callB (call_max2 rfl) rfl T.n_max boot_max (pa_cons pe_int (pa_cons (pe_op op_sub (pe_op op_add (pv 0) pe_int) (pe_callB call_len_seq rfl T.n_len PySem.boot_len (pa_cons (pv 9) pa_nil))) pa_nil)))) pa_nil))))))
      (pss_cons (ps_expr (pe_bm PySem.F.plainAttrs_list PySem.F.slot_list_extend PySem.F.type_list_extend mt_extend (pv 8) (pa_cons (pv 4) pa_nil)))
      (pss_one (ps_ret (pv 8)))))))))))), ?_⟩
    refine ⟨_, rfl, a, Mu41.nums ws, rfl, by rw [nv_nums]; exact hs, fun m hm => ?_⟩
    have em := most_is hm
    subst em
    refine ⟨_, rfl, rfl, _, rfl, ite2 (fun h0 => ?_) (fun h0 => ?_)⟩
    · have h0' : Mu41.most ws = 0 := by
        have := of_decide_eq_true h0
        injection this with this
        omega
      exact ⟨Nat.zero_le _, fun p hp => k p _ hp (KP.new (KP.refl hT) hp) (by rw [upd_same, ML.plan_zero h0']; rfl)⟩
    have hm0 : Mu41.most ws ≠ 0 := fun z => h0 (decide_eq_true (by rw [z]; rfl))
    have hm6 := most_le fw
    refine ⟨_, rfl, a, ws, rfl, hs, (by have := fw.len; omega), hT, fun is rk H1 hS hrk k1 hl1 => ?_⟩
    obtain ⟨hperm, hle⟩ := sorted_le hS
    have hisl : is.length = ws.length := by rw [hperm.length_eq, List.length_range]
    have hin : ∀ i ∈ is, i < ws.length := fun i hi => List.mem_range.mp (hperm.mem_iff.mp hi)
    have h6 := fw.len
    have sT : ∀ {H2 : Hp}, KP t H H2 → SqL K H2 a (nv ws) := fun q => KP.seq q hT hs
    refine ⟨_, rfl, rk, rfl, ⟨_, SqL.of hl1⟩, fun tp htp => lc_list (xs := nv is) (fun i H' => Same H1 H' ∧ H' tp = some (.lst (nv (topsM ws (Mu41.most ws) (is.take i))))) ⟨Same.new htp, upd_same⟩ (fun i H' _ q => q.1.seq (SqL.of hl1)) ?lt1 ?ld1⟩
    case lt1 =>
      rintro i x H' hx ⟨sm, hl⟩
      obtain ⟨n, rfl, hn⟩ := nv_at hx
      have hnw := hin n (List.mem_of_getElem? hn)
      have e1 := take_snoc hn
      have hi : i < is.length := (List.getElem?_eq_some_iff.mp hn).1
      refine ⟨rfl, _, rfl, _, rfl, a, _, _, _, rfl, rfl, sT (KP.then k1 sm), atI_nat (nv_get hnw), _, rfl, rfl, _, rfl, ite2 (fun hc => ?_) (fun hc => ?_)⟩
      · have hc' : ws.getD n 0 = Mu41.most ws := by
          have := of_decide_eq_true hc
          injection this with this
          omega
        refine ⟨_, rfl, _, _, rfl, rfl, _, hl, ?_, sm.over htp, ?_⟩
        · rw [nv_len]
          have := topsM_len ws (Mu41.most ws) (is.take i)
          rw [List.length_take] at this
          rw [sizeLine_eq]
          omega
        · rw [upd_same, e1, topsM_snoc, if_pos hc', nv_append]
          rfl
      · have hc' : ¬ ws.getD n 0 = Mu41.most ws := fun z => hc (decide_eq_true (by rw [z]))
        refine ⟨sm, ?_⟩
        rw [e1, topsM_snoc, if_neg hc', List.append_nil]
        exact hl
    case ld1 =>
      rintro H2 ⟨sm, hl2⟩
      rw [nv_len, List.take_length] at hl2
      have k2 : KP t H H2 := KP.then k1 sm
      have hrk2 : H2 rk = some (.lst (nv is)) := sm _ _ hl1
      have tp0 : H tp = none := KP.free k1 htp
      clear hl1 htp sm k1
      have tl := topsM_len ws (Mu41.most ws) is
      generalize hTe : topsM ws (Mu41.most ws) is = Tp at hl2 tl
      refine ⟨_, rfl, _, _, rfl, rfl, _, rfl, by omega, by omega, fun R hR => lc_range (lo := 0) (n := ((Mu41.most ws : Int) - 1).toNat) (fun i H' => ∃ rs, Same H2 H' ∧ H' R = some (.lst (rs.map V.ref)) ∧ RowsAt H2 H' rs (List.replicate i Tp)) ⟨[], Same.new hR, upd_same, ⟨rfl, List.nodup_nil, fun j r x h1 _ => (by simp at h1), fun r hr => (by simp at hr)⟩⟩ ?lt2 ?ld2⟩
      case lt2 =>
        rintro i H' hi ⟨rs, sm, hl, B⟩
        have hil : rs.length = i := by rw [B.len, List.length_replicate]
        refine ⟨rfl, _, rfl, tp, _, rfl, .inl (SqL.of (sm _ _ hl2)), fun l hl0 => ⟨rs.map V.ref, ?_, ?_, rs ++ [l], ?_, ?_, ?_⟩⟩
        · rw [upd_ne (ne_of_none hl hl0)]
          exact hl
        · rw [List.length_map, hil, sizeLine_eq]
          omega
        · exact (sm.fresh hl0).over hR
        · rw [upd_same, List.map_append]
          rfl
        · have l2 : H2 l = none := sm.free hl0
          have B2 := B.add (x := Tp) l2 hl0
          rw [show List.replicate (i + 1) Tp = List.replicate i Tp ++ [Tp] from List.replicate_succ']
          refine B2.other fun m => ?_
          rcases List.mem_append.mp m with z | z
          · rw [B.new R z] at hR
            obtain ⟨_, _, _, _, q⟩ := B.get z
            exact refs_ints z hl q
          · rw [List.mem_singleton.mp z] at hl
            rw [hl0] at hl
            cases hl
      case ld2 =>
        rintro H3 ⟨rs, sm, hR3, B3⟩
        have k3 : KP t H H3 := KP.then k2 sm
        have htp3 : H3 tp = some (.lst (nv Tp)) := sm _ _ hl2
        have hrk3 : H3 rk = some (.lst (nv is)) := sm _ _ hrk2
        have R0 : H R = none := KP.free k2 hR
        have B3' : RowsAt H H3 rs (List.replicate ((Mu41.most ws : Int) - 1).toNat Tp) := ⟨B3.len, B3.nd, B3.at_, fun r hr => KP.free k2 (B3.new r hr)⟩
        have e3 : ((Mu41.most ws : Int) - 1).toNat = Mu41.most ws - 1 := by omega
        rw [e3] at B3'
        have RT : R ≠ tp := fun z => by rw [z, hl2] at hR; cases hR
        have tpn : tp ∉ rs := fun m => by rw [B3.new tp m] at hl2; cases hl2
        clear B3 hR hl2 hrk2 sm k2 H2
        have plan_eq := ML.plan_is (c := c) hperm hle hm0
        have eT : ML.tops ws is = Tp := hTe
        rw [eT] at plan_eq
        have rsB : ∀ x ∈ List.replicate (Mu41.most ws - 1) Tp, x.length ≤ 6 := fun x hx => by
          rw [List.eq_of_mem_replicate hx]
          omega
        refine ⟨_, rfl, _, rfl, _, rfl, a, rk, ws, is, _, rfl, sT k3, SqL.of hrk3, fw, hin, by omega, fun oa H4 ho smo hlo => ⟨oa, _, rfl, SqL.of hlo, for_enum (xs := nv (ML.others ws is)) (fun i σ H' => (∃ x y, σ = [some (.int (c : Int)), some (.ref a), some (.int (Mu41.most ws : Nat)), some (.ref rk), some (.ref tp), some (.ref R), x, y, none, none, none, none]) ∧ KP t H H' ∧ H' oa = some (.lst (nv (ML.others ws is))) ∧ H' tp = some (.lst (nv Tp)) ∧ H' R = some (.lst (rs.map V.ref)) ∧ RowsAt H H' rs (ML.deal (List.replicate (Mu41.most ws - 1) Tp) 0 ((ML.others ws is).take i))) ⟨⟨_, _, rfl⟩, KP.then k3 smo, hlo, smo _ _ htp3, smo _ _ hR3, B3'.keep fun b o e _ => smo b o e⟩ (fun i σ H' _ q => SqL.of q.2.2.1) ?et ?ed⟩⟩
        case et =>
          rintro i x σ H' Tt hx ⟨⟨y1, y2, rfl⟩, kk, h1, h2, h3, B⟩ hTt
          obtain ⟨n, rfl, hn⟩ := nv_at hx
          have hi : i < (ML.others ws is).length := (List.getElem?_eq_some_iff.mp hn).1
          have hm1 : Mu41.most ws ≠ 1 := fun z => by
            rw [ML.others_one z] at hi
            exact absurd hi (Nat.not_lt_zero _)
          have hrl : rs.length = Mu41.most ws - 1 := by rw [B.len, ML.deal_length, List.length_replicate]
          have hj : i % rs.length < rs.length := Nat.mod_lt _ (by omega)
          have hjr : rs[i % rs.length]? = some rs[i % rs.length] := List.getElem?_eq_getElem hj
          generalize rs[i % rs.length] = r at hjr
          have hjd : i % rs.length < (ML.deal (List.replicate (Mu41.most ws - 1) Tp) 0 ((ML.others ws is).take i)).length := by rw [← B.len]; exact hj
          have hjx := List.getElem?_eq_getElem hjd
          generalize hxr : (ML.deal (List.replicate (Mu41.most ws - 1) Tp) 0 ((ML.others ws is).take i))[i % rs.length] = row at hjx
          have hr1 := B.at_ _ _ _ hjr hjx
          have up : ∀ {b : Addr} {u : HO}, H' b = some u → upd H' Tt (.tup [.int (i : Nat), .int (n : Int)]) b = some u := fun {b u} e => by rw [upd_ne (ne_of_none e hTt)]; exact e
          have kT : KP t H (upd H' Tt (.tup [.int (i : Nat), .int (n : Int)])) := KP.new kk hTt
          refine ⟨Tt, _, rfl, SqT.of upd_same, rfl, _, _, rfl, _, _, rfl, rfl, ?_⟩
          refine ⟨_, rfl, _, rfl, _, rfl, R, _, rfl, .inl (SqL.of (up h3)), _, _, rfl, rfl, ?_, R, _, _, _, rfl, rfl, SqL.of (up h3), at_of (j := i % rs.length) (v := .ref r) ?_ ?_, .inl ⟨rfl, _, SqL.of (up hr1)⟩, _, rfl, r, _, _, rfl, rfl, up hr1, ?_, ⟨_, _, rfl⟩, ?_, ?_, ?_, ?_, ?_⟩
          · rw [List.length_map]
            show (0 : Int) < (rs.length : Nat)
            omega
          · rw [List.length_map]
            rfl
          · rw [List.getElem?_map, hjr]
            rfl
          · rw [nv_len]
            have b1 := deal_bound 6 ((ML.others ws is).take i) (List.replicate (Mu41.most ws - 1) Tp) 0 rsB row (List.mem_of_getElem? hjx)
            have b2 := othersM_len fw (Mu41.most ws) is
            have b3 : (othersM ws (Mu41.most ws) is).length = (ML.others ws is).length := rfl
            rw [List.length_take] at b1
            rw [sizeLine_eq]
            omega
          · exact KP.putL kT (B.new r (List.mem_of_getElem? hjr)) (up hr1)
          · rw [upd_ne fun z => ?_]
            · exact up h1
            · obtain ⟨_, _, _, _, q⟩ := B3'.get (r := oa) (by rw [z]; exact List.mem_of_getElem? hjr)
              rw [ho] at q
              cases q
          · rw [upd_ne fun z => tpn (by rw [z]; exact List.mem_of_getElem? hjr)]
            exact up h2
          · rw [upd_ne fun z => refs_ints (List.mem_of_getElem? hjr) h3 (by rw [z]; exact hr1)]
            exact up h3
          · have Bn := (B.fresh (o := .tup [.int (i : Nat), .int (n : Int)]) hTt).set hjr (row ++ [n])
            rw [nv_append] at Bn
            rw [take_snoc hn, ML.deal_snoc, List.length_take, List.length_replicate, Nat.min_eq_left (Nat.le_of_lt hi), Nat.zero_add]
            rw [hrl] at Bn hjx
            rw [show (ML.deal (List.replicate (Mu41.most ws - 1) Tp) 0 ((ML.others ws is).take i)).getD (i % (Mu41.most ws - 1)) [] = row by rw [List.getD_eq_getElem?_getD, hjx]; rfl]
            exact Bn
        case ed =>
          rintro σ H5 ⟨⟨y1, y2, rfl⟩, k5, _, h2, h3, B⟩
          rw [nv_len, List.take_length] at B
          have pl_all := plan_eq
          generalize hrows : ML.deal (List.replicate (Mu41.most ws - 1) Tp) 0 (ML.others ws is) = rows at B pl_all
          have hpl := ML.plan_length c ws
          have hls := least_small hc9 fw
          rw [← hpl, pl_all, List.length_append] at hls
          refine ⟨Nat.zero_le _, fun pl hpl0 => ⟨_, rfl, R, rfl, ⟨_, (Same.new hpl0).seq (SqL.of h3)⟩, for_list (xs := rs.map V.ref) (fun i σ H' => (∃ x, σ = [some (.int (c : Int)), some (.ref a), some (.int (Mu41.most ws : Nat)), some (.ref rk), some (.ref tp), some (.ref R), y1, y2, some (.ref pl), x, none, none]) ∧ KP t H H' ∧ H' tp = some (.lst (nv Tp)) ∧ H' R = some (.lst (rs.map V.ref)) ∧ RowsAt H H' rs rows ∧ H' pl = some (.lst (nv (ML.padAll c (rows.take i))))) ⟨⟨_, rfl⟩, KP.new k5 hpl0, Same.new hpl0 _ _ h2, Same.new hpl0 _ _ h3, B.fresh hpl0, upd_same⟩ (fun i σ H' _ q => SqL.of q.2.2.2.1) ?pt ?pd⟩⟩
          case pt =>
            rintro i x σ H' hx ⟨⟨y, rfl⟩, kk, g2, g3, Bi, gp⟩
            obtain ⟨r, hr, rfl⟩ : ∃ r, rs[i]? = some r ∧ V.ref r = x := by
              rw [List.getElem?_map] at hx
              cases e : rs[i]? with
              | none => rw [e] at hx; cases hx
              | some r => rw [e] at hx; exact ⟨r, rfl, Option.some.inj hx⟩
            have hi : i < rows.length := by rw [← Bi.len]; exact (List.getElem?_eq_some_iff.mp hr).1
            have hrow := List.getElem?_eq_getElem hi
            generalize rows[i] = row at hrow
            have hr1 := Bi.at_ _ _ _ hr hrow
            have hrm := List.mem_of_getElem? hr
            have b1 := padAll_take c rows (i + 1)
            rw [take_snoc hrow, padAll_snoc, List.length_append, List.length_append, List.length_replicate] at b1
            have pr : pl ≠ r := fun z => by
              obtain ⟨_, _, _, _, q⟩ := B.get hrm
              rw [← z, hpl0] at q
              cases q
            have pR : pl ≠ R := fun z => by rw [z, h3] at hpl0; cases hpl0
            have pT : pl ≠ tp := fun z => by rw [z, h2] at hpl0; cases hpl0
            have p0 : H pl = none := KP.free k5 hpl0
            have prs : pl ∉ rs := fun m => by
              obtain ⟨_, _, _, _, q⟩ := B.get m
              rw [hpl0] at q
              cases q
            have kk1 := KP.putL (o := .lst (nv (ML.padAll c (rows.take i)) ++ nv row)) kk p0 gp
            refine ⟨_, rfl, .inl ⟨rfl, _, SqL.of gp⟩, _, rfl, pl, r, _, _, rfl, rfl, gp, hr1, ?_, _, rfl, .inl ⟨rfl, _, SqL.of upd_same⟩, line1, fun q hq => ?_⟩
            · rw [nv_len, nv_len, sizeLine_eq]
              omega
            have hr2 : upd H' pl (.lst (nv (ML.padAll c (rows.take i)) ++ nv row)) r = some (.lst (nv row)) := by rw [upd_ne pr.symm]; exact hr1
            have hr3 : upd (upd H' pl (.lst (nv (ML.padAll c (rows.take i)) ++ nv row))) q (.lst [.int 0]) r = some (.lst (nv row)) := by rw [upd_ne (ne_of_none hr2 hq)]; exact hr2
            refine ⟨_, rfl, _, _, rfl, rfl, _, rfl, r, _, rfl, .inl (SqL.of hr3), _, _, rfl, rfl, _, _, rfl, ?_⟩
            have ek : (if ((c : Int) + 1) - ((nv row).length : Nat) > 0 then ((c : Int) + 1) - ((nv row).length : Nat) else 0) = ((c + 1 - row.length : Nat) : Int) := by
              rw [nv_len]
              split <;> omega
            refine ⟨q, ((c + 1 - row.length : Nat) : Int), _, rfl, by rw [← ek], upd_same, by omega, by omega, ?_, fun u hu => ?_⟩
            · show 1 * ((c + 1 - row.length : Nat) : Int).toNat ≤ sizeLine
              rw [Int.toNat_natCast, sizeLine_eq]
              omega
            have gp1 : upd H' pl (.lst (nv (ML.padAll c (rows.take i)) ++ nv row)) pl = some (.lst (nv (ML.padAll c (rows.take i)) ++ nv row)) := upd_same
            have gp2 : upd (upd H' pl (.lst (nv (ML.padAll c (rows.take i)) ++ nv row))) q (.lst [.int 0]) pl = some (.lst (nv (ML.padAll c (rows.take i)) ++ nv row)) := by rw [upd_ne (ne_of_none gp1 hq)]; exact gp1
            have k2 := KP.new (o := .lst [.int 0]) kk1 hq
            have k3' := KP.new (o := .lst (List.replicate ((c + 1 - row.length : Nat) : Int).toNat [V.int 0]).flatten) k2 hu
            have up : ∀ {b : Addr} {v : HO}, H' b = some v → b ≠ pl → upd (upd (upd H' pl (.lst (nv (ML.padAll c (rows.take i)) ++ nv row))) q (.lst [.int 0])) u (.lst (List.replicate ((c + 1 - row.length : Nat) : Int).toNat [V.int 0]).flatten) b = some v := fun {b v} e n => by
              have e1 : upd H' pl (.lst (nv (ML.padAll c (rows.take i)) ++ nv row)) b = some v := by rw [upd_ne n]; exact e
              have e2 : upd (upd H' pl (.lst (nv (ML.padAll c (rows.take i)) ++ nv row))) q (.lst [.int 0]) b = some v := by rw [upd_ne (ne_of_none e1 hq)]; exact e1
              rw [upd_ne (ne_of_none e2 hu)]
              exact e2
            have gp3 : upd (upd (upd H' pl (.lst (nv (ML.padAll c (rows.take i)) ++ nv row))) q (.lst [.int 0])) u (.lst (List.replicate ((c + 1 - row.length : Nat) : Int).toNat [V.int 0]).flatten) pl = some (.lst (nv (ML.padAll c (rows.take i)) ++ nv row)) := by rw [upd_ne (ne_of_none gp2 hu)]; exact gp2
            refine ⟨pl, u, _, _, rfl, rfl, gp3, upd_same, ?_, ⟨_, rfl⟩, ?_, ?_, ?_, ?_, ?_⟩
            · rw [List.length_append, nv_len, nv_len, len_rep, Int.toNat_natCast, sizeLine_eq]
              show _ + (c + 1 - row.length) * 1 ≤ _
              omega
            · exact KP.putL k3' p0 gp3
            · rw [upd_ne pT.symm]
              exact up g2 pT.symm
            · rw [upd_ne pR.symm]
              exact up g3 pR.symm
            · exact (Bi.keep fun b v e m => up e fun z => prs (by rw [← z]; exact m)).other prs
            · rw [upd_same, take_snoc hrow, padAll_snoc, nv_append, nv_append, Int.toNat_natCast, List.append_assoc]
              have := rep_nv (c + 1 - row.length) 0
              rw [← this]
              rfl
          case pd =>
            rintro σ H6 ⟨⟨y, rfl⟩, k6, g2, g3, B6, gp⟩
            rw [List.length_map, B6.len, List.take_length] at gp
            have p0 : H pl = none := KP.free k5 hpl0
            refine ⟨_, rfl, .inl ⟨rfl, _, SqL.of gp⟩, _, rfl, pl, tp, _, _, rfl, rfl, gp, g2, ?_, _, rfl, k pl _ p0 (KP.putL k6 p0 gp) ?_⟩
            · rw [nv_len, nv_len, sizeLine_eq]
              omega
            · rw [upd_same, pl_all, nv_append]
end
end DV
end
noncomputable section
set_option Elab.async false
set_option linter.all false
set_option maxRecDepth 100000
set_option maxHeartbeats 4000000
namespace DV
open PySem PySem.Spec PyProof.Rows L2
def spLeast (K : PySem.W.Frag) (t : Addr) : Sp := fun vs H Q _ => ∃ (c : Nat) (a : Addr) (w : List Nat), vs = [.int (c : Int), .ref a] ∧ c ≤ 9 ∧ SqL K H a (nv w) ∧ Few w ∧ TAt t H ∧ ∀ H' : Hp, KP t H H' → Q (.int (Mu41.least c w : Nat)) H'
def optV : Option Nat → V
  | none => .non
  | some n => .int (n : Int)
def spSoon (K : PySem.W.Frag) : Sp := fun vs H Q _ => ∃ (c : Nat) (a b : Addr) (w p : List Nat), vs = [.int (c : Int), .ref a, .ref b] ∧ SqL K H a (nv w) ∧ SqL K H b (nv p) ∧ w.length ≤ 6 ∧ p.length ≤ 60 ∧ ∀ H' : Hp, Same H H' → Q (optV (Mu41.tooSoon c w p)) H'
def spUnlike (K : PySem.W.Frag) : Sp := fun vs H Q _ => ∃ (a b : Addr) (w p : List Nat), vs = [.ref a, .ref b] ∧ SqL K H a (nv w) ∧ SqL K H b (nv p) ∧ ∀ H' : Hp, Same H H' → Q (optV (Mu41.unlike w p)) H'
def judgeA (c : Nat) (w p : List Nat) : List Int := match Mu41.tooSoon c w p, Mu41.unlike w p with
    | some t, _ => [-3, (t : Int)]
    | none, some i => [-4, (i : Int)]
    | none, none => [((p.length - Mu41.least c w : Nat) : Int)]
def spJudge (K : PySem.W.Frag) (t : Addr) : Sp := fun vs H Q _ => ∃ (c : Nat) (a b : Addr) (w p : List Nat), vs = [.int (c : Int), .ref a, .ref b] ∧ c ≤ 9 ∧ SqL K H a (nv w) ∧ SqL K H b (nv p) ∧ Few w ∧ p.length ≤ 60 ∧ TAt t H ∧
  ∀ (q : Addr) (H' : Hp), H q = none → KP t H H' → H' q = some (.lst ((judgeA c w p).map V.int)) → Q (.ref q) H'
def coolA (w : List Nat) (n : Nat) : List Int := match Mu41.cooling w n with
    | none => [-6]
    | some c => [(c : Int)]
def spCool (K : PySem.W.Frag) (t : Addr) : Sp := fun vs H Q _ => ∃ (n : Nat) (a : Addr) (w : List Nat), vs = [.int (n : Int), .ref a] ∧ SqL K H a (nv w) ∧ Few w ∧ TAt t H ∧
  ∀ (q : Addr) (H' : Hp), H q = none → KP t H H' → H' q = some (.lst ((coolA w n).map V.int)) → Q (.ref q) H'
theorem find_some {n i : Nat} {f : Nat → Bool} (hi : i < n) (h : f i = true) (hb : ∀ j, j < i → f j = false) : (List.range n).find? f = some i := by
  rw [List.find?_range_eq_some]
  exact ⟨h, List.mem_range.mpr hi, fun j hj => by rw [hb j hj]; rfl⟩
theorem find_none {n : Nat} {f : Nat → Bool} (h : ∀ j, j < n → f j = false) : (List.range n).find? f = none := by
  rw [List.find?_range_eq_none]
  exact fun j hj => by rw [h j hj]; rfl
def bad (c : Nat) (w p : List Nat) (t : Nat) : Bool := p.getD t 0 != 0 && (decide (w.length < p.getD t 0) || (List.range t).any fun (s : Nat) => p.getD s 0 == p.getD t 0 && decide (t - s ≤ c))
theorem soon_is (c : Nat) (w p : List Nat) : Mu41.tooSoon c w p = (List.range p.length).find? (bad c w p) := rfl
structure Cools (c : Nat) (p cs : List Nat) (i : Nat) : Prop where
  up : ∀ (f s : Nat), f < cs.length → s < i → p.getD s 0 = f + 1 → s + c + 1 ≤ cs.getD f 0
  is : ∀ f : Nat, f < cs.length → cs.getD f 0 = 0 ∨ ∃ s, s < i ∧ p.getD s 0 = f + 1 ∧ cs.getD f 0 = s + c + 1
theorem Cools.skip {c : Nat} {p cs : List Nat} {i : Nat} (C : Cools c p cs i) (h : p.getD i 0 = 0) : Cools c p cs (i + 1) := by
  refine ⟨fun f s hf hs e => ?_, fun f hf => ?_⟩
  · by_cases h1 : s = i
    · rw [h1, h] at e
      omega
    · exact C.up f s hf (by omega) e
  · rcases C.is f hf with q | ⟨s, h1, h2, h3⟩
    · exact .inl q
    · exact .inr ⟨s, by omega, h2, h3⟩
theorem Cools.put {c : Nat} {p cs : List Nat} {i f : Nat} (C : Cools c p cs i) (hf : f < cs.length) (h : p.getD i 0 = f + 1) (hn : ∀ s, s < i → p.getD s 0 = f + 1 → s + c + 1 ≤ i + c + 1) : Cools c p (cs.set f (i + c + 1)) (i + 1) := by
  have hg : ∀ g, (cs.set f (i + c + 1)).getD g 0 = if f = g then i + c + 1 else cs.getD g 0 := fun g => by
    rw [List.getD_eq_getElem?_getD, List.getElem?_set, List.getD_eq_getElem?_getD]
    by_cases e : f = g
    · subst e
      rw [if_pos rfl, if_pos hf, if_pos rfl]
      rfl
    · rw [if_neg e, if_neg e]
  refine ⟨fun g s hgl hs e => ?_, fun g hgl => ?_⟩
  · rw [List.length_set] at hgl
    rw [hg]
    by_cases e2 : f = g
    · subst e2
      rw [if_pos rfl]
      by_cases h1 : s = i
      · omega
      · exact hn s (by omega) e
    · rw [if_neg e2]
      by_cases h1 : s = i
      · rw [h1, h] at e
        omega
      · exact C.up g s hgl (by omega) e
  · rw [List.length_set] at hgl
    rw [hg]
    by_cases e2 : f = g
    · subst e2
      rw [if_pos rfl]
      exact .inr ⟨i, by omega, h, rfl⟩
    · rw [if_neg e2]
      rcases C.is g hgl with q | ⟨s, h1, h2, h3⟩
      · exact .inl q
      · exact .inr ⟨s, by omega, h2, h3⟩
theorem bad_warm {c : Nat} {w p cs : List Nat} {i f : Nat} (C : Cools c p cs i) (hl : cs.length = w.length) (hf : f < w.length) (h : p.getD i 0 = f + 1) : bad c w p i = decide (i < cs.getD f 0) := by
  unfold bad
  rw [h]
  have e1 : (f + 1 != 0) = true := by simp
  rw [e1, decide_eq_false (show ¬ w.length < f + 1 by omega), Bool.true_and, Bool.false_or]
  by_cases hw : i < cs.getD f 0
  · rw [decide_eq_true hw, List.any_eq_true]
    rcases C.is f (by omega) with q | ⟨s, h1, h2, h3⟩
    · omega
    · exact ⟨s, List.mem_range.mpr h1, by rw [h2, Bool.and_eq_true]; exact ⟨beq_self_eq_true _, decide_eq_true (by omega)⟩⟩
  · rw [decide_eq_false hw, List.any_eq_false]
    intro s hs q
    rw [Bool.and_eq_true, beq_iff_eq, decide_eq_true_eq] at q
    have := C.up f s (by omega) (List.mem_range.mp hs) q.1
    have := List.mem_range.mp hs
    omega
theorem bad_zero {c : Nat} {w p : List Nat} {i : Nat} (h : p.getD i 0 = 0) : bad c w p i = false := by
  unfold bad
  rw [h]
  rfl
theorem bad_none {c : Nat} {w p : List Nat} {i f : Nat} (hf : ¬ f < w.length) (h : p.getD i 0 = f + 1) : bad c w p i = true := by
  unfold bad
  rw [h, decide_eq_true (show w.length < f + 1 by omega)]
  simp
theorem cool_some {w : List Nat} {n c : Nat} (hc : c ≤ 5) (h : Mu41.least c w ≤ n) (hb : ∀ d, c < d → d ≤ 5 → ¬ Mu41.least d w ≤ n) : Mu41.cooling w n = some c := by
  unfold Mu41.cooling
  show (([0, 1, 2, 3, 4, 5] : List Nat).filter _).getLast? = some c
  have hb' : ∀ d, c < d → d ≤ 5 → decide (Mu41.least d w ≤ n) = false := fun d h1 h2 => decide_eq_false (hb d h1 h2)
  have h' : decide (Mu41.least c w ≤ n) = true := decide_eq_true h
  generalize hg : (fun (c : Nat) => decide (Mu41.least c w ≤ n)) = g
  have gb : ∀ d, c < d → d ≤ 5 → g d = false := fun d h1 h2 => by rw [← hg]; exact hb' d h1 h2
  have gc : g c = true := by rw [← hg]; exact h'
  have e : ([0, 1, 2, 3, 4, 5] : List Nat) = List.range c ++ [c] ++ (List.range' (c + 1) (5 - c)) := by
    rcases c with _ | _ | _ | _ | _ | _ | c
    · rfl
    · rfl
    · rfl
    · rfl
    · rfl
    · rfl
    · omega
  rw [e, List.filter_append, List.filter_append]
  have e2 : (List.range' (c + 1) (5 - c)).filter g = [] := by
    rw [List.filter_eq_nil_iff]
    intro d hd
    rw [List.mem_range'_1] at hd
    rw [gb d (by omega) (by omega)]
    decide
  rw [e2, List.append_nil, List.filter_cons_of_pos gc, List.filter_nil]
  exact List.getLast?_concat ..
theorem cool_none {w : List Nat} {n : Nat} (hb : ∀ d, d ≤ 5 → ¬ Mu41.least d w ≤ n) : Mu41.cooling w n = none := by
  unfold Mu41.cooling
  have : ((List.range (Mu41.COOL + 1)).filter fun (c : Nat) => decide (Mu41.least c w ≤ n)) = [] := by
    rw [List.filter_eq_nil_iff]
    intro d hd
    have : d < 6 := List.mem_range.mp hd
    rw [decide_eq_false (hb d (by omega))]
    decide
  rw [this]
  rfl
end DV
end
noncomputable section
set_option Elab.async false
set_option linter.all false
set_option maxRecDepth 100000
set_option maxHeartbeats 4000000
namespace DV
open PySem PySem.Spec PyProof.Rows L2
theorem isS {n : Int} {A B : Prop} (h : A) : if (!decide (V.int n = V.non)) = true then A else B := ite2 (fun _ => h) (fun z => absurd (by rw [decide_eq_false (fun q => nomatch q)]; rfl) z)
theorem isO {A B : Prop} (h : B) : if (!decide (V.non = V.non)) = true then A else B := ite2 (fun z => by rw [decide_eq_true rfl] at z; cases z) (fun _ => h)
theorem line2 : ([V.non, V.non] : List V).length ≤ sizeLine := by show 2 ≤ sizeLine; decide
theorem nv_set (l : List Nat) (j x : Nat) : (nv l).set j (.int (x : Int)) = nv (l.set j x) := by
  unfold nv
  rw [List.map_set]
theorem getD_of {l : List Nat} {i n : Nat} (h : l[i]? = some n) : l.getD i 0 = n := by rw [List.getD_eq_getElem?_getD, h]; rfl
theorem count_dips (ps : List Nat) (i : Nat) : ((Mu41.nums ps).count ((i : Int) + 1)) = (Mu41.dips ps i).length := by
  rw [MJ.dips_count]
  have e : ((i : Int) + 1) = ((i + 1 : Nat) : Int) := by omega
  rw [e]
  unfold Mu41.nums
  induction ps with
  | nil => rfl
  | cons x l ih =>
    rw [List.map_cons, List.count_cons, List.count_cons, ih]
    by_cases h : x = i + 1
    · subst h
      rw [if_pos (by simp), if_pos (by simp)]
    · rw [if_neg (by simp; omega), if_neg (by simp; omega)]
theorem judge_neg {c : Nat} {w p : List Nat} (h1 : Mu41.tooSoon c w p = none) (h2 : Mu41.unlike w p = none) : ((p.length : Int) - (Mu41.least c w : Nat)) = ((p.length - Mu41.least c w : Nat) : Int) := by
  have := MJ.least_le h1 h2
  omega
section
variable {P : Program} {w : World} {K : PySem.W.Frag} {mg : Str → Option Value} {base : Heap} {D : Dat} {cc t : Addr}
theorem ok_least_minutes (T : Txt K mg D) (G : Gr mg base D cc t) : FnOk P w K mg base CX0 3 D.f_least_minutes D.fd_least_minutes ["cools", "wanted"] (spLeast K t) := by
  refine T.F_least_minutes.ok sc_least_minutes (fun vs H Q E h => ?_) (fun cdv A outer s H vs Q E hr h => ?_)
  · obtain ⟨c, a, w, rfl, _⟩ := h
    rfl
  · obtain ⟨c, a, ws, rfl, hc9, hs, fw, hT, k⟩ := h
    refine ⟨_, (pss_one (ps_ret (pe_callB call_len_seq rfl T.n_len PySem.boot_len (pa_cons (pe_call (ok_best_plan T G) (hr.mono (by decide)) rfl T.gl_best_plan T.F_best_plan.kp T.b_best_plan .nil pass0 (pa_cons (pv 0) (pa_cons (pv 1) pa_nil))) pa_nil)))), ?_⟩
    refine ⟨_, rfl, _, rfl, c, a, ws, rfl, hc9, hs, fw, hT, fun p H' hp kp hl => ⟨p, _, rfl, .inl (SqL.of hl), ?_⟩⟩
    have := k H' kp
    rw [← ML.plan_length, ← nv_len] at this
    exact this
theorem ok_wrong_minute (T : Txt K mg D) : FnOk P w K mg base CX0 1 D.f_wrong_minute D.fd_wrong_minute ["cools", "wanted", "plan"] (spSoon K) := by
  refine T.F_wrong_minute.ok sc_wrong_minute (fun vs H Q E h => ?_) (fun cdv A outer s H vs Q E hr h => ?_)
  · obtain ⟨c, a, b, w, p, rfl, _⟩ := h
    rfl
  · obtain ⟨c, a, b, ws, ps, rfl, ha, hb, hw6, hp60, k⟩ := h
    refine ⟨_, (pss_cons (ps_set (i := 3) sc_wrong_minute.nd rfl (Or.inl rfl) (pe_op op_rep (pe_lst (pa_cons pe_int pa_nil)) (pe_callB call_len_seq rfl T.n_len PySem.boot_len (pa_cons (pv 1) pa_nil))))
      (pss_cons (ps_for PassesOwn.never rfl (pi_enum rfl T.n_enumerate (pa_cons (pv 2) pa_nil)) (pg_tup rfl (pgs_cons (pg_name (i := 4) sc_wrong_minute.nd rfl (Or.inl rfl)) (pgs_cons (pg_name (i := 5) sc_wrong_minute.nd rfl (Or.inl rfl)) pgs_nil)))
      (pss_cons (ps_if (pt_cmpR op_eq (pv 5) (pe_g rfl T.g_NOTHING) (nomark _))
      (pss_one ps_continue)
      pss_nil)
      (pss_cons (ps_set (i := 6) sc_wrong_minute.nd rfl (Or.inl rfl) (pe_op op_sub (pv 5) pe_int))
      (pss_cons (ps_if (PW.pt (pw_or (pt_cmpR op_ge (pv 6) (pe_callB call_len_seq rfl T.n_len PySem.boot_len (pa_cons (pv 1) pa_nil)) (nomark _)) (pw_or1 (pt_cmpR op_lt (pv 4) (pe_ix ix_list (pv 3) (pv 6) (fun _ _ => rfl)) (nomark _)))))
      (pss_one (ps_ret (pv 4)))
      pss_nil)
      (pss_one (ps_asg (pe_op op_add (pe_op op_add (pv 4) (pv 0)) pe_int) (pg_sub (pv 3) (pv 6) set_list)))))))
      (pss_one (ps_ret pe_non)))), ?_⟩
    refine ⟨line1, fun z hz => ⟨_, rfl, a, _, rfl, .inl ((Same.new hz).seq ha), z, _, _, rfl, rfl, upd_same, by rw [nv_len]; omega, by rw [nv_len]; omega, ?_, fun ca hca => ?_⟩⟩
    · show 1 * (((nv ws).length : Nat) : Int).toNat ≤ sizeLine
      rw [Int.toNat_natCast, nv_len, sizeLine_eq]
      omega
    have s1 : Same H (upd H z (.lst [.int 0])) := Same.new hz
    have ca0 : H ca = none := s1.free hca
    refine ⟨_, rfl, b, _, rfl, (s1.fresh hca).seq hb, for_enum (xs := nv ps) (fun i σ H' => (∃ x y u, σ = [some (.int (c : Int)), some (.ref a), some (.ref b), some (.ref ca), x, y, u]) ∧ Same H H' ∧ ∃ cs, cs.length = ws.length ∧ H' ca = some (.lst (nv cs)) ∧ Cools c ps cs i ∧ ∀ j, j < i → bad c ws ps j = false) ⟨⟨_, _, _, rfl⟩, s1.fresh hca, List.replicate ws.length 0, List.length_replicate, ?_, ⟨fun f s _ hs _ => absurd hs (Nat.not_lt_zero _), fun f _ => .inl ?_⟩, fun j hj => absurd hj (Nat.not_lt_zero _)⟩ (fun i σ H' _ q => q.2.1.seq hb) ?et ?ed⟩
    · rw [upd_same, ← rep_nv, nv_len, Int.toNat_natCast]
      rfl
    · rw [List.getD_eq_getElem?_getD, List.getElem?_replicate]
      split <;> rfl
    case et =>
      rintro i x σ H' Tt hx ⟨⟨y1, y2, y3, rfl⟩, sm, cs, hcl, hcs, C, nb⟩ hTt
      obtain ⟨n, rfl, hn⟩ := nv_at hx
      have hi : i < ps.length := (List.getElem?_eq_some_iff.mp hn).1
      have hgn := getD_of hn
      have s2 := sm.fresh (o := .tup [.int (i : Nat), .int (n : Int)]) hTt
      have hcs2 : upd H' Tt (.tup [.int (i : Nat), .int (n : Int)]) ca = some (.lst (nv cs)) := by rw [upd_ne (ne_of_none hcs hTt)]; exact hcs
      refine ⟨Tt, _, rfl, SqT.of upd_same, rfl, _, _, rfl, _, _, rfl, rfl, ?_⟩
      refine ⟨_, rfl, rfl, _, rfl, ite2 (fun h0 => ?_) (fun h0 => ?_)⟩
      · have h0' : n = 0 := by
          have := of_decide_eq_true h0
          injection this with this
          omega
        subst h0'
        refine ⟨⟨_, _, _, rfl⟩, s2, cs, hcl, hcs2, C.skip hgn, fun j hj => ?_⟩
        by_cases e : j = i
        · rw [e]
          exact bad_zero hgn
        · exact nb j (by omega)
      · have h0' : n ≠ 0 := fun z => h0 (decide_eq_true (by rw [z]; rfl))
        obtain ⟨f, rfl⟩ : ∃ f, n = f + 1 := ⟨n - 1, by omega⟩
        have ef : (((f + 1 : Nat) : Int) - 1) = (f : Int) := by omega
        refine ⟨_, rfl, _, _, rfl, rfl, _, rfl, _, rfl, a, _, rfl, .inl (s2.seq ha), _, _, rfl, rfl, _, rfl, ite2 (fun hc => ?_) (fun hc => ?_)⟩
        · refine iteT ⟨_, rfl, ?_⟩
          have hf : ¬ f < ws.length := by
            have := ydec hc
            rw [nv_len] at this
            omega
          have := k _ s2
          rw [soon_is, find_some hi (bad_none hf hgn) nb] at this
          exact this
        · have hf : f < ws.length := by
            have := ndec hc
            rw [nv_len] at this
            omega
          refine ⟨_, rfl, _, rfl, _, rfl, ca, _, _, _, rfl, rfl, SqL.of hcs2, at_of (j := f) ef (nv_get (by omega)), _, _, rfl, rfl, _, rfl, ite2 (fun hc2 => ?_) (fun hc2 => ?_)⟩
          · refine ⟨_, rfl, ?_⟩
            have hw : i < cs.getD f 0 := by have := ydec hc2; omega
            have := k _ s2
            rw [soon_is, find_some hi (by rw [bad_warm C hcl hf hgn]; exact decide_eq_true hw) nb] at this
            exact this
          · have hw : ¬ i < cs.getD f 0 := by have := ndec hc2; omega
            refine ⟨_, rfl, _, rfl, _, _, rfl, rfl, _, _, rfl, rfl, _, rfl, _, rfl, ca, _, _, f, rfl, rfl, hcs2, ?_, ⟨_, _, _, rfl⟩, ?_, cs.set f (i + c + 1), ?_, ?_, ?_, fun j hj => ?_⟩
            · rw [ef]
              unfold ixN
              rw [if_pos (by omega), if_pos (by rw [nv_len]; omega), Int.toNat_natCast]
            · exact s2.over ca0
            · rw [List.length_set]
              exact hcl
            · rw [upd_same]
              have e2 : ((i : Int) + (c : Int) + 1) = ((i + c + 1 : Nat) : Int) := by omega
              show some (HO.lst ((nv cs).set f (.int ((i : Int) + (c : Int) + 1)))) = _
              rw [e2, nv_set]
            · exact C.put (by omega) hgn fun s hs _ => by omega
            · by_cases e : j = i
              · rw [e, bad_warm C hcl hf hgn]
                exact decide_eq_false hw
              · exact nb j (by omega)
    case ed =>
      rintro σ H' ⟨_, sm, cs, _, _, _, nb⟩
      rw [nv_len] at nb
      have := k _ sm
      rw [soon_is, find_none nb] at this
      exact this
theorem ok_wrong_frame (T : Txt K mg D) : FnOk P w K mg base CX0 1 D.f_wrong_frame D.fd_wrong_frame ["wanted", "plan"] (spUnlike K) := by
  refine T.F_wrong_frame.ok sc_wrong_frame (fun vs H Q E h => ?_) (fun cdv A outer s H vs Q E hr h => ?_)
  · obtain ⟨a, b, w, p, rfl, _⟩ := h
    rfl
  · obtain ⟨a, b, ws, ps, rfl, ha, hb, k⟩ := h
    refine ⟨_, (pss_cons (ps_for PassesOwn.never rfl (pi_enum rfl T.n_enumerate (pa_cons (pv 0) pa_nil)) (pg_tup rfl (pgs_cons (pg_name (i := 2) sc_wrong_frame.nd rfl (Or.inl rfl)) (pgs_cons (pg_name (i := 3) sc_wrong_frame.nd rfl (Or.inl rfl)) pgs_nil)))
      (pss_one (ps_if (pt_cmpR op_ne (pe_bm PySem.F.plainAttrs_list PySem.F.slot_list_count PySem.F.type_list_count mt_countL (pv 1) (pa_cons (pe_op op_add (pv 2) pe_int) pa_nil)) (pv 3) (nomark _))
      (pss_one (ps_ret (pv 2)))
      pss_nil)))
      (pss_one (ps_ret pe_non))), ?_⟩
    have cnt : ∀ i : Nat, ((Mu41.nums ps).count ((i : Int) + 1)) = (Mu41.dips ps i).length := fun i => count_dips ps i
    refine ⟨_, rfl, a, _, rfl, ha, for_enum (xs := nv ws) (fun i σ H' => (∃ x y, σ = [some (.ref a), some (.ref b), x, y]) ∧ Same H H' ∧ ∀ j, j < i → ((Mu41.dips ps j).length != ws.getD j 0) = false) ⟨⟨_, _, rfl⟩, Same.refl H, fun j hj => absurd hj (Nat.not_lt_zero _)⟩ (fun i σ H' _ q => q.2.1.seq ha) ?et ?ed⟩
    case et =>
      rintro i x σ H' Tt hx ⟨⟨y1, y2, rfl⟩, sm, nb⟩ hTt
      obtain ⟨n, rfl, hn⟩ := nv_at hx
      have hi : i < ws.length := (List.getElem?_eq_some_iff.mp hn).1
      have hgn := getD_of hn
      have s2 := sm.fresh (o := .tup [.int (i : Nat), .int (n : Int)]) hTt
      have hb2 : SqL K (upd H' Tt (.tup [.int (i : Nat), .int (n : Int)])) b (nv ps) := s2.seq hb
      refine ⟨Tt, _, rfl, SqT.of upd_same, rfl, _, _, rfl, _, _, rfl, rfl, ?_⟩
      refine ⟨_, rfl, .inl ⟨rfl, _, hb2⟩, _, rfl, _, _, rfl, rfl, b, Mu41.nums ps, _, rfl, rfl, by rw [nv_nums]; exact hb2, _, rfl, rfl, _, rfl, ite2 (fun hc => ?_) (fun hc => ?_)⟩
      · refine ⟨_, rfl, ?_⟩
        have h1 : ((Mu41.dips ps i).length != ws.getD i 0) = true := by
          rw [hgn, ← cnt]
          rw [bne_iff_ne]
          intro z
          rw [Bool.not_eq_true', decide_eq_false_iff_not] at hc
          exact hc (by show V.int (((Mu41.nums ps).count ((i : Int) + 1) : Nat) : Int) = V.int (n : Int); rw [z])
        have := k _ s2
        unfold Mu41.unlike at this
        rw [find_some hi h1 nb] at this
        exact this
      · refine ⟨⟨_, _, rfl⟩, s2, fun j hj => ?_⟩
        by_cases e : j = i
        · rw [e, hgn, ← cnt, bne_eq_false_iff_eq]
          rw [Bool.not_eq_true, Bool.not_eq_false', decide_eq_true_eq] at hc
          have hc' : V.int (((Mu41.nums ps).count ((i : Int) + 1) : Nat) : Int) = V.int (n : Int) := hc
          injection hc' with hc'
          omega
        · exact nb j (by omega)
    case ed =>
      rintro σ H' ⟨_, sm, nb⟩
      rw [nv_len] at nb
      have := k _ sm
      unfold Mu41.unlike at this
      rw [find_none nb] at this
      exact this
theorem ok_judged (T : Txt K mg D) (G : Gr mg base D cc t) : FnOk P w K mg base CX0 4 D.f_judged D.fd_judged ["cools", "wanted", "plan"] (spJudge K t) := by
  refine T.F_judged.ok sc_judged (fun vs H Q E h => ?_) (fun cdv A outer s H vs Q E hr h => ?_)
  · obtain ⟨c, a, b, w, p, rfl, _⟩ := h
    rfl
  · obtain ⟨c, a, b, ws, ps, rfl, hc9, ha, hb, fw, hp60, hT, k⟩ := h
    refine ⟨_, (pss_cons (ps_set (i := 3) sc_judged.nd rfl (Or.inl rfl) (pe_call (ok_wrong_minute T) (hr.mono (by decide)) rfl T.gl_wrong_minute T.F_wrong_minute.kp T.b_wrong_minute .nil pass0 (pa_cons (pv 0) (pa_cons (pv 1) (pa_cons (pv 2) pa_nil)))))
      (pss_cons (ps_if (pt_cmpR op_notN (pv 3) pe_non (nomark _))
      (pss_one (ps_ret (pe_lst (pa_cons (pe_g rfl T.g_WRONG_MINUTE) (pa_cons (pv 3) pa_nil)))))
      pss_nil)
      (pss_cons (ps_set (i := 4) sc_judged.nd rfl (Or.inl rfl) (pe_call (ok_wrong_frame T) (hr.mono (by decide)) rfl T.gl_wrong_frame T.F_wrong_frame.kp T.b_wrong_frame .nil pass0 (pa_cons (pv 1) (pa_cons (pv 2) pa_nil))))
      (pss_cons (ps_if (pt_cmpR op_notN (pv 4) pe_non (nomark _))
      (pss_one (ps_ret (pe_lst (pa_cons (pe_g rfl T.g_WRONG_FRAME) (pa_cons (pv 4) pa_nil)))))
      pss_nil)
      (pss_one (ps_ret (pe_lst (pa_cons (pe_op op_sub (pe_callB call_len_seq rfl T.n_len PySem.boot_len (pa_cons (pv 2) pa_nil)) (pe_call (ok_least_minutes T G) (hr.mono (by decide)) rfl T.gl_least_minutes T.F_least_minutes.kp T.b_least_minutes .nil pass0 (pa_cons (pv 0) (pa_cons (pv 1) pa_nil)))) pa_nil)))))))), ?_⟩
    refine ⟨_, rfl, _, rfl, _, rfl, c, a, b, ws, ps, rfl, ha, hb, fw.len, hp60, fun H1 s1 => ?_⟩
    cases e1 : Mu41.tooSoon c ws ps with
    | some m =>
      refine ⟨_, rfl, rfl, _, rfl, isS ⟨_, rfl, line2, fun q hq => k q _ (s1.free hq) (KP.of hT (s1.fresh hq)) ?_⟩⟩
      rw [upd_same]
      unfold judgeA
      rw [e1]
      rfl
    | none =>
      refine ⟨_, rfl, rfl, _, rfl, isO ?_⟩
      refine ⟨_, rfl, _, rfl, a, b, ws, ps, rfl, s1.seq ha, s1.seq hb, fun H2 s2 => ?_⟩
      have s12 := s1.trans s2
      cases e2 : Mu41.unlike ws ps with
      | some m =>
        refine ⟨_, rfl, rfl, _, rfl, isS ⟨_, rfl, line2, fun q hq => k q _ (s12.free hq) (KP.of hT (s12.fresh hq)) ?_⟩⟩
        rw [upd_same]
        unfold judgeA
        rw [e1, e2]
        rfl
      | none =>
        refine ⟨_, rfl, rfl, _, rfl, isO ?_⟩
        refine ⟨_, rfl, b, _, rfl, .inl (s12.seq hb), _, rfl, _, rfl, c, a, ws, rfl, hc9, s12.seq ha, fw, hT.same s12, fun H3 k3 => ⟨_, _, rfl, rfl, line1, fun q hq => ?_⟩⟩
        have k13 : KP t H H3 := KP.trans (KP.of hT s12) k3
        refine k q _ (KP.free k13 hq) (KP.new k13 hq) ?_
        rw [upd_same]
        unfold judgeA
        rw [e1, e2]
        show some (HO.lst [V.int ((((nv ps).length : Nat) : Int) - (Mu41.least c ws : Nat))]) = _
        rw [nv_len, judge_neg e1 e2]
        rfl
theorem ok_longest_cooling (T : Txt K mg D) (G : Gr mg base D cc t) : FnOk P w K mg base CX0 4 D.f_longest_cooling D.fd_longest_cooling ["minutes", "wanted"] (spCool K t) := by
  refine T.F_longest_cooling.ok sc_longest_cooling (fun vs H Q E h => ?_) (fun cdv A outer s H vs Q E hr h => ?_)
  · obtain ⟨n, a, w, rfl, _⟩ := h
    rfl
  · obtain ⟨n, a, ws, rfl, ha, fw, hT, k⟩ := h
    refine ⟨_, (pss_cons (ps_for PassesOwn.never rfl (pi_range3 rfl T.n_range (pa_cons (pe_g rfl T.g_MOST_COOLS) (pa_cons (pe_un un_neg pe_int) (pa_cons (pe_un un_neg pe_int) pa_nil)))) (pg_name (i := 2) sc_longest_cooling.nd rfl (Or.inl rfl))
      (pss_one (ps_if (pt_cmpR op_le (pe_call (ok_least_minutes T G) (hr.mono (by decide)) rfl T.gl_least_minutes T.F_least_minutes.kp T.b_least_minutes .nil pass0 (pa_cons (pv 2) (pa_cons (pv 1) pa_nil))) (pv 0) (nomark _))
      (pss_one (ps_ret (pe_lst (pa_cons (pv 2) pa_nil))))
      pss_nil)))
      (pss_one (ps_ret (pe_lst (pa_cons (pe_g rfl T.g_NO_COOLING) pa_nil))))), ?_⟩
    refine ⟨_, rfl, _, rfl, 5, -1, -1, 6, rfl, RgC.neg (by omega) (by omega) (by omega) (by omega), for_rangeC (lo := 5) (c := -1) (n := 6) (fun i σ H' => (∃ x, σ = [some (.int (n : Int)), some (.ref a), x]) ∧ KP t H H' ∧ ∀ d, d + i > 5 → d ≤ 5 → ¬ Mu41.least d ws ≤ n) ⟨⟨_, rfl⟩, KP.refl hT, fun d h1 h2 => by omega⟩ ?rt ?rd⟩
    case rt =>
      rintro i σ H' hi ⟨⟨x, rfl⟩, kk, nb⟩
      have ec : ((5 : Int) + (i : Nat) * (-1)) = ((5 - i : Nat) : Int) := by omega
      refine ⟨_, rfl, _, rfl, 5 - i, a, ws, by rw [ec]; rfl, by omega, KP.seq kk hT ha, fw, kk.tab, fun H2 k2 => ⟨_, rfl, _, _, rfl, rfl, _, rfl, ite2 (fun hc => ?_) (fun hc => ?_)⟩⟩
      · have hl : Mu41.least (5 - i) ws ≤ n := by have := ydec hc; omega
        have k3 := KP.trans kk k2
        refine ⟨_, rfl, line1, fun q hq => k q _ (KP.free k3 hq) (KP.new k3 hq) ?_⟩
        rw [upd_same]
        unfold coolA
        rw [cool_some (by omega) hl fun d h1 h2 => nb d (by omega) h2]
        show some (HO.lst [V.int ((5 : Int) + (i : Nat) * (-1))]) = _
        rw [ec]
        rfl
      · refine ⟨⟨_, rfl⟩, KP.trans kk k2, fun d h1 h2 => ?_⟩
        by_cases e : d = 5 - i
        · rw [e]
          have := ndec hc
          omega
        · exact nb d (by omega) h2
    case rd =>
      rintro σ H' ⟨_, kk, nb⟩
      refine ⟨line1, fun q hq => k q _ (KP.free kk hq) (KP.new kk hq) ?_⟩
      rw [upd_same]
      unfold coolA
      rw [cool_none fun d h => nb d (by omega) h]
      rfl
end
end DV
end
noncomputable section
set_option Elab.async false
set_option linter.all false
set_option maxRecDepth 100000
set_option maxHeartbeats 4000000
namespace DV
open PySem PySem.Spec PyProof.Rows L2
structure DidT (D : Dat) (t : Addr) (H : Hp) (p l : Addr) (as : List Addr) (H' : Hp) (s' : Mu41.State) (as' : List Addr) : Prop where
  shop : ShopAt D H' p s' l as'
  new : ∀ a ∈ as', a ∈ as ∨ H a = none
  kept : ∀ b o, H b = some o → b ≠ t → b ≠ p → b ≠ l → b ∉ as → H' b = some o
  tab : TAt t H'
def OutT (D : Dat) (t : Addr) (H : Hp) (p l : Addr) (as : List Addr) (s' : Mu41.State) (zs : List Int) (Q : VK) : Prop :=
  ∀ (H' : Hp) (as' : List Addr) (q : Addr), DidT D t H p l as H' s' as' → H q = none → H' q = some (.lst (zs.map V.int)) → Q (.ref q) H'
section
variable {D : Dat} {t : Addr} {H H' : Hp} {p l : Addr} {as as' : List Addr} {s s' : Mu41.State}
theorem ShopAt.nt (B : ShopAt D H p s l as) (h : TAt t H) : t ≠ p ∧ t ≠ l ∧ t ∉ as := by
  obtain ⟨ps, e⟩ := TAt.some_ h
  refine ⟨?_, ?_, fun m => ?_⟩
  · obtain ⟨dx, hp⟩ := B.obj
    exact ne_of e hp (fun z => nomatch z)
  · exact ne_of e B.lst (fun z => nomatch z)
  · obtain ⟨_, _, _, _, dx, ha⟩ := B.mem m
    rw [e] at ha
    cases ha
theorem ShopAt.nx (B : ShopAt D H p s l as) {c : Addr} {f : Heap → Prop} (e : H c = some (.ext f)) : c ≠ p ∧ c ≠ l ∧ c ∉ as := by
  refine ⟨?_, ?_, fun m => ?_⟩
  · obtain ⟨dx, hp⟩ := B.obj
    exact ne_of e hp (fun z => nomatch z)
  · exact ne_of e B.lst (fun z => nomatch z)
  · obtain ⟨_, _, _, _, dx, ha⟩ := B.mem m
    rw [e] at ha
    cases ha
theorem Did.tab (d : Did D H p l as H' s' as') (B : ShopAt D H p s l as) (h : TAt t H) : TAt t H' := by
  obtain ⟨h1, h2, h3⟩ := B.nt h
  rcases h with h | ⟨c, hc, hd⟩
  · exact .inl (d.kept _ _ h h1 h2 h3)
  · obtain ⟨g1, g2, g3⟩ := B.nx hd
    exact .inr ⟨c, d.kept _ _ hc h1 h2 h3, d.kept _ _ hd g1 g2 g3⟩
theorem Did.toT (d : Did D H p l as H' s' as') (B : ShopAt D H p s l as) (h : TAt t H) : DidT D t H p l as H' s' as' := ⟨d.shop, d.new, fun b o e _ h1 h2 h3 => d.kept b o e h1 h2 h3, Did.tab d B h⟩
theorem ShopAt.kp (B : ShopAt D H p s l as) (h : TAt t H) (k : KP t H H') : ShopAt D H' p s l as := by
  obtain ⟨h1, h2, h3⟩ := B.nt h
  refine B.keep fun b o e z => k.same b o e fun q => ?_
  rcases z with z | z | z
  · exact h1 (q.symm.trans z)
  · exact h2 (q.symm.trans z)
  · exact h3 (by rw [← q]; exact z)
theorem KP.toT (k : KP t H H') (B : ShopAt D H p s l as) (h : TAt t H) : DidT D t H p l as H' s as := ⟨ShopAt.kp B h k, fun _ q => .inl q, fun b o e n _ _ _ => k.same b o e n, k.tab⟩
theorem OutT.of {zs : List Int} {Q : VK} (k : OutT D t H p l as s' zs Q) (B : ShopAt D H p s l as) (h : TAt t H) : Out D H p l as s' zs Q := fun H' as' q d hq hl => k H' as' q (Did.toT d B h) hq hl
end
def spLeft (D : Dat) : Sp := fun vs H Q _ => ∃ (p : Addr) (f : Mu41.Frame), vs = [.ref p] ∧ FrameAt D H p f ∧ Q (.int ((f.wants - f.layers : Nat) : Int)) H
def tSold (K : PySem.W.Frag) (i : Nat) : TT := fun σ H Q => tFld K (tVar i) "sold" σ H fun x H' => ∃ k, TruV K x H' k ∧ Q k H'
def spInit (D : Dat) : Sp := fun vs H Q _ => ∃ (p dx : Addr) (c x : Nat), vs = [.ref p, .int (c : Int), .int (x : Int)] ∧ H p = some (.ins D.C_Workshop dx []) ∧ ∀ (H' : Hp) (l : Addr), ShopAt D H' p ⟨c, [], 0, x, x, 0⟩ l [] → H l = none → (∀ b o, H b = some o → b ≠ p → H' b = some o) → Q .non H'
def spRest (D : Dat) (t : Addr) : Sp := fun vs H Q _ => ∃ (p : Addr) (s : Mu41.State) (l : Addr) (as : List Addr), vs = [.ref p] ∧ ShopAt D H p s l as ∧ MS.Nice s ∧ TAt t H ∧ OutT D t H p l as s (Mu41.nums (Mu41.least s.cooling (Mu41.wanted s) :: Mu41.wanted s)) Q
def spBook (D : Dat) : Sp := fun vs H Q _ => ∃ (p : Addr) (s : Mu41.State) (l : Addr) (as : List Addr), vs = [.ref p] ∧ ShopAt D H p s l as ∧ MS.Nice s ∧ Out D H p l as s (Mu41.nums [s.time, s.vat, Mu41.standing s, s.sold, s.bought]) Q
def spFollow (D : Dat) : Sp := fun vs H Q _ => ∃ (p b : Addr) (s : Mu41.State) (l : Addr) (as : List Addr) (ps : List Nat), vs = [.ref p, .ref b] ∧ ShopAt D H p s l as ∧ H b = some (.lst (nv ps)) ∧ b ≠ l ∧ ps.length ≤ 60 ∧ Out D H p l as (Mu41.followed s ps).1 [((Mu41.followed s ps).2 : Int), ((Mu41.followed s ps).1.time : Int)] Q
section
variable {P : Program} {w : World} {K : PySem.W.Frag} {mg : Str → Option Value} {base : Heap} {D : Dat} {cc t : Addr}
theorem ok_Frame_layers_left (T : Txt K mg D) : FnOk P w K mg base CX0 1 D.f_Frame_layers_left D.fd_Frame_layers_left ["self"] (spLeft D) := by
  refine T.F_Frame_layers_left.ok sc_Frame_layers_left (fun vs H Q E h => ?_) (fun cdv A outer s H vs Q E hr h => ?_)
  · obtain ⟨p, f, rfl, _⟩ := h
    rfl
  · obtain ⟨p, f, rfl, ⟨dx, hp⟩, k⟩ := h
    refine ⟨_, (pss_one (ps_ret (pe_callB (call_max2 rfl) rfl T.n_max boot_max (pa_cons pe_int (pa_cons (pe_op op_sub (pe_fld (pv 0) rfl) (pe_fld (pv 0) rfl)) pa_nil))))), ?_⟩
    refine ⟨_, rfl, p, _, dx, _, _, rfl, hp, T.cl_Frame, T.na_Frame_wanted, ff_wanted _ _ _ _, _, rfl, p, _, dx, _, _, rfl, hp, T.cl_Frame, T.na_Frame_layers, ff_layers _ _ _ _, _, _, rfl, rfl, _, _, rfl, ?_⟩
    have e : (if (f.wants : Int) - f.layers > 0 then (f.wants : Int) - f.layers else 0) = ((f.wants - f.layers : Nat) : Int) := by split <;> omega
    show Q (.int (if (f.wants : Int) - f.layers > 0 then (f.wants : Int) - f.layers else 0)) H
    rw [e]
    exact k
theorem ok_Workshop_init (T : Txt K mg D) : FnOk P w K mg base CX0 1 D.f_Workshop_init D.fd_Workshop_init ["self", "cools", "wax"] (spInit D) := by
  refine T.F_Workshop_init.ok sc_Workshop_init (fun vs H Q E h => ?_) (fun cdv A outer s H vs Q E hr h => ?_)
  · obtain ⟨p, dx, c, x, rfl, _⟩ := h
    rfl
  · obtain ⟨p, dx, c, x, rfl, hp, k⟩ := h
    refine ⟨_, (pss_cons (ps_fld (pv 0) (pv 1) rfl)
      (pss_cons (ps_fld (pv 0) pe_int rfl)
      (pss_cons (ps_fld (pv 0) (pv 2) rfl)
      (pss_cons (ps_fld (pv 0) (pv 2) rfl)
      (pss_one (ps_fld (pv 0) (pe_lst pa_nil) rfl)))))), ?_⟩
    refine ⟨_, rfl, _, rfl, p, _, dx, _, rfl, hp, T.cl_Workshop, T.na_Workshop_cools, (by show 0 < 1000; decide), ?_⟩
    refine ⟨_, rfl, p, _, dx, _, rfl, upd_same, T.cl_Workshop, T.na_Workshop_minute, (by show 1 < 1000; decide), ?_⟩
    refine ⟨_, rfl, _, rfl, p, _, dx, _, rfl, upd_same, T.cl_Workshop, T.na_Workshop_vat, (by show 2 < 1000; decide), ?_⟩
    refine ⟨_, rfl, _, rfl, p, _, dx, _, rfl, upd_same, T.cl_Workshop, T.na_Workshop_bought, (by show 3 < 1000; decide), ?_⟩
    refine ⟨Nat.zero_le _, fun l hl => ?_⟩
    have pl : p ≠ l := ne_of_none upd_same hl
    refine ⟨_, rfl, p, _, dx, _, rfl, (upd_ne pl).trans upd_same, T.cl_Workshop, T.na_Workshop_frames, (by show 4 < 1000; decide), ?_⟩
    · rw [upd_upd, upd_upd, upd_upd] at hl
      have hl0 : H l = none := upd_none hl
      refine k _ l ⟨⟨dx, upd_same⟩, ?_, List.nodup_nil, rfl, fun j a f h1 _ => (by simp at h1), ⟨Nat.zero_le _, fun f hf => (by simp at hf)⟩⟩ hl0 fun b o e hb => ?_
      · rw [upd_ne pl.symm]
        exact upd_same
      · rw [upd_ne hb, upd_ne (ne_of_none e hl0), upd_upd, upd_upd, upd_upd, upd_ne hb]
        exact e
end
end DV
end
noncomputable section
set_option Elab.async false
set_option linter.all false
set_option maxRecDepth 100000
set_option maxHeartbeats 4000000
namespace DV
open PySem PySem.Spec PyProof.Rows L2
theorem few_wanted {s : Mu41.State} (N : MS.Nice s) (g : Good s) : Few (Mu41.wanted s) := by
  rw [MS.wanted_is N]
  refine ⟨by rw [List.length_map]; exact g.few, fun x hx => ?_⟩
  obtain ⟨f, hf, rfl⟩ := List.mem_map.mp hx
  have := N.want f hf
  omega
theorem ref_at {as : List Addr} {i : Nat} {x : V} (h : (as.map V.ref)[i]? = some x) : ∃ a, as[i]? = some a ∧ V.ref a = x := by
  rw [List.getElem?_map] at h
  cases e : as[i]? with
  | none => rw [e] at h; cases h
  | some a => rw [e] at h; exact ⟨a, rfl, Option.some.inj h⟩
theorem Did.same {D : Dat} {H H' : Hp} {p l : Addr} {as : List Addr} {s : Mu41.State} (B : ShopAt D H p s l as) (h : Same H H') : Did D H p l as H' s as := ⟨B.keep fun b o e _ => h b o e, fun _ q => .inl q, fun _ q => q, fun b o e _ _ _ => h b o e⟩
theorem walk_frames {D : Dat} {H : Hp} {p l R : Addr} {as : List Addr} {s : Mu41.State} (B : ShopAt D H p s l as) {i : Nat} {x : V} {H' : Hp} (sm : Same H H') (hx : (as.map V.ref)[i]? = some x) :
    ∃ a f dx, x = .ref a ∧ s.frames[i]? = some f ∧ H' a = some (.ins D.C_Frame dx (ff f.wants f.layers f.cool (!f.there))) ∧ f.layers ≤ 6 ∧ i < s.frames.length := by
  obtain ⟨a, ha, rfl⟩ := ref_at hx
  have hi : i < s.frames.length := by rw [← B.len]; exact (List.getElem?_eq_some_iff.mp ha).1
  obtain ⟨dx, h⟩ := B.at_ i a _ ha (List.getElem?_eq_getElem hi)
  exact ⟨a, _, dx, rfl, List.getElem?_eq_getElem hi, sm _ _ h, B.good.low _ (List.getElem_mem hi), hi⟩
theorem sum_nums (l : List Nat) : (Mu41.nums l).sum = ((l.sum : Nat) : Int) := by
  unfold Mu41.nums
  induction l with
  | nil => rfl
  | cons x l ih =>
    rw [List.map_cons, List.sum_cons, List.sum_cons, ih]
    omega
theorem iteT' {z : Int} {A B : Prop} (h : z < 0) (a : A) : if decide (z < 0) = true then A else B := ite2 (fun _ => a) (fun n => absurd (decide_eq_true h) n)
theorem iteF' {z : Int} {A B : Prop} (h : ¬ z < 0) (b : B) : if decide (z < 0) = true then A else B := ite2 (fun n => absurd (of_decide_eq_true n) h) (fun _ => b)
section
variable {P : Program} {w : World} {K : PySem.W.Frag} {mg : Str → Option Value} {base : Heap} {D : Dat} {cc t : Addr}
theorem ok_Workshop_rest (T : Txt K mg D) (G : Gr mg base D cc t) : FnOk P w K mg base CX0 4 D.f_Workshop_rest D.fd_Workshop_rest ["self"] (spRest D t) := by
  refine T.F_Workshop_rest.ok sc_Workshop_rest (fun vs H Q E h => ?_) (fun cdv A outer s H vs Q E hr h => ?_)
  · obtain ⟨p, st, l, as, rfl, _⟩ := h
    rfl
  · obtain ⟨p, st, l, as, rfl, B, N, hT, k⟩ := h
    obtain ⟨dx, hp⟩ := B.obj
    refine ⟨_, (pss_cons (ps_setLc (i := 1) (hy := rfl) (hyl := rfl) (hsw := sw_true rfl rfl rfl rfl) (g := gName 2) (tt := tYes) (te := (tMeth D.C_Frame "layers_left" (spLeft D) [] E0 (tVar 2) tNil)) (hc := rfl) (hN := sc_Workshop_rest.nd) (pi_list (pe_fld (pv 0) rfl)) (blkOk_by (own := [("frame", 2)]) (by kernel_rfl)) (fun _ _ _ _ _ => pg_name (i := 2) sc_Workshop_rest.nd rfl (Or.inl rfl)) (fun _ _ _ _ _ => pts_nil) (fun _ _ _ _ _ => (pe_meth0 (pv 2) T.cl_Frame T.m_Frame_layers_left (ok_Frame_layers_left T) (hr.mono (by decide)) T.b_Frame_layers_left .nil pass0)))
      (pss_one (ps_ret (pe_op op_cat (pe_lst (pa_cons (pe_call (ok_least_minutes T G) (hr.mono (by decide)) rfl T.gl_least_minutes T.F_least_minutes.kp T.b_least_minutes .nil pass0 (pa_cons (pe_fld (pv 0) rfl) (pa_cons (pv 1) pa_nil))) pa_nil)) (pv 1))))), ?_⟩
    refine ⟨_, rfl, p, _, dx, _, _, rfl, hp, T.cl_Workshop, T.na_Workshop_frames, wf_frames _ _ _ _ _, l, rfl, ⟨_, SqL.of B.lst⟩, fun R hR => lc_list (xs := as.map V.ref) (fun i H' => Same H H' ∧ H' R = some (.lst (nv ((st.frames.take i).map fun (f : Mu41.Frame) => f.wants - f.layers)))) ⟨Same.new hR, upd_same⟩ (fun i H' _ q => q.1.seq (SqL.of B.lst)) ?lt ?ld⟩
    case lt =>
      rintro i x H' hx ⟨sm, hl⟩
      obtain ⟨a, f, dy, rfl, hf, hy, hlo, hi⟩ := walk_frames (R := R) B sm hx
      refine ⟨rfl, _, rfl, a, dy, _, rfl, hy, rfl, a, f, rfl, ⟨dy, hy⟩, _, hl, ?_, sm.over hR, ?_⟩
      · rw [nv_len, List.length_map, List.length_take, sizeLine_eq]
        have := B.good.few
        omega
      · rw [upd_same, take_snoc hf, List.map_append, nv_append]
        rfl
    case ld =>
      rintro H2 ⟨sm, hl⟩
      rw [List.length_map, B.len, List.take_length, ← MS.wanted_is N] at hl
      have fw := few_wanted N B.good
      refine ⟨_, rfl, p, _, dx, _, _, rfl, sm _ _ hp, T.cl_Workshop, T.na_Workshop_cools, wf_cools _ _ _ _ _, _, rfl, st.cooling, R, Mu41.wanted st, rfl, (by have := N.cools; omega), SqL.of hl, fw, hT.same sm, fun H3 k3 => ⟨line1, fun q hq => ?_⟩⟩
      have hl3 : H3 R = some (.lst (nv (Mu41.wanted st))) := KP.lst k3 (hT.same sm) hl
      have k13 : KP t H H3 := KP.trans (KP.of hT sm) k3
      have k4 := KP.new (o := .lst [.int ((Mu41.least st.cooling (Mu41.wanted st) : Nat) : Int)]) k13 hq
      have hl4 : upd H3 q (.lst [.int ((Mu41.least st.cooling (Mu41.wanted st) : Nat) : Int)]) R = some (.lst (nv (Mu41.wanted st))) := by rw [upd_ne (ne_of_none hl3 hq)]; exact hl3
      refine ⟨_, rfl, q, R, _, _, rfl, rfl, upd_same, hl4, ?_, fun r hr => k _ as r (KP.toT (KP.new k4 hr) B hT) (KP.free k4 hr) ?_⟩
      · rw [nv_len, sizeLine_eq]
        have := fw.len
        show 1 + _ ≤ _
        omega
      · rw [upd_same, ← nv_nums]
        rfl
theorem ok_Workshop_book (T : Txt K mg D) : FnOk P w K mg base CX0 2 D.f_Workshop_book D.fd_Workshop_book ["self"] (spBook D) := by
  refine T.F_Workshop_book.ok sc_Workshop_book (fun vs H Q E h => ?_) (fun cdv A outer s H vs Q E hr h => ?_)
  · obtain ⟨p, st, l, as, rfl, _⟩ := h
    rfl
  · obtain ⟨p, st, l, as, rfl, B, N, k⟩ := h
    obtain ⟨dx, hp⟩ := B.obj
    refine ⟨_, (pss_cons (ps_set (i := 1) sc_Workshop_book.nd rfl (Or.inl rfl) (pe_callB (cr_sum rfl) rfl T.n_sum boot_sum (pa_cons (pe_lc (g := gName 3) (tt := (tNot (tSold K 3))) (te := (tMeth D.C_Frame "wax_held" (spHeld D) [] E0 (tVar 3) tNil)) rfl sc_Workshop_book.nd (pi_list (pe_fld (pv 0) rfl)) (blkOk_by (own := [("frame", 3)]) (by kernel_rfl)) (fun _ _ _ _ _ => pg_name (i := 3) sc_Workshop_book.nd rfl (Or.inl rfl)) (fun _ _ _ _ _ => (pts_one (pt_not (pt_truth (pe_fld (pv 3) rfl) (fun _ => rfl))))) (fun _ _ _ _ _ => (pe_meth0 (pv 3) T.cl_Frame T.m_Frame_wax_held (ok_Frame_wax_held T) (hr.mono (by decide)) T.b_Frame_wax_held .nil pass0))) pa_nil)))
      (pss_cons (ps_set (i := 2) sc_Workshop_book.nd rfl (Or.inl rfl) (pe_callB (cr_sum rfl) rfl T.n_sum boot_sum (pa_cons (pe_lc (g := gName 3) (tt := (tSold K 3)) (te := (tMeth D.C_Frame "wax_held" (spHeld D) [] E0 (tVar 3) tNil)) rfl sc_Workshop_book.nd (pi_list (pe_fld (pv 0) rfl)) (blkOk_by (own := [("frame", 3)]) (by kernel_rfl)) (fun _ _ _ _ _ => pg_name (i := 3) sc_Workshop_book.nd rfl (Or.inl rfl)) (fun _ _ _ _ _ => (pts_one (pt_truth (pe_fld (pv 3) rfl) (fun _ => rfl)))) (fun _ _ _ _ _ => (pe_meth0 (pv 3) T.cl_Frame T.m_Frame_wax_held (ok_Frame_wax_held T) (hr.mono (by decide)) T.b_Frame_wax_held .nil pass0))) pa_nil)))
      (pss_one (ps_ret (pe_lst (pa_cons (pe_fld (pv 0) rfl) (pa_cons (pe_fld (pv 0) rfl) (pa_cons (pv 1) (pa_cons (pv 2) (pa_cons (pe_fld (pv 0) rfl) pa_nil)))))))))), ?_⟩
    refine ⟨_, rfl, p, _, dx, _, _, rfl, hp, T.cl_Workshop, T.na_Workshop_frames, wf_frames _ _ _ _ _, l, rfl, ⟨_, SqL.of B.lst⟩, fun R hR => lc_list (xs := as.map V.ref) (fun i H' => Same H H' ∧ H' R = some (.lst (nv (((st.frames.take i).filter fun (f : Mu41.Frame) => f.there).map fun (f : Mu41.Frame) => Mu41.wax f.layers)))) ⟨Same.new hR, upd_same⟩ (fun i H' _ q => q.1.seq (SqL.of B.lst)) ?lt ?ld⟩
    case lt =>
      rintro i x H' hx ⟨sm, hl⟩
      obtain ⟨a, f, dy, rfl, hf, hy, hlo, hi⟩ := walk_frames (R := R) B sm hx
      refine ⟨rfl, _, rfl, a, _, dy, _, _, rfl, hy, T.cl_Frame, T.na_Frame_sold, ff_sold _ _ _ _, _, rfl, ?_⟩
      cases et : f.there with
      | true =>
        refine iteT ⟨_, rfl, a, dy, _, rfl, hy, rfl, a, f, rfl, ⟨dy, hy⟩, by omega, _, hl, ?_, sm.over hR, ?_⟩
        · rw [nv_len, List.length_map]
          have h1 := List.length_filter_le (fun (f : Mu41.Frame) => f.there) (st.frames.take i)
          rw [List.length_take] at h1
          have := B.good.few
          rw [sizeLine_eq]
          omega
        · rw [upd_same, take_snoc hf, List.filter_append, List.filter_cons_of_pos et, List.map_append, nv_append]
          rfl
      | false =>
        refine iteF ⟨sm, ?_⟩
        rw [take_snoc hf, List.filter_append, List.filter_cons_of_neg (by rw [et]; decide), List.filter_nil, List.append_nil]
        exact hl
    case ld =>
      rintro H2 ⟨sm, hl⟩
      rw [List.length_map, B.len, List.take_length] at hl
      have B2 := (Did.same B sm).shop
      refine ⟨R, _, rfl, by rw [nv_nums]; exact SqL.of hl, ?_⟩
      refine ⟨_, rfl, p, _, dx, _, _, rfl, sm _ _ hp, T.cl_Workshop, T.na_Workshop_frames, wf_frames _ _ _ _ _, l, rfl, ⟨_, SqL.of B2.lst⟩, fun R2 hR2 => lc_list (xs := as.map V.ref) (fun i H' => Same H2 H' ∧ H' R2 = some (.lst (nv (((st.frames.take i).filter fun (f : Mu41.Frame) => !f.there).map fun (f : Mu41.Frame) => Mu41.wax f.layers)))) ⟨Same.new hR2, upd_same⟩ (fun i H' _ q => q.1.seq (SqL.of B2.lst)) ?lt2 ?ld2⟩
      case lt2 =>
        rintro i x H' hx ⟨sm, hl⟩
        obtain ⟨a, f, dy, rfl, hf, hy, hlo, hi⟩ := walk_frames (R := R) B2 sm hx
        refine ⟨rfl, _, rfl, a, _, dy, _, _, rfl, hy, T.cl_Frame, T.na_Frame_sold, ff_sold _ _ _ _, _, rfl, ?_⟩
        cases et : f.there with
        | false =>
          refine iteT ⟨_, rfl, a, dy, _, rfl, hy, rfl, a, f, rfl, ⟨dy, hy⟩, by omega, _, hl, ?_, sm.over hR2, ?_⟩
          · rw [nv_len, List.length_map]
            have h1 := List.length_filter_le (fun (f : Mu41.Frame) => !f.there) (st.frames.take i)
            rw [List.length_take] at h1
            have := B.good.few
            rw [sizeLine_eq]
            omega
          · rw [upd_same, take_snoc hf, List.filter_append, List.filter_cons_of_pos (by rw [et]; rfl), List.map_append, nv_append]
            rfl
        | true =>
          refine iteF ⟨sm, ?_⟩
          rw [take_snoc hf, List.filter_append, List.filter_cons_of_neg (by rw [et]; decide), List.filter_nil, List.append_nil]
          exact hl
      case ld2 =>
        rintro H3 ⟨sm2, hl2⟩
        rw [List.length_map, B.len, List.take_length] at hl2
        have s3 := sm.trans sm2
        have hp3 := s3 _ _ hp
        refine ⟨R2, _, rfl, by rw [nv_nums]; exact SqL.of hl2, ?_⟩
        refine ⟨_, rfl, p, _, dx, _, _, rfl, hp3, T.cl_Workshop, T.na_Workshop_minute, wf_minute _ _ _ _ _, _, rfl, p, _, dx, _, _, rfl, hp3, T.cl_Workshop, T.na_Workshop_vat, wf_vat _ _ _ _ _, _, rfl, _, rfl, _, rfl, p, _, dx, _, _, rfl, hp3, T.cl_Workshop, T.na_Workshop_bought, wf_bought _ _ _ _ _, (by show 5 ≤ sizeLine; decide), fun q hq => ?_⟩
        have := k.then (q := q) (Did.same B s3) hq
        rw [sum_nums, sum_nums, ← MS.standing_is, ← MS.sold_is N]
        exact this
theorem ok_Workshop_follow (T : Txt K mg D) : FnOk P w K mg base CX0 3 D.f_Workshop_follow D.fd_Workshop_follow ["self", "plan"] (spFollow D) := by
  refine T.F_Workshop_follow.ok sc_Workshop_follow (fun vs H Q E h => ?_) (fun cdv A outer s H vs Q E hr h => ?_)
  · obtain ⟨p, b, st, l, as, ps, rfl, _⟩ := h
    rfl
  · obtain ⟨p, b, st, l, as, ps, rfl, B, hb, hbl, hp60, k⟩ := h
    refine ⟨_, (pss_cons (ps_set (i := 2) sc_Workshop_follow.nd rfl (Or.inl rfl) pe_int)
      (pss_cons (ps_for PassesOwn.never rfl (pi_list (pv 1)) (pg_name (i := 3) sc_Workshop_follow.nd rfl (Or.inl rfl))
      (pss_cons (ps_if (pt_cmpR op_eq (pv 3) (pe_g rfl T.g_NOTHING) (nomark _))
      (pss_one (ps_set (i := 4) sc_Workshop_follow.nd rfl (Or.inl rfl) (pe_meth (pv 0) T.cl_Workshop T.m_Workshop_wait (ok_Workshop_wait T) (hr.mono (by decide)) T.b_Workshop_wait .nil pass0 (pa_cons pe_int pa_nil))))
      (pss_one (ps_set (i := 4) sc_Workshop_follow.nd rfl (Or.inl rfl) (pe_meth (pv 0) T.cl_Workshop T.m_Workshop_dip (ok_Workshop_dip T) (hr.mono (by decide)) T.b_Workshop_dip .nil pass0 (pa_cons (pe_op op_sub (pv 3) pe_int) pa_nil)))))
      (pss_cons (ps_if (pt_cmpR op_lt (pe_ix ix_list (pv 4) pe_int (fun _ _ => rfl)) pe_int (nomark _))
      (pss_one ps_break)
      pss_nil)
      (pss_one (ps_set (i := 2) sc_Workshop_follow.nd rfl (Or.inl rfl) (pe_op op_add (pv 2) pe_int))))))
      (pss_one (ps_ret (pe_lst (pa_cons (pv 2) (pa_cons (pe_fld (pv 0) rfl) pa_nil))))))), ?_⟩
    have bp : b ≠ p := by
      obtain ⟨dx, hp⟩ := B.obj
      exact ne_of hb hp (fun z => nomatch z)
    have bas : b ∉ as := fun m => by
      obtain ⟨_, _, _, _, dx, ha⟩ := B.mem m
      rw [hb] at ha
      cases ha
    have fin : ∀ {H' : Hp} {as' : List Addr} {s' : Mu41.State} {i : Nat} {x y : Option V}, Did D H p l as H' s' as' → Mu41.followed st ps = (s', i) →
        tRet (tLst (tCons (tVar 2) (tCons (tFld K (tVar 0) "minute") tNil))) { nx := fun _ H' => Q .non H', rt := Q } [some (.ref p), some (.ref b), some (.int (i : Int)), x, y] H' := fun {H' as' s' i x y} d e => by
      obtain ⟨dx, hp⟩ := d.shop.obj
      refine ⟨_, rfl, _, rfl, p, _, dx, _, _, rfl, hp, T.cl_Workshop, T.na_Workshop_minute, wf_minute _ _ _ _ _, line2, fun q hq => ?_⟩
      rw [e] at k
      exact k.then d hq
    refine ⟨_, rfl, b, rfl, ⟨_, SqL.of hb⟩, for_list (xs := nv ps) (fun i σ H' => ∃ as' s', (∃ x y, σ = [some (.ref p), some (.ref b), some (.int (i : Int)), x, y]) ∧ Did D H p l as H' s' as' ∧ Mu41.followed st ps = ((Mu41.followed s' (ps.drop i)).1, (Mu41.followed s' (ps.drop i)).2 + i)) ⟨as, st, ⟨_, _, rfl⟩, Did.refl B, rfl⟩ (fun i σ H' _ q => ?_) ?ft ?fd⟩
    · obtain ⟨as', s', _, d, _⟩ := q
      exact SqL.of (d.kept _ _ hb bp hbl bas)
    case ft =>
      rintro i x σ H' hx ⟨as', s', ⟨y1, y2, rfl⟩, d, e⟩
      obtain ⟨n, rfl, hn⟩ := nv_at hx
      have hi : i < ps.length := (List.getElem?_eq_some_iff.mp hn).1
      have hdr : ps.drop i = n :: ps.drop (i + 1) := by
        rw [List.drop_eq_getElem_cons hi]
        rw [List.getElem?_eq_getElem hi] at hn
        rw [Option.some.inj hn]
      rw [hdr] at e
      obtain ⟨dx, hp⟩ := d.shop.obj
      refine ⟨_, rfl, rfl, _, rfl, ite2 (fun h0 => ?_) (fun h0 => ?_)⟩
      · have h0' : n = 0 := by
          have := of_decide_eq_true h0
          injection this with this
          omega
        subst h0'
        have ew : Mu41.step (some s') (.wait 1) = if 100000 < s'.time + 1 then (some s', [-8]) else (some { s' with time := s'.time + 1 }, [((s'.time + 1 : Nat) : Int)]) := by
          simp only [Mu41.step]
          rw [if_neg (by omega)]
          rfl
        have ef : Mu41.followed s' (0 :: ps.drop (i + 1)) = if 100000 ≤ s'.time then (s', 0) else ((Mu41.followed { s' with time := s'.time + 1 } (ps.drop (i + 1))).1, (Mu41.followed { s' with time := s'.time + 1 } (ps.drop (i + 1))).2 + 1) := by
          rw [Mu41.followed]
          rfl
        refine ⟨_, rfl, p, dx, _, rfl, hp, rfl, p, 1, s', l, as', rfl, d.shop, fun H2 as2 q d2 hq hl => ?_⟩
        by_cases hlate : 100000 ≤ s'.time
        · have hw : Mu41.step (some s') (.wait 1) = (some s', [-8]) := by rw [ew, if_pos (by omega)]
          unfold did at d2; unfold ans at hl
          rw [hw] at d2 hl
          rw [ef, if_pos hlate] at e
          refine ⟨_, rfl, q, _, _, _, rfl, rfl, SqL.of hl, atI_nat (j := 0) rfl, _, _, rfl, rfl, _, rfl, iteT' (by decide) ?_⟩
          exact fin (d.then d2) (by rw [e]; simp)
        · have hw : Mu41.step (some s') (.wait 1) = (some { s' with time := s'.time + 1 }, [((s'.time + 1 : Nat) : Int)]) := by rw [ew, if_neg (by omega)]
          unfold did at d2; unfold ans at hl
          rw [hw] at d2 hl
          rw [ef, if_neg hlate] at e
          refine ⟨_, rfl, q, _, _, _, rfl, rfl, SqL.of hl, atI_nat (j := 0) rfl, _, _, rfl, rfl, _, rfl, iteF' (by omega) ?_⟩
          refine ⟨_, rfl, _, _, rfl, rfl, as2, { s' with time := s'.time + 1 }, ⟨_, _, rfl⟩, d.then d2, ?_⟩
          rw [e]
          show (_, _) = (_, _)
          congr 1
          omega
      · have h0' : n ≠ 0 := fun z => h0 (decide_eq_true (by rw [z]; rfl))
        have en : ((n : Int) - 1) = ((n - 1 : Nat) : Int) := by omega
        have ew : Mu41.step (some s') (.dip (n - 1)) = (some (Mu41.doDip s' (n - 1)).1, (Mu41.doDip s' (n - 1)).2) := rfl
        refine ⟨_, rfl, p, dx, _, rfl, hp, rfl, _, rfl, _, _, rfl, rfl, p, n - 1, s', l, as', by rw [← en]; rfl, d.shop, fun H2 as2 q d2 hq hl => ?_⟩
        unfold did at d2; unfold ans at hl
        rw [ew] at d2 hl
        rcases MS.dip_ans s' (n - 1) with ⟨z, h1, h2⟩ | ⟨z, h1, h2⟩
        · rw [h2] at d2 hl
          have ef : Mu41.followed s' (n :: ps.drop (i + 1)) = (s', 0) := by
            rw [Mu41.followed, if_neg h0', h2]
            simp only [if_pos h1]
          rw [ef] at e
          refine ⟨_, rfl, q, _, _, _, rfl, rfl, SqL.of hl, atI_nat (j := 0) rfl, _, _, rfl, rfl, _, rfl, iteT' h1 ?_⟩
          exact fin (d.then d2) (by rw [e]; simp)
        · rw [h2] at hl
          have ef : Mu41.followed s' (n :: ps.drop (i + 1)) = ((Mu41.followed (Mu41.doDip s' (n - 1)).1 (ps.drop (i + 1))).1, (Mu41.followed (Mu41.doDip s' (n - 1)).1 (ps.drop (i + 1))).2 + 1) := by
            rw [Mu41.followed, if_neg h0', h2]
            simp only [if_neg h1]
          rw [ef] at e
          refine ⟨_, rfl, q, _, _, _, rfl, rfl, SqL.of hl, atI_nat (j := 0) rfl, _, _, rfl, rfl, _, rfl, iteF' h1 ?_⟩
          refine ⟨_, rfl, _, _, rfl, rfl, as2, (Mu41.doDip s' (n - 1)).1, ⟨_, _, rfl⟩, d.then d2, ?_⟩
          rw [e]
          show (_, _) = (_, _)
          congr 1
          omega
    case fd =>
      rintro σ H' ⟨as', s', ⟨y1, y2, rfl⟩, d, e⟩
      rw [nv_len, List.drop_length] at e
      rw [nv_len]
      refine fin d ?_
      rw [e]
      unfold Mu41.followed
      simp
end
end DV
end
noncomputable section
set_option Elab.async false
set_option linter.all false
set_option maxRecDepth 100000
set_option maxHeartbeats 4000000
namespace DV
open PySem PySem.Spec PyProof.Rows L2
def lf (a : Addr) (n : Int) : List (Str × V) := [("calls", .ref a), ("place", .int n)]
section
variable (a : Addr) (n : Int)
theorem lf_calls : (lf a n).lookup ("calls" : Str) = some (.ref a) := rfl
theorem lf_place : (lf a n).lookup ("place" : Str) = some (.int n) := rfl
theorem lf_len : (lf a n).length < 1000 := by show 2 < 1000; decide
theorem lf_pp (y : Int) : putF "place" (.int y) (lf a n) = lf a y := rfl
end
def LineAt (D : Dat) (H : Hp) (p a : Addr) (n : Nat) : Prop := ∃ dx, H p = some (.ins D.C_Line dx (lf a (n : Int)))
def But (p : Addr) (H H' : Hp) : Prop := ∀ b o, H b = some o → b ≠ p → H' b = some o
theorem But.refl {p : Addr} {H : Hp} : But p H H := fun _ _ e _ => e
theorem But.trans {p : Addr} {H H1 H2 : Hp} (a : But p H H1) (b : But p H1 H2) : But p H H2 := fun c o e n => b c o (a c o e n) n
theorem But.fresh {p q : Addr} {H H1 : Hp} {o : HO} (a : But p H H1) (h : H1 q = none) : But p H (upd H1 q o) := fun c u e n => by rw [upd_ne (ne_of_none (a c u e n) h)]; exact a c u e n
theorem But.own {p : Addr} {H H1 : Hp} {o : HO} (a : But p H H1) : But p H (upd H1 p o) := fun c u e n => by rw [upd_ne n]; exact a c u e n
theorem But.free {D : Dat} {p a q : Addr} {n : Nat} {H H1 : Hp} (k : But p H H1) (h : LineAt D H1 p a n) (hq : H1 q = none) : H q = none := by
  cases e : H q with
  | none => rfl
  | some o =>
    by_cases z : q = p
    · obtain ⟨dx, h⟩ := h
      rw [z, h] at hq
      cases hq
    · rw [k q o e z] at hq
      cases hq
theorem LineAt.na {D : Dat} {H : Hp} {p a b : Addr} {n : Nat} {xs : List V} (h : LineAt D H p a n) (e : H b = some (.lst xs)) : b ≠ p := by
  obtain ⟨dx, h⟩ := h
  exact ne_of e h (fun z => nomatch z)
theorem But.seq {K : PySem.W.Frag} {D : Dat} {p a b : Addr} {n : Nat} {H H1 : Hp} {xs : List V} (k : But p H H1) (h : LineAt D H p a n) (q : SqL K H b xs) : SqL K H1 b xs := by
  obtain ⟨dx, h⟩ := h
  rcases q with q | q
  · rcases q with q | ⟨o, q⟩
    · exact .inl (.inl (k _ _ q (ne_of q h fun z => nomatch z)))
    · exact .inl (.inr ⟨o, k _ _ q (ne_of q h fun z => nomatch z)⟩)
  · exact .inr q
def spLInit (D : Dat) : Sp := fun vs H Q _ => ∃ (p a dx : Addr), vs = [.ref p, .ref a] ∧ H p = some (.ins D.C_Line dx []) ∧ ∀ H' : Hp, LineAt D H' p a 0 → But p H H' → Q .non H'
def spEnd (D : Dat) (K : PySem.W.Frag) : Sp := fun vs H Q _ => ∃ (p a : Addr) (n : Nat) (xs : List V), vs = [.ref p] ∧ LineAt D H p a n ∧ SqL K H a xs ∧ Q (.bl (decide (xs.length ≤ n))) H
def spTake (D : Dat) (K : PySem.W.Frag) : Sp := fun vs H Q _ => ∃ (p a : Addr) (xs ys : List V) (v : V), vs = [.ref p] ∧ LineAt D H p a xs.length ∧ SqL K H a (xs ++ v :: ys) ∧ ∀ H' : Hp, LineAt D H' p a (xs.length + 1) → But p H H' → Q v H'
def spTakes (D : Dat) (K : PySem.W.Frag) : Sp := fun vs H Q _ => ∃ (p a : Addr) (xs ms ys : List V), vs = [.ref p, .int (ms.length : Nat)] ∧ LineAt D H p a xs.length ∧ SqL K H a (xs ++ (ms ++ ys)) ∧ ∀ (H' : Hp) (q : Addr), H q = none → LineAt D H' p a (xs.length + ms.length) → But p H H' → H' q = some (.lst ms) → Q (.ref q) H'
def flatRows : List (List V) → List V
  | [] => []
  | r :: rs => .int (r.length : Nat) :: (r ++ flatRows rs)
theorem flatRows_snoc (r : List V) : ∀ rs : List (List V), flatRows (rs ++ [r]) = flatRows rs ++ (.int (r.length : Nat) :: r)
  | [] => by show V.int _ :: (r ++ []) = _; rw [List.append_nil]; rfl
  | x :: rs => by
    rw [List.cons_append]
    show V.int _ :: (x ++ flatRows (rs ++ [r])) = V.int _ :: (x ++ flatRows rs) ++ _
    rw [flatRows_snoc r rs, List.cons_append, List.append_assoc]
structure RowsV (H0 H : Hp) (rs : List Addr) (rows : List (List V)) : Prop where
  len : rs.length = rows.length
  at_ : ∀ (j : Nat) (r : Addr) (x : List V), rs[j]? = some r → rows[j]? = some x → H r = some (.lst x)
  new : ∀ r ∈ rs, H0 r = none
def spRowsT (D : Dat) (K : PySem.W.Frag) : Sp := fun vs H Q _ => ∃ (p a : Addr) (xs ys : List V) (rows : List (List V)), vs = [.ref p, .int (rows.length : Nat)] ∧ rows.length ≤ 2 ∧ LineAt D H p a xs.length ∧ SqL K H a (xs ++ (flatRows rows ++ ys)) ∧
  ∀ (H' : Hp) (q : Addr) (rs : List Addr), H q = none → LineAt D H' p a (xs.length + (flatRows rows).length) → But p H H' → H' q = some (.lst (rs.map V.ref)) → RowsV H H' rs rows → Q (.ref q) H'
def spMayB : Sp := fun vs H Q _ => ∃ c w : Nat, vs = [.int (c : Int), .int (w : Int)] ∧ Q (.bl (decide (c ≤ 5) && decide (w ≤ 1000))) H
theorem cut_mid (xs ms ys : List V) : cutV (xs ++ (ms ++ ys)) (some ((xs.length : Nat) : Int)) (some (((xs.length : Nat) : Int) + ((ms.length : Nat) : Int))) = ms := by
  have e : (((xs.length : Nat) : Int) + ((ms.length : Nat) : Int)) = ((xs.length + ms.length : Nat) : Int) := by omega
  unfold cutV
  rw [e, HT.sIx_nat, HT.sIx_nat]
  have hl : (xs ++ (ms ++ ys)).length = xs.length + (ms.length + ys.length) := by rw [List.length_append, List.length_append]
  rw [hl, Nat.min_eq_left (by omega), Nat.min_eq_left (by omega), List.drop_left, Nat.add_sub_cancel_left, List.take_left]
section
variable {P : Program} {w : World} {K : PySem.W.Frag} {mg : Str → Option Value} {base : Heap} {D : Dat}
theorem ok_may_begin (T : Txt K mg D) : FnOk P w K mg base CX0 1 D.f_may_begin D.fd_may_begin ["cools", "wax"] spMayB := by
  refine T.F_may_begin.ok sc_may_begin (fun vs H Q E h => ?_) (fun cdv A outer s H vs Q E hr h => ?_)
  · obtain ⟨c, x, rfl, _⟩ := h
    rfl
  · obtain ⟨c, x, rfl, k⟩ := h
    refine ⟨_, (pss_one (ps_ret (pe_and (pe_cmpR op_le (pv 0) (pe_g rfl T.g_MOST_COOLS) (nomark _)) (pe_one (pe_cmpR op_le (pv 1) (pe_g rfl T.g_MOST_BOUGHT) (nomark _)))))), ?_⟩
    refine ⟨_, rfl, _, _, rfl, rfl, _, rfl, ite2 (fun hc => ?_) (fun hc => ?_)⟩
    · have hc' : c ≤ 5 := by have := ydec hc; omega
      refine ⟨_, rfl, _, _, rfl, rfl, ?_⟩
      rw [decide_eq_true hc', Bool.true_and] at k
      have e : decide ((x : Int) ≤ 1000) = decide (x ≤ 1000) := by
        by_cases h : x ≤ 1000
        · rw [decide_eq_true h, decide_eq_true (by omega)]
        · rw [decide_eq_false h, decide_eq_false (by omega)]
      show Q (.bl (decide ((x : Int) ≤ 1000))) H
      rw [e]
      exact k
    · have hc' : ¬ c ≤ 5 := by have := ndec hc; omega
      rw [decide_eq_false hc', Bool.false_and] at k
      exact k
theorem ok_Line_init (T : Txt K mg D) : FnOk P w K mg base CX0 1 D.f_Line_init D.fd_Line_init ["self", "calls"] (spLInit D) := by
  refine T.F_Line_init.ok sc_Line_init (fun vs H Q E h => ?_) (fun cdv A outer s H vs Q E hr h => ?_)
  · obtain ⟨p, a, dx, rfl, _⟩ := h
    rfl
  · obtain ⟨p, a, dx, rfl, hp, k⟩ := h
    refine ⟨_, (pss_cons (ps_fld (pv 0) (pv 1) rfl)
      (pss_one (ps_fld (pv 0) pe_int rfl))), ?_⟩
    refine ⟨_, rfl, _, rfl, p, _, dx, _, rfl, hp, T.cl_Line, T.na_Line_calls, (by show 0 < 1000; decide), ?_⟩
    refine ⟨_, rfl, p, _, dx, _, rfl, upd_same, T.cl_Line, T.na_Line_place, (by show 1 < 1000; decide), ?_⟩
    exact k _ ⟨dx, upd_same⟩ (But.refl.own.own)
theorem ok_Line_at_end (T : Txt K mg D) : FnOk P w K mg base CX0 1 D.f_Line_at_end D.fd_Line_at_end ["self"] (spEnd D K) := by
  refine T.F_Line_at_end.ok sc_Line_at_end (fun vs H Q E h => ?_) (fun cdv A outer s H vs Q E hr h => ?_)
  · obtain ⟨p, a, n, xs, rfl, _⟩ := h
    rfl
  · obtain ⟨p, a, n, xs, rfl, ⟨dx, hp⟩, hs, k⟩ := h
    refine ⟨_, (pss_one (ps_ret (pe_cmpR op_ge (pe_fld (pv 0) rfl) (pe_callB call_len_seq rfl T.n_len PySem.boot_len (pa_cons (pe_fld (pv 0) rfl) pa_nil)) (nomark _)))), ?_⟩
    refine ⟨_, rfl, p, _, dx, _, _, rfl, hp, T.cl_Line, T.na_Line_place, lf_place _ _, _, rfl, p, _, dx, _, _, rfl, hp, T.cl_Line, T.na_Line_calls, lf_calls _ _, a, _, rfl, .inl hs, _, _, rfl, rfl, ?_⟩
    have e : decide (((xs.length : Nat) : Int) ≤ (n : Int)) = decide (xs.length ≤ n) := by
      by_cases h : xs.length ≤ n
      · rw [decide_eq_true h, decide_eq_true (by omega)]
      · rw [decide_eq_false h, decide_eq_false (by omega)]
    show Q (.bl (decide (((xs.length : Nat) : Int) ≤ (n : Int)))) H
    rw [e]
    exact k
theorem ok_Line_take_number (T : Txt K mg D) : FnOk P w K mg base CX0 1 D.f_Line_take_number D.fd_Line_take_number ["self"] (spTake D K) := by
  refine T.F_Line_take_number.ok sc_Line_take_number (fun vs H Q E h => ?_) (fun cdv A outer s H vs Q E hr h => ?_)
  · obtain ⟨p, a, xs, ys, v, rfl, _⟩ := h
    rfl
  · obtain ⟨p, a, xs, ys, v, rfl, ⟨dx, hp⟩, hs, k⟩ := h
    refine ⟨_, (pss_cons (ps_set (i := 1) sc_Line_take_number.nd rfl (Or.inl rfl) (pe_ix ix_list (pe_fld (pv 0) rfl) (pe_fld (pv 0) rfl) (fun _ _ => rfl)))
      (pss_cons (ps_fld (pv 0) (pe_op op_add (pe_fld (pv 0) rfl) pe_int) rfl)
      (pss_one (ps_ret (pv 1))))), ?_⟩
    refine ⟨_, rfl, p, _, dx, _, _, rfl, hp, T.cl_Line, T.na_Line_calls, lf_calls _ _, _, rfl, p, _, dx, _, _, rfl, hp, T.cl_Line, T.na_Line_place, lf_place _ _, a, _, _, _, rfl, rfl, hs, atI_nat (v := v) (by rw [List.getElem?_append_right (Nat.le_refl _), Nat.sub_self]; rfl), ?_⟩
    refine ⟨_, rfl, p, _, dx, _, _, rfl, hp, T.cl_Line, T.na_Line_place, lf_place _ _, _, _, rfl, rfl, _, rfl, p, _, dx, _, rfl, hp, T.cl_Line, T.na_Line_place, lf_len _ _, _, rfl, ?_⟩
    refine k _ ⟨dx, ?_⟩ But.refl.own
    rw [upd_same]
    rfl
theorem ok_Line_take_numbers (T : Txt K mg D) : FnOk P w K mg base CX0 1 D.f_Line_take_numbers D.fd_Line_take_numbers ["self", "how_many"] (spTakes D K) := by
  refine T.F_Line_take_numbers.ok sc_Line_take_numbers (fun vs H Q E h => ?_) (fun cdv A outer s H vs Q E hr h => ?_)
  · obtain ⟨p, a, xs, ms, ys, rfl, _⟩ := h
    rfl
  · obtain ⟨p, a, xs, ms, ys, rfl, ⟨dx, hp⟩, hs, k⟩ := h
    refine ⟨_, (pss_cons (ps_set (i := 2) sc_Line_take_numbers.nd rfl (Or.inl rfl) (pe_op op_add (pe_fld (pv 0) rfl) (pv 1)))
      (pss_cons (ps_set (i := 3) sc_Line_take_numbers.nd rfl (Or.inl rfl) (pe_slice sl_list (pe_fld (pv 0) rfl) (po_some (pe_fld (pv 0) rfl)) (po_some (pv 2))))
      (pss_cons (ps_fld (pv 0) (pv 2) rfl)
      (pss_one (ps_ret (pv 3)))))), ?_⟩
    refine ⟨_, rfl, p, _, dx, _, _, rfl, hp, T.cl_Line, T.na_Line_place, lf_place _ _, _, rfl, _, _, rfl, rfl, ?_⟩
    refine ⟨_, rfl, p, _, dx, _, _, rfl, hp, T.cl_Line, T.na_Line_calls, lf_calls _ _, _, rfl, p, _, dx, _, _, rfl, hp, T.cl_Line, T.na_Line_place, lf_place _ _, _, rfl, _, rfl, _, rfl, a, _, rfl, hs, fun q hq => ?_⟩
    rw [cut_mid]
    have pq : p ≠ q := ne_of_none hp hq
    refine ⟨_, rfl, _, rfl, p, _, dx, _, rfl, (upd_ne pq).trans hp, T.cl_Line, T.na_Line_place, lf_len _ _, _, rfl, k _ q hq ⟨dx, ?_⟩ (But.refl.fresh hq).own ?_⟩
    · rw [upd_same]
      show some (HO.ins D.C_Line dx (lf a (((xs.length : Nat) : Int) + ((ms.length : Nat) : Int)))) = _
      have e : (((xs.length : Nat) : Int) + ((ms.length : Nat) : Int)) = ((xs.length + ms.length : Nat) : Int) := by omega
      rw [e]
    · rw [upd_ne pq.symm]
      exact upd_same
theorem ok_Line_take_rows (T : Txt K mg D) : FnOk P w K mg base CX0 2 D.f_Line_take_rows D.fd_Line_take_rows ["self", "how_many"] (spRowsT D K) := by
  refine T.F_Line_take_rows.ok sc_Line_take_rows (fun vs H Q E h => ?_) (fun cdv A outer s H vs Q E hr h => ?_)
  · obtain ⟨p, a, xs, ys, rows, rfl, _⟩ := h
    rfl
  · obtain ⟨p, a, xs, ys, rows, rfl, hr2, hL, hs, k⟩ := h
    refine ⟨_, (pss_cons (ps_set (i := 2) sc_Line_take_rows.nd rfl (Or.inl rfl) (pe_lst pa_nil))
      (pss_cons (ps_for PassesOwn.never rfl (pi_range1 rfl T.n_range (pa_cons (pv 1) pa_nil)) (pg_name (i := 3) sc_Line_take_rows.nd rfl (Or.inl rfl))
      (pss_cons (ps_set (i := 4) sc_Line_take_rows.nd rfl (Or.inl rfl) (pe_meth0 (pv 0) T.cl_Line T.m_Line_take_number (ok_Line_take_number T) (hr.mono (by decide)) T.b_Line_take_number .nil pass0))
      (pss_one (ps_expr (pe_bm PySem.F.plainAttrs_list PySem.F.slot_list_append PySem.F.type_list_append mt_append (pv 2) (pa_cons (pe_meth (pv 0) T.cl_Line T.m_Line_take_numbers (ok_Line_take_numbers T) (hr.mono (by decide)) T.b_Line_take_numbers .nil pass0 (pa_cons (pv 4) pa_nil)) pa_nil))))))
      (pss_one (ps_ret (pv 2))))), ?_⟩
    have hL' := hL
    obtain ⟨dx0, hp0⟩ := hL'
    refine ⟨Nat.zero_le _, fun q hq => ⟨_, rfl, _, rfl, by omega, by omega, for_range (lo := 0) (n := ((rows.length : Nat) : Int).toNat) (fun i σ H' => ∃ rs, (∃ x y, σ = [some (.ref p), some (.int ((rows.length : Nat) : Int)), some (.ref q), x, y]) ∧ LineAt D H' p a (xs.length + (flatRows (rows.take i)).length) ∧ But p H H' ∧ H' q = some (.lst (rs.map V.ref)) ∧ RowsV H H' rs (rows.take i) ∧ q ∉ rs) ⟨[], ⟨_, _, rfl⟩, ⟨dx0, ?_⟩, But.refl.fresh hq, upd_same, ⟨rfl, fun j r x h1 _ => (by simp at h1), fun r hr => (by simp at hr)⟩, (by simp)⟩ ?rt ?rd⟩⟩
    · rw [upd_ne (ne_of_none hp0 hq)]
      exact hp0
    case rt =>
      rintro i σ H' hi ⟨rs, ⟨y1, y2, rfl⟩, L1, b1, q1, R1, qn⟩
      have hi' : i < rows.length := by omega
      have hrow := List.getElem?_eq_getElem hi'
      generalize rows[i] = r at hrow
      have esp : flatRows rows = flatRows (rows.take i) ++ (V.int (r.length : Nat) :: (r ++ flatRows (rows.drop (i + 1)))) := by
        have e1 : ∀ (A B : List (List V)), flatRows (A ++ B) = flatRows A ++ flatRows B := by
          intro A B
          induction A with
          | nil => rfl
          | cons x A ih =>
            show V.int _ :: (x ++ flatRows (A ++ B)) = V.int _ :: (x ++ flatRows A) ++ flatRows B
            rw [ih, List.cons_append, List.append_assoc]
        have e2 : rows = rows.take i ++ (r :: rows.drop (i + 1)) := by
          have e3 : rows.drop i = r :: rows.drop (i + 1) := by
            rw [List.drop_eq_getElem_cons hi']
            rw [List.getElem?_eq_getElem hi'] at hrow
            rw [Option.some.inj hrow]
          rw [← e3, List.take_append_drop]
        conv => lhs; rw [e2]
        rw [e1]
        rfl
      have qp : q ≠ p := LineAt.na L1 q1
      obtain ⟨dx1, hp1⟩ := id L1
      have s1 : SqL K H' a (xs ++ (flatRows rows ++ ys)) := b1.seq hL hs
      have eA : xs ++ (flatRows rows ++ ys) = (xs ++ flatRows (rows.take i)) ++ V.int (r.length : Nat) :: (r ++ (flatRows (rows.drop (i + 1)) ++ ys)) := by
        rw [esp]
        simp only [List.append_assoc, List.cons_append]
      have eB : xs ++ (flatRows rows ++ ys) = (xs ++ flatRows (rows.take i) ++ [V.int (r.length : Nat)]) ++ (r ++ (flatRows (rows.drop (i + 1)) ++ ys)) := by
        rw [esp]
        simp only [List.append_assoc, List.cons_append, List.nil_append]
      refine ⟨_, rfl, p, dx1, _, rfl, hp1, rfl, p, a, xs ++ flatRows (rows.take i), r ++ (flatRows (rows.drop (i + 1)) ++ ys), V.int (r.length : Nat), rfl, (by rw [List.length_append]; exact L1), (by rw [← eA]; exact s1), fun H2 L2 b2 => ?_⟩
      obtain ⟨dx2, hp2⟩ := id L2
      have q2 : H2 q = some (.lst (rs.map V.ref)) := b2 _ _ q1 qp
      have s2 : SqL K H2 a (xs ++ (flatRows rows ++ ys)) := b2.seq L1 s1
      refine ⟨_, rfl, .inl ⟨rfl, _, SqL.of q2⟩, _, rfl, p, dx2, _, rfl, hp2, rfl, _, rfl, p, a, xs ++ flatRows (rows.take i) ++ [V.int (r.length : Nat)], r, flatRows (rows.drop (i + 1)) ++ ys, rfl, (by rw [List.length_append, List.length_append] at *; exact L2), (by rw [← eB]; exact s2), fun H3 z hz L3 b3 hl3 => ?_⟩
      have q3 : H3 q = some (.lst (rs.map V.ref)) := b3 _ _ q2 qp
      have b13 := (b1.trans b2).trans b3
      have z0 : H z = none := (b1.trans b2).free L2 hz
      have hrl : rs.length = i := by rw [R1.len, List.length_take]; omega
      have zq : z ≠ q := fun e => by rw [e, q2] at hz; cases hz
      have hzl := R1.len
      refine ⟨q, _, _, rfl, rfl, q3, by rw [List.length_map, hrl, sizeLine_eq]; omega, rs ++ [z], ⟨_, _, rfl⟩, ?_, ?_, ?_, ⟨?_, fun j b x h1 h2 => ?_, fun b hb => ?_⟩, fun m => ?_⟩
      · obtain ⟨dx3, hp3⟩ := L3
        refine ⟨dx3, ?_⟩
        rw [upd_ne qp.symm, hp3, take_snoc hrow, flatRows_snoc]
        simp only [List.length_append, List.length_cons, List.length_nil]
        congr 4
        omega
      · exact fun c u e n => by rw [upd_ne (ne_of_none e hq)]; exact b13 c u e n
      · rw [upd_same, List.map_append]
        rfl
      · rw [take_snoc hrow, List.length_append, List.length_append, hzl]
        rfl
      · rw [take_snoc hrow] at h2
        by_cases hj : j < rs.length
        · rw [List.getElem?_append_left hj] at h1
          rw [List.getElem?_append_left (by rw [← hzl]; exact hj)] at h2
          have hb := List.mem_of_getElem? h1
          have e0 := R1.at_ j b x h1 h2
          rw [upd_ne fun e => qn (by rw [← e]; exact hb)]
          have bp := LineAt.na L1 e0
          exact b3 _ _ (b2 _ _ e0 bp) bp
        · rw [List.getElem?_append_right (by omega)] at h1
          rw [List.getElem?_append_right (by rw [← hzl]; omega), ← hzl] at h2
          have h3 : j - rs.length < 1 := (List.getElem?_eq_some_iff.mp h1).1
          have e0 : j - rs.length = 0 := by omega
          rw [e0] at h1 h2
          have e1 : z = b := Option.some.inj h1
          have e2 : r = x := Option.some.inj h2
          subst e1 e2
          rw [upd_ne zq]
          exact hl3
      · rcases List.mem_append.mp hb with h | h
        · exact R1.new b h
        · rw [List.mem_singleton.mp h]
          exact z0
      · rcases List.mem_append.mp m with h | h
        · exact qn h
        · exact zq (List.mem_singleton.mp h).symm
    case rd =>
      rintro σ H' ⟨rs, ⟨y1, y2, rfl⟩, L1, b1, q1, R1, _⟩
      rw [Int.toNat_natCast, List.take_length] at L1 R1
      exact ⟨_, rfl, k H' q rs hq L1 b1 q1 R1⟩
end
end DV
end
noncomputable section
set_option Elab.async false
set_option linter.all false
set_option maxRecDepth 100000
set_option maxHeartbeats 4000000
namespace DV
open PySem PySem.Spec PyProof.Rows L2
inductive Hand (H : Hp) (na ra : Addr) : Int → Mu41.Call → Prop
  | begin_ (c w : Nat) : H na = some (.lst [.int (c : Int), .int (w : Int)]) → Hand H na ra 0 (.begin_ c w)
  | frame (d : Nat) : H na = some (.lst [.int (d : Int)]) → Hand H na ra 1 (.frame d)
  | wax (d : Nat) : H na = some (.lst [.int (d : Int)]) → Hand H na ra 2 (.wax d)
  | dip (d : Nat) : H na = some (.lst [.int (d : Int)]) → Hand H na ra 3 (.dip d)
  | wait (d : Nat) : H na = some (.lst [.int (d : Int)]) → Hand H na ra 4 (.wait d)
  | sell (d : Nat) : H na = some (.lst [.int (d : Int)]) → Hand H na ra 5 (.sell d)
  | look (d : Nat) : H na = some (.lst [.int (d : Int)]) → Hand H na ra 6 (.look d)
  | least (w : List Nat) (r : Addr) : H ra = some (.lst [.ref r]) → H r = some (.lst (nv w)) → Hand H na ra 7 (.least w)
  | plan (w : List Nat) (r : Addr) : H ra = some (.lst [.ref r]) → H r = some (.lst (nv w)) → Hand H na ra 8 (.plan w)
  | judge (w p : List Nat) (r u : Addr) : p.length ≤ 60 → H ra = some (.lst [.ref r, .ref u]) → H r = some (.lst (nv w)) → H u = some (.lst (nv p)) → Hand H na ra 9 (.judge w p)
  | cooling (d : Nat) (w : List Nat) (r : Addr) : H na = some (.lst [.int (d : Int)]) → H ra = some (.lst [.ref r]) → H r = some (.lst (nv w)) → Hand H na ra 10 (.cooling d w)
  | rest : Hand H na ra 11 .rest
  | follow (p : List Nat) (r : Addr) : p.length ≤ 60 → H ra = some (.lst [.ref r]) → H r = some (.lst (nv p)) → Hand H na ra 12 (.follow p)
  | book : Hand H na ra 13 .book
theorem Hand.same {H H' : Hp} {na ra : Addr} {k : Int} {x : Mu41.Call} (h : Hand H na ra k x) (s : Same H H') : Hand H' na ra k x := by
  cases h with
  | begin_ c w h => exact .begin_ c w (s _ _ h)
  | frame d h => exact .frame d (s _ _ h)
  | wax d h => exact .wax d (s _ _ h)
  | dip d h => exact .dip d (s _ _ h)
  | wait d h => exact .wait d (s _ _ h)
  | sell d h => exact .sell d (s _ _ h)
  | look d h => exact .look d (s _ _ h)
  | least w r h1 h2 => exact .least w r (s _ _ h1) (s _ _ h2)
  | plan w r h1 h2 => exact .plan w r (s _ _ h1) (s _ _ h2)
  | judge w p r u h h1 h2 h3 => exact .judge w p r u h (s _ _ h1) (s _ _ h2) (s _ _ h3)
  | cooling d w r h h1 h2 => exact .cooling d w r (s _ _ h) (s _ _ h1) (s _ _ h2)
  | rest => exact .rest
  | follow p r h h1 h2 => exact .follow p r h (s _ _ h1) (s _ _ h2)
  | book => exact .book
def isW : Mu41.Call → Bool
  | .least _ => true
  | .plan _ => true
  | .judge _ _ => true
  | .cooling _ _ => true
  | _ => false
def ansW (c : Nat) : Mu41.Call → List Int
  | .least w => if Mu41.isWanted w = false then [-1] else [(Mu41.least c w : Int)]
  | .plan w => if Mu41.isWanted w = false then [-1] else Mu41.nums ((Mu41.plan c w).length :: Mu41.plan c w)
  | .judge w p => if Mu41.isWanted w = false then [-1] else judgeA c w p
  | .cooling n w => if Mu41.isWanted w = false then [-1] else coolA w n
  | _ => []
theorem step_W (s : Mu41.State) {x : Mu41.Call} (h : isW x = true) : Mu41.step (some s) x = (some s, ansW s.cooling x) := by
  cases x <;> first | rfl | cases h
def spWanted (K : PySem.W.Frag) (t : Addr) : Sp := fun vs H Q _ => ∃ (c : Nat) (k : Int) (na ra : Addr) (x : Mu41.Call), vs = [.int (c : Int), .int k, .ref na, .ref ra] ∧ c ≤ 5 ∧ TAt t H ∧ Hand H na ra k x ∧ isW x = true ∧
  ∀ (H' : Hp) (q : Addr), KP t H H' → H q = none → H' q = some (.lst ((ansW c x).map V.int)) → Q (.ref q) H'
theorem eqF {a b : Int} {A B : Prop} (h : a ≠ b) (z : B) : if decide (V.int a = V.int b) = true then A else B := ite2 (fun n => absurd (V.int.inj (of_decide_eq_true n)) h) (fun _ => z)
theorem eqT {a b : Int} {A B : Prop} (h : a = b) (z : A) : if decide (V.int a = V.int b) = true then A else B := ite2 (fun _ => z) (fun n => absurd (decide_eq_true (by rw [h])) n)
section
variable {P : Program} {w : World} {K : PySem.W.Frag} {mg : Str → Option Value} {base : Heap} {D : Dat} {cc t : Addr}
theorem ok_answer_to_wanted (T : Txt K mg D) (G : Gr mg base D cc t) : FnOk P w K mg base CX0 5 D.f_answer_to_wanted D.fd_answer_to_wanted ["cools", "call", "numbers", "rows"] (spWanted K t) := by
  refine T.F_answer_to_wanted.ok sc_answer_to_wanted (fun vs H Q E h => ?_) (fun cdv A outer s H vs Q E hr h => ?_)
  · obtain ⟨c, k, na, ra, x, rfl, _⟩ := h
    rfl
  · obtain ⟨c, kk, na, ra, x, rfl, hc5, hT, hh, hw, k⟩ := h
    refine ⟨_, (pss_cons (ps_set (i := 4) sc_answer_to_wanted.nd rfl (Or.inl rfl) (pe_ix ix_list (pv 3) pe_int (fun _ _ => rfl)))
      (pss_cons (ps_if (pt_not (pt_truth (pe_call (ok_may_be_wanted T) (hr.mono (by decide)) rfl T.gl_may_be_wanted T.F_may_be_wanted.kp T.b_may_be_wanted .nil pass0 (pa_cons (pv 4) pa_nil)) (fun _ => rfl)))
      (pss_one (ps_ret (pe_lst (pa_cons (pe_g rfl T.g_OUT_OF_RANGE) pa_nil))))
      pss_nil)
      (pss_cons (ps_if (pt_cmpR op_eq (pv 1) (pe_g rfl T.g_LEAST) (nomark _))
      (pss_one (ps_ret (pe_lst (pa_cons (pe_call (ok_least_minutes T G) (hr.mono (by decide)) rfl T.gl_least_minutes T.F_least_minutes.kp T.b_least_minutes .nil pass0 (pa_cons (pv 0) (pa_cons (pv 4) pa_nil))) pa_nil))))
      pss_nil)
      (pss_cons (ps_if (pt_cmpR op_eq (pv 1) (pe_g rfl T.g_PLAN) (nomark _))
      (pss_cons (ps_set (i := 5) sc_answer_to_wanted.nd rfl (Or.inl rfl) (pe_call (ok_best_plan T G) (hr.mono (by decide)) rfl T.gl_best_plan T.F_best_plan.kp T.b_best_plan .nil pass0 (pa_cons (pv 0) (pa_cons (pv 4) pa_nil))))
      (pss_one (ps_ret (pe_op op_cat (pe_lst (pa_cons (pe_callB call_len_seq rfl T.n_len PySem.boot_len (pa_cons (pv 5) pa_nil)) pa_nil)) (pv 5)))))
      pss_nil)
      (pss_cons (ps_if (pt_cmpR op_eq (pv 1) (pe_g rfl T.g_JUDGE) (nomark _))
      (pss_one (ps_ret (pe_call (ok_judged T G) (hr.mono (by decide)) rfl T.gl_judged T.F_judged.kp T.b_judged .nil pass0 (pa_cons (pv 0) (pa_cons (pv 4) (pa_cons (pe_ix ix_list (pv 3) pe_int (fun _ _ => rfl)) pa_nil))))))
      pss_nil)
      (pss_one (ps_ret (pe_call (ok_longest_cooling T G) (hr.mono (by decide)) rfl T.gl_longest_cooling T.F_longest_cooling.kp T.b_longest_cooling .nil pass0 (pa_cons (pe_ix ix_list (pv 2) pe_int (fun _ _ => rfl)) (pa_cons (pv 4) pa_nil)))))))))), ?_⟩
    have hc9 : c ≤ 9 := by omega
    have no : ∀ {ws : List Nat} {q : Addr}, Mu41.isWanted ws = false → ansW c x = (if Mu41.isWanted ws = false then [-1] else ansW c x) → H q = none → Q (.ref q) (upd H q (.lst [.int (-1)])) := fun {ws q} h1 h2 hq => by
      refine k _ q (KP.new (KP.refl hT) hq) hq ?_
      rw [h2, if_pos h1, upd_same]
      rfl
    cases hh with
    | least ws r h1 h2 =>
      refine ⟨_, rfl, ra, _, _, .ref r, rfl, rfl, SqL.of h1, atI_nat (j := 0) rfl, ?_⟩
      refine ⟨_, rfl, r, ws, rfl, SqL.of h2, _, rfl, ?_⟩
      cases ew : Mu41.isWanted ws with
      | false => exact iteT ⟨line1, fun q hq => no ew (by simp only [ansW, ew, if_true]) hq⟩
      | true =>
        refine iteF ?_
        have fw := few_of ew
        refine ⟨_, rfl, rfl, _, rfl, eqT rfl ?_⟩
        refine ⟨_, rfl, _, rfl, c, r, ws, rfl, hc9, SqL.of h2, fw, hT, fun H2 k2 => ⟨line1, fun q hq => k _ q (KP.new k2 hq) (KP.free k2 hq) ?_⟩⟩
        rw [upd_same]
        simp only [ansW, ew]
        rfl
    | plan ws r h1 h2 =>
      refine ⟨_, rfl, ra, _, _, .ref r, rfl, rfl, SqL.of h1, atI_nat (j := 0) rfl, ?_⟩
      refine ⟨_, rfl, r, ws, rfl, SqL.of h2, _, rfl, ?_⟩
      cases ew : Mu41.isWanted ws with
      | false => exact iteT ⟨line1, fun q hq => no ew (by simp only [ansW, ew, if_true]) hq⟩
      | true =>
        refine iteF ?_
        have fw := few_of ew
        refine ⟨_, rfl, rfl, _, rfl, eqF (by decide) ?_⟩
        refine ⟨_, rfl, rfl, _, rfl, eqT rfl ?_⟩
        refine ⟨_, rfl, _, rfl, c, r, ws, rfl, hc9, SqL.of h2, fw, hT, fun pl H2 hpl k2 hl2 => ?_⟩
        refine ⟨_, rfl, pl, _, rfl, .inl (SqL.of hl2), line1, fun q hq => ?_⟩
        have hl3 : upd H2 q (.lst [.int (((nv (Mu41.plan c ws)).length : Nat) : Int)]) pl = some (.lst (nv (Mu41.plan c ws))) := by rw [upd_ne (ne_of_none hl2 hq)]; exact hl2
        have k3 := KP.new (o := .lst [.int (((nv (Mu41.plan c ws)).length : Nat) : Int)]) k2 hq
        refine ⟨_, rfl, q, pl, _, _, rfl, rfl, upd_same, hl3, ?_, fun u hu => k _ u (KP.new k3 hu) (KP.free k3 hu) ?_⟩
        · have := least_small hc9 fw
          rw [nv_len, ML.plan_length, sizeLine_eq]
          show 1 + _ ≤ _
          omega
        · rw [upd_same, nv_len]
          simp only [ansW, ew]
          rw [if_neg (by decide), nv_nums]
          rfl
    | judge ws ps r u hp h1 h2 h3 =>
      refine ⟨_, rfl, ra, _, _, .ref r, rfl, rfl, SqL.of h1, atI_nat (j := 0) rfl, ?_⟩
      refine ⟨_, rfl, r, ws, rfl, SqL.of h2, _, rfl, ?_⟩
      cases ew : Mu41.isWanted ws with
      | false => exact iteT ⟨line1, fun q hq => no ew (by simp only [ansW, ew, if_true]) hq⟩
      | true =>
        refine iteF ?_
        have fw := few_of ew
        refine ⟨_, rfl, rfl, _, rfl, eqF (by decide) ?_⟩
        refine ⟨_, rfl, rfl, _, rfl, eqF (by decide) ?_⟩
        refine ⟨_, rfl, rfl, _, rfl, eqT rfl ?_⟩
        refine ⟨_, rfl, _, rfl, _, rfl, ra, _, _, .ref u, rfl, rfl, SqL.of h1, atI_nat (j := 1) rfl, c, r, u, ws, ps, rfl, hc9, SqL.of h2, SqL.of h3, fw, hp, hT, fun q H2 hq k2 hl2 => k H2 q k2 hq ?_⟩
        rw [hl2]
        simp only [ansW, ew]
        rfl
    | cooling d ws r h0 h1 h2 =>
      refine ⟨_, rfl, ra, _, _, .ref r, rfl, rfl, SqL.of h1, atI_nat (j := 0) rfl, ?_⟩
      refine ⟨_, rfl, r, ws, rfl, SqL.of h2, _, rfl, ?_⟩
      cases ew : Mu41.isWanted ws with
      | false => exact iteT ⟨line1, fun q hq => no ew (by simp only [ansW, ew, if_true]) hq⟩
      | true =>
        refine iteF ?_
        have fw := few_of ew
        refine ⟨_, rfl, rfl, _, rfl, eqF (by decide) ?_⟩
        refine ⟨_, rfl, rfl, _, rfl, eqF (by decide) ?_⟩
        refine ⟨_, rfl, rfl, _, rfl, eqF (by decide) ?_⟩
        refine ⟨_, rfl, na, _, _, .int (d : Int), rfl, rfl, SqL.of h0, atI_nat (j := 0) rfl, _, rfl, d, r, ws, rfl, SqL.of h2, fw, hT, fun q H2 hq k2 hl2 => k H2 q k2 hq ?_⟩
        rw [hl2]
        simp only [ansW, ew]
        rfl
    | _ => cases hw
end
end DV
end
noncomputable section
set_option Elab.async false
set_option linter.all false
set_option maxRecDepth 100000
set_option maxHeartbeats 4000000
namespace DV
open PySem PySem.Spec PyProof.Rows L2
theorem OutT.from {D : Dat} {t : Addr} {H H1 : Hp} {p l : Addr} {as : List Addr} {s' : Mu41.State} {zs : List Int} {Q : VK} (k : OutT D t H p l as s' zs Q) (sm : Same H H1) : OutT D t H1 p l as s' zs Q := fun H' as' q d hq hl =>
  k H' as' q ⟨d.shop, fun a ha => (d.new a ha).imp id fun z => sm.free z, fun b o e => d.kept b o (sm _ _ e), d.tab⟩ (sm.free hq) hl
def spAnsIn (D : Dat) (t : Addr) : Sp := fun vs H Q _ => ∃ (p : Addr) (k : Int) (na ra : Addr) (x : Mu41.Call) (s : Mu41.State) (l : Addr) (as : List Addr), vs = [.ref p, .int k, .ref na, .ref ra] ∧ ShopAt D H p s l as ∧ MS.Nice s ∧ TAt t H ∧ Hand H na ra k x ∧ k ≠ 0 ∧ (∀ r rs, H ra = some (.lst (.ref r :: rs)) → r ≠ l) ∧
  OutT D t H p l as (did s x) (ans s x) Q
theorem inT {z : Int} {l : List V} {A B : Prop} (h : inV (.int z) l = true) (a : A) : if inV (.int z) l = true then A else B := by rw [if_pos h]; exact a
theorem inF {z : Int} {l : List V} {A B : Prop} (h : inV (.int z) l = false) (b : B) : if inV (.int z) l = true then A else B := by rw [if_neg (by rw [h]; decide)]; exact b
section
variable {P : Program} {w : World} {K : PySem.W.Frag} {mg : Str → Option Value} {base : Heap} {D : Dat} {cc t : Addr}
theorem ok_answer_in (T : Txt K mg D) (G : Gr mg base D cc t) : FnOk P w K mg base CX0 6 D.f_answer_in D.fd_answer_in ["shop", "call", "numbers", "rows"] (spAnsIn D t) := by
  refine T.F_answer_in.ok sc_answer_in (fun vs H Q E h => ?_) (fun cdv A outer s H vs Q E hr h => ?_)
  · obtain ⟨p, k, na, ra, x, st, l, as, rfl, _⟩ := h
    rfl
  · obtain ⟨p, kk, na, ra, x, st, l, as, rfl, B, N, hT, hh, hk0, hrl, k⟩ := h
    obtain ⟨dx, hp⟩ := B.obj
    refine ⟨_, (pss_cons (ps_if (pt_cmpR op_eq (pv 1) (pe_g rfl T.g_FRAME) (nomark _))
      (pss_one (ps_ret (pe_meth (pv 0) T.cl_Workshop T.m_Workshop_add_frame (ok_Workshop_add_frame T) (hr.mono (by decide)) T.b_Workshop_add_frame .nil pass0 (pa_cons (pe_ix ix_list (pv 2) pe_int (fun _ _ => rfl)) pa_nil))))
      pss_nil)
      (pss_cons (ps_if (pt_cmpR op_eq (pv 1) (pe_g rfl T.g_WAX) (nomark _))
      (pss_one (ps_ret (pe_meth (pv 0) T.cl_Workshop T.m_Workshop_buy_wax (ok_Workshop_buy_wax T) (hr.mono (by decide)) T.b_Workshop_buy_wax .nil pass0 (pa_cons (pe_ix ix_list (pv 2) pe_int (fun _ _ => rfl)) pa_nil))))
      pss_nil)
      (pss_cons (ps_if (pt_cmpR op_eq (pv 1) (pe_g rfl T.g_DIP) (nomark _))
      (pss_one (ps_ret (pe_meth (pv 0) T.cl_Workshop T.m_Workshop_dip (ok_Workshop_dip T) (hr.mono (by decide)) T.b_Workshop_dip .nil pass0 (pa_cons (pe_ix ix_list (pv 2) pe_int (fun _ _ => rfl)) pa_nil))))
      pss_nil)
      (pss_cons (ps_if (pt_cmpR op_eq (pv 1) (pe_g rfl T.g_WAIT) (nomark _))
      (pss_one (ps_ret (pe_meth (pv 0) T.cl_Workshop T.m_Workshop_wait (ok_Workshop_wait T) (hr.mono (by decide)) T.b_Workshop_wait .nil pass0 (pa_cons (pe_ix ix_list (pv 2) pe_int (fun _ _ => rfl)) pa_nil))))
      pss_nil)
      (pss_cons (ps_if (pt_cmpR op_eq (pv 1) (pe_g rfl T.g_SELL) (nomark _))
      (pss_one (ps_ret (pe_meth (pv 0) T.cl_Workshop T.m_Workshop_sell (ok_Workshop_sell T) (hr.mono (by decide)) T.b_Workshop_sell .nil pass0 (pa_cons (pe_ix ix_list (pv 2) pe_int (fun _ _ => rfl)) pa_nil))))
      pss_nil)
      (pss_cons (ps_if (pt_cmpR op_eq (pv 1) (pe_g rfl T.g_LOOK) (nomark _))
      (pss_one (ps_ret (pe_meth (pv 0) T.cl_Workshop T.m_Workshop_look (ok_Workshop_look T) (hr.mono (by decide)) T.b_Workshop_look .nil pass0 (pa_cons (pe_ix ix_list (pv 2) pe_int (fun _ _ => rfl)) pa_nil))))
      pss_nil)
      (pss_cons (ps_if (pt_cmpR op_in_seq (pv 1) (pe_tup (pa_cons (pe_g rfl T.g_LEAST) (pa_cons (pe_g rfl T.g_PLAN) (pa_cons (pe_g rfl T.g_JUDGE) (pa_cons (pe_g rfl T.g_COOLING) pa_nil))))) rfl)
      (pss_one (ps_ret (pe_call (ok_answer_to_wanted T G) (hr.mono (by decide)) rfl T.gl_answer_to_wanted T.F_answer_to_wanted.kp T.b_answer_to_wanted .nil pass0 (pa_cons (pe_fld (pv 0) rfl) (pa_cons (pv 1) (pa_cons (pv 2) (pa_cons (pv 3) pa_nil)))))))
      pss_nil)
      (pss_cons (ps_if (pt_cmpR op_eq (pv 1) (pe_g rfl T.g_REST) (nomark _))
      (pss_one (ps_ret (pe_meth0 (pv 0) T.cl_Workshop T.m_Workshop_rest (ok_Workshop_rest T G) (hr.mono (by decide)) T.b_Workshop_rest .nil pass0)))
      pss_nil)
      (pss_cons (ps_if (pt_cmpR op_eq (pv 1) (pe_g rfl T.g_FOLLOW) (nomark _))
      (pss_one (ps_ret (pe_meth (pv 0) T.cl_Workshop T.m_Workshop_follow (ok_Workshop_follow T) (hr.mono (by decide)) T.b_Workshop_follow .nil pass0 (pa_cons (pe_ix ix_list (pv 3) pe_int (fun _ _ => rfl)) pa_nil))))
      pss_nil)
      (pss_one (ps_ret (pe_meth0 (pv 0) T.cl_Workshop T.m_Workshop_book (ok_Workshop_book T) (hr.mono (by decide)) T.b_Workshop_book .nil pass0)))))))))))), ?_⟩
    have kO : Out D H p l as (did st x) (ans st x) Q := k.of B hT
    cases hh with
    | begin_ c w h => exact absurd rfl hk0
    | frame d h =>
      refine ⟨_, rfl, rfl, _, rfl, eqT rfl ?_⟩
      exact ⟨_, rfl, p, dx, _, rfl, hp, rfl, _, rfl, na, _, _, .int (d : Int), rfl, rfl, SqL.of h, atI_nat (j := 0) rfl, p, d, st, l, as, rfl, B, kO⟩
    | wax d h =>
      refine ⟨_, rfl, rfl, _, rfl, eqF (by decide) ?_⟩
      refine ⟨_, rfl, rfl, _, rfl, eqT rfl ?_⟩
      exact ⟨_, rfl, p, dx, _, rfl, hp, rfl, _, rfl, na, _, _, .int (d : Int), rfl, rfl, SqL.of h, atI_nat (j := 0) rfl, p, d, st, l, as, rfl, B, kO⟩
    | dip d h =>
      refine ⟨_, rfl, rfl, _, rfl, eqF (by decide) ?_⟩
      refine ⟨_, rfl, rfl, _, rfl, eqF (by decide) ?_⟩
      refine ⟨_, rfl, rfl, _, rfl, eqT rfl ?_⟩
      exact ⟨_, rfl, p, dx, _, rfl, hp, rfl, _, rfl, na, _, _, .int (d : Int), rfl, rfl, SqL.of h, atI_nat (j := 0) rfl, p, d, st, l, as, rfl, B, kO⟩
    | wait d h =>
      refine ⟨_, rfl, rfl, _, rfl, eqF (by decide) ?_⟩
      refine ⟨_, rfl, rfl, _, rfl, eqF (by decide) ?_⟩
      refine ⟨_, rfl, rfl, _, rfl, eqF (by decide) ?_⟩
      refine ⟨_, rfl, rfl, _, rfl, eqT rfl ?_⟩
      exact ⟨_, rfl, p, dx, _, rfl, hp, rfl, _, rfl, na, _, _, .int (d : Int), rfl, rfl, SqL.of h, atI_nat (j := 0) rfl, p, d, st, l, as, rfl, B, kO⟩
    | sell d h =>
      refine ⟨_, rfl, rfl, _, rfl, eqF (by decide) ?_⟩
      refine ⟨_, rfl, rfl, _, rfl, eqF (by decide) ?_⟩
      refine ⟨_, rfl, rfl, _, rfl, eqF (by decide) ?_⟩
      refine ⟨_, rfl, rfl, _, rfl, eqF (by decide) ?_⟩
      refine ⟨_, rfl, rfl, _, rfl, eqT rfl ?_⟩
      exact ⟨_, rfl, p, dx, _, rfl, hp, rfl, _, rfl, na, _, _, .int (d : Int), rfl, rfl, SqL.of h, atI_nat (j := 0) rfl, p, d, st, l, as, rfl, B, kO⟩
    | look d h =>
      refine ⟨_, rfl, rfl, _, rfl, eqF (by decide) ?_⟩
      refine ⟨_, rfl, rfl, _, rfl, eqF (by decide) ?_⟩
      refine ⟨_, rfl, rfl, _, rfl, eqF (by decide) ?_⟩
      refine ⟨_, rfl, rfl, _, rfl, eqF (by decide) ?_⟩
      refine ⟨_, rfl, rfl, _, rfl, eqF (by decide) ?_⟩
      refine ⟨_, rfl, rfl, _, rfl, eqT rfl ?_⟩
      exact ⟨_, rfl, p, dx, _, rfl, hp, rfl, _, rfl, na, _, _, .int (d : Int), rfl, rfl, SqL.of h, atI_nat (j := 0) rfl, p, d, st, l, as, rfl, B, kO⟩
    | rest =>
      refine ⟨_, rfl, rfl, _, rfl, eqF (by decide) ?_⟩
      refine ⟨_, rfl, rfl, _, rfl, eqF (by decide) ?_⟩
      refine ⟨_, rfl, rfl, _, rfl, eqF (by decide) ?_⟩
      refine ⟨_, rfl, rfl, _, rfl, eqF (by decide) ?_⟩
      refine ⟨_, rfl, rfl, _, rfl, eqF (by decide) ?_⟩
      refine ⟨_, rfl, rfl, _, rfl, eqF (by decide) ?_⟩
      refine ⟨_, rfl, (by show 4 ≤ sizeLine; decide), fun z hz => ⟨z, _, rfl, .inr (SqT.of upd_same), rfl, rfl, _, rfl, inF (by decide) ?_⟩⟩
      have sz : Same H (upd H z (.tup [.int 7, .int 8, .int 9, .int 10])) := Same.new hz
      refine ⟨_, rfl, rfl, _, rfl, eqT rfl ?_⟩
      exact ⟨_, rfl, p, dx, _, rfl, sz _ _ hp, rfl, p, st, l, as, rfl, (Did.same B sz).shop, N, hT.same sz, k.from sz⟩
    | follow ps r hp60 h1 h2 =>
      refine ⟨_, rfl, rfl, _, rfl, eqF (by decide) ?_⟩
      refine ⟨_, rfl, rfl, _, rfl, eqF (by decide) ?_⟩
      refine ⟨_, rfl, rfl, _, rfl, eqF (by decide) ?_⟩
      refine ⟨_, rfl, rfl, _, rfl, eqF (by decide) ?_⟩
      refine ⟨_, rfl, rfl, _, rfl, eqF (by decide) ?_⟩
      refine ⟨_, rfl, rfl, _, rfl, eqF (by decide) ?_⟩
      refine ⟨_, rfl, (by show 4 ≤ sizeLine; decide), fun z hz => ⟨z, _, rfl, .inr (SqT.of upd_same), rfl, rfl, _, rfl, inF (by decide) ?_⟩⟩
      have sz : Same H (upd H z (.tup [.int 7, .int 8, .int 9, .int 10])) := Same.new hz
      have Bz := (Did.same B sz).shop
      refine ⟨_, rfl, rfl, _, rfl, eqF (by decide) ?_⟩
      refine ⟨_, rfl, rfl, _, rfl, eqT rfl ?_⟩
      exact ⟨_, rfl, p, dx, _, rfl, sz _ _ hp, rfl, _, rfl, ra, _, _, .ref r, rfl, rfl, SqL.of (sz _ _ h1), atI_nat (j := 0) rfl, p, r, st, l, as, ps, rfl, Bz, sz _ _ h2, hrl r _ h1, hp60, (k.from sz).of Bz (hT.same sz)⟩
    | book =>
      refine ⟨_, rfl, rfl, _, rfl, eqF (by decide) ?_⟩
      refine ⟨_, rfl, rfl, _, rfl, eqF (by decide) ?_⟩
      refine ⟨_, rfl, rfl, _, rfl, eqF (by decide) ?_⟩
      refine ⟨_, rfl, rfl, _, rfl, eqF (by decide) ?_⟩
      refine ⟨_, rfl, rfl, _, rfl, eqF (by decide) ?_⟩
      refine ⟨_, rfl, rfl, _, rfl, eqF (by decide) ?_⟩
      refine ⟨_, rfl, (by show 4 ≤ sizeLine; decide), fun z hz => ⟨z, _, rfl, .inr (SqT.of upd_same), rfl, rfl, _, rfl, inF (by decide) ?_⟩⟩
      have sz : Same H (upd H z (.tup [.int 7, .int 8, .int 9, .int 10])) := Same.new hz
      have Bz := (Did.same B sz).shop
      refine ⟨_, rfl, rfl, _, rfl, eqF (by decide) ?_⟩
      refine ⟨_, rfl, rfl, _, rfl, eqF (by decide) ?_⟩
      exact ⟨_, rfl, p, dx, _, rfl, sz _ _ hp, rfl, p, st, l, as, rfl, Bz, N, (k.from sz).of Bz (hT.same sz)⟩
    | _ =>
      refine ⟨_, rfl, rfl, _, rfl, eqF (by decide) ?_⟩
      refine ⟨_, rfl, rfl, _, rfl, eqF (by decide) ?_⟩
      refine ⟨_, rfl, rfl, _, rfl, eqF (by decide) ?_⟩
      refine ⟨_, rfl, rfl, _, rfl, eqF (by decide) ?_⟩
      refine ⟨_, rfl, rfl, _, rfl, eqF (by decide) ?_⟩
      refine ⟨_, rfl, rfl, _, rfl, eqF (by decide) ?_⟩
      refine ⟨_, rfl, (by show 4 ≤ sizeLine; decide), fun z hz => ⟨z, _, rfl, .inr (SqT.of upd_same), rfl, rfl, _, rfl, inT (by decide) ?_⟩⟩
      have sz : Same H (upd H z (.tup [.int 7, .int 8, .int 9, .int 10])) := Same.new hz
      have Bz := (Did.same B sz).shop
      have hTz := hT.same sz
      refine ⟨_, rfl, p, _, dx, _, _, rfl, sz _ _ hp, T.cl_Workshop, T.na_Workshop_cools, wf_cools _ _ _ _ _, _, rfl, _, rfl, _, rfl, st.cooling, _, na, ra, _, rfl, N.cools, hTz, Hand.same (by first | exact .least _ _ ‹_› ‹_› | exact .plan _ _ ‹_› ‹_› | exact .judge _ _ _ _ ‹_› ‹_› ‹_› ‹_› | exact .cooling _ _ _ ‹_› ‹_› ‹_›) sz, rfl, fun H' q k2 hq hl => ?_⟩
      exact (k.from sz) H' as q (KP.toT k2 Bz hTz) hq hl
end
end DV
end
noncomputable section
set_option Elab.async false
set_option linter.all false
set_option maxRecDepth 100000
set_option maxHeartbeats 4000000
namespace DV
open PySem PySem.Spec PyProof.Rows L2
def Lit (K : PySem.W.Frag) (a : Addr) (xs : List V) : Prop := ∃ (o : Obj) (its : Array Value) (n : Nat), K.lookup a = some o ∧ o.cls = .type "list" ∧ o.dict = none ∧ o.data = .seq its n ∧ its.size ≤ sizeLine ∧ Vals xs its.toList
def ShopV (D : Dat) (L : Addr → Prop) (H : Hp) (td : Addr) : Mu41.Abs → V → Prop
  | none, v => v = .non
  | some s, v => ∃ (p l : Addr) (as : List Addr), v = .ref p ∧ ShopAt D H p s l as ∧ MS.Nice s ∧ td ≠ l ∧ L l
structure Loop (D : Dat) (K : PySem.W.Frag) (t a ln td : Addr) (ns : List Int) (n : Nat) (Z : List Int) (st : Mu41.Abs) (v : V) (H : Hp) : Prop where
  line : LineAt D H ln a n
  arg : (Rd H a (.lst (ns.map V.int)) ∧ a ≠ td) ∨ Lit K a (ns.map V.int)
  tab : TAt t H
  told : H td = some (.lst (Z.map V.int))
  shop : ShopV D (fun l => a ≠ l ∨ Lit K a (ns.map V.int)) H td st v
section
variable {D : Dat} {K : PySem.W.Frag} {t a ln td : Addr} {ns : List Int} {n : Nat} {Z : List Int} {st : Mu41.Abs} {v : V} {H H' : Hp}
theorem Loop.list (B : Loop D K t a ln td ns n Z st v H) : SqL K H a (ns.map V.int) := B.arg.imp (fun q => q.1) id
theorem ShopAt.nline {p l : Addr} {as : List Addr} {s : Mu41.State} (B : ShopAt D H p s l as) (L : LineAt D H ln a n) : ln ≠ p ∧ ln ≠ l ∧ ln ∉ as := by
  obtain ⟨dx, h⟩ := L
  refine ⟨?_, ?_, fun m => ?_⟩
  · obtain ⟨dy, hp⟩ := B.obj
    refine ne_of h hp fun z => ?_
    injection z with _ _ z
    exact absurd (congrArg List.length z) (by show ¬ 2 = 5; decide)
  · exact ne_of h B.lst fun z => nomatch z
  · obtain ⟨_, _, _, _, dy, ha⟩ := B.mem m
    rw [h] at ha
    injection ha with ha
    injection ha with _ _ z
    exact absurd (congrArg List.length z) (by show ¬ 2 = 4; decide)
theorem ShopV.keep {L : Addr → Prop} (h : ShopV D L H td st v) (k : ∀ (p l : Addr) (as : List Addr) (s : Mu41.State), ShopAt D H p s l as → td ≠ l → ∀ b o, H b = some o → (b = p ∨ b = l ∨ b ∈ as) → H' b = some o) : ShopV D L H' td st v := by
  cases st with
  | none => exact h
  | some s =>
    obtain ⟨p, l, as, e, B, N, hn, hl⟩ := h
    exact ⟨p, l, as, e, B.keep (k p l as s B hn), N, hn, hl⟩
theorem But.tab {p b : Addr} {m : Nat} (k : But p H H') (L : LineAt D H p b m) (h : TAt t H) : TAt t H' := by
  obtain ⟨dx, hp⟩ := L
  rcases h with h | ⟨c, h1, h2⟩
  · exact .inl (k _ _ h (ne_of h hp fun z => nomatch z))
  · exact .inr ⟨c, k _ _ h1 (ne_of h1 hp fun z => nomatch z), k _ _ h2 (ne_of h2 hp fun z => nomatch z)⟩
theorem Loop.but (B : Loop D K t a ln td ns n Z st v H) (k : But ln H H') {n' : Nat} (L : LineAt D H' ln a n') : Loop D K t a ln td ns n' Z st v H' := by
  refine ⟨L, B.arg.imp (fun q => ⟨?_, q.2⟩) id, k.tab B.line B.tab, k _ _ B.told (B.line.na B.told), B.shop.keep fun p l as s S _ b o e z => k b o e fun q => ?_⟩
  · obtain ⟨dx, h⟩ := B.line
    rcases q.1 with q | ⟨o, q⟩
    · exact .inl (k _ _ q (ne_of q h fun z => nomatch z))
    · exact .inr ⟨o, k _ _ q (ne_of q h fun z => nomatch z)⟩
  · obtain ⟨h1, h2, h3⟩ := S.nline B.line
    rcases z with z | z | z
    · exact h1 (q.symm.trans z)
    · exact h2 (q.symm.trans z)
    · exact h3 (by rw [← q]; exact z)
theorem Loop.same (B : Loop D K t a ln td ns n Z st v H) (k : Same H H') : Loop D K t a ln td ns n Z st v H' := by
  obtain ⟨dx, h⟩ := B.line
  exact ⟨⟨dx, k _ _ h⟩, B.arg.imp (fun q => ⟨q.1.imp (fun z => k _ _ z) fun ⟨o, z⟩ => ⟨o, k _ _ z⟩, q.2⟩) id, B.tab.same k, k _ _ B.told, B.shop.keep fun _ _ _ _ _ _ b o e _ => k b o e⟩
theorem Loop.write (B : Loop D K t a ln td ns n Z st v H) (Z' : List Int) : Loop D K t a ln td ns n Z' st v (upd H td (.lst (Z'.map V.int))) := by
  refine ⟨?_, ?_, ?_, upd_same, B.shop.keep fun p l as s S hn b o e z => ?_⟩
  · obtain ⟨dx, h⟩ := B.line
    exact ⟨dx, by rw [upd_ne (B.line.na B.told).symm]; exact h⟩
  · refine B.arg.imp (fun q => ⟨?_, q.2⟩) id
    rcases q.1 with z | ⟨o, z⟩
    · exact .inl (by rw [upd_ne q.2]; exact z)
    · exact .inr ⟨o, by rw [upd_ne q.2]; exact z⟩
  · exact TAt.put B.tab B.told (fun _ z => nomatch z) (fun _ z => nomatch z)
  · rw [upd_ne fun q => ?_]
    · exact e
    · rcases z with z | z | z
      · obtain ⟨dy, hp⟩ := S.obj
        exact ne_of hp B.told (fun z => nomatch z) (z.symm.trans q)
      · exact hn (q.symm.trans z)
      · exact S.la z (by
          obtain ⟨_, _, _, _, dy, hb⟩ := S.mem z
          rw [q, B.told] at hb
          cases hb)
theorem Loop.did {p l : Addr} {as as' : List Addr} {s s' : Mu41.State} (B : Loop D K t a ln td ns n Z (some s) v H) (S : ShopAt D H p s l as) (hv : v = .ref p) (hn : td ≠ l) (hl : a ≠ l ∨ Lit K a (ns.map V.int)) (N : MS.Nice s') (d : DidT D t H p l as H' s' as') : Loop D K t a ln td ns n Z (some s') v H' := by
  obtain ⟨h1, h2, h3⟩ := S.nline B.line
  obtain ⟨ps, ht⟩ := TAt.some_ B.tab
  obtain ⟨dy, hp⟩ := S.obj
  refine ⟨?_, ?_, d.tab, ?_, p, l, as', hv, d.shop, N, hn, hl⟩
  · obtain ⟨dx, h⟩ := B.line
    exact ⟨dx, d.kept _ _ h (ne_of h ht fun z => nomatch z) h1 h2 h3⟩
  · rcases hl with hl | hl
    · refine B.arg.imp (fun q => ⟨?_, q.2⟩) id
      rcases q.1 with z | ⟨o, z⟩
      · refine .inl (d.kept _ _ z (ne_of z ht fun z => nomatch z) (ne_of z hp fun z => nomatch z) hl fun m => ?_)
        obtain ⟨_, _, _, _, dx, ha⟩ := S.mem m
        rw [z] at ha
        cases ha
      · refine .inr ⟨o, d.kept _ _ z (ne_of z ht fun z => nomatch z) (ne_of z hp fun z => nomatch z) hl fun m => ?_⟩
        obtain ⟨_, _, _, _, dx, ha⟩ := S.mem m
        rw [z] at ha
        cases ha
    · exact .inr hl
  · refine d.kept _ _ B.told (ne_of B.told ht fun z => nomatch z) (ne_of B.told hp fun z => nomatch z) hn fun m => ?_
    obtain ⟨_, _, _, _, dx, ha⟩ := S.mem m
    rw [B.told] at ha
    cases ha
end
def handedV : List V := [.int 2, .int 1, .int 1, .int 1, .int 1, .int 1, .int 1, .int 0, .int 0, .int 0, .int 1, .int 0, .int 0, .int 0]
def rowsBV : List V := [.int 0, .int 0, .int 0, .int 0, .int 0, .int 0, .int 0, .int 1, .int 1, .int 2, .int 1, .int 0, .int 1, .int 0]
theorem rowsV1 {H0 H : Hp} {rs : List Addr} {x : List V} (h : RowsV H0 H rs [x]) : ∃ r, rs = [r] ∧ H r = some (.lst x) ∧ H0 r = none := by
  match rs, h.len with
  | [r], _ => exact ⟨r, rfl, h.at_ 0 r x rfl rfl, h.new r (List.mem_singleton.mpr rfl)⟩
theorem rowsV2 {H0 H : Hp} {rs : List Addr} {x y : List V} (h : RowsV H0 H rs [x, y]) : ∃ r u, rs = [r, u] ∧ H r = some (.lst x) ∧ H u = some (.lst y) ∧ H0 r = none := by
  match rs, h.len with
  | [r, u], _ => exact ⟨r, u, rfl, h.at_ 0 r x rfl rfl, h.at_ 1 u y rfl rfl, h.new r (List.mem_cons_self ..)⟩
theorem putRows_flat : ∀ rows : List (List Int), (PyFlat.putRows rows).map V.int = flatRows (rows.map fun (r : List Int) => r.map V.int)
  | [] => rfl
  | r :: rows => by
    unfold PyFlat.putRows PyFlat.putRow
    rw [List.cons_append, List.map_cons, List.map_append, putRows_flat rows, List.map_cons]
    show _ = V.int _ :: _
    rw [List.length_map]
theorem hand_of {c : List (List Int)} {x : Mu41.Call} (h : MP.CallIs c x) : ∃ (k : Nat) (nums : List Int) (rows : List (List Int)), c = ((k : Int) :: nums) :: rows ∧ atI handedV (k : Int) = some (.int (nums.length : Nat)) ∧ atI rowsBV (k : Int) = some (.int (rows.length : Nat)) ∧ rows.length ≤ 2 ∧
    (∀ (H0 H : Hp) (na ra : Addr) (rs : List Addr), H na = some (.lst (nums.map V.int)) → H ra = some (.lst (rs.map V.ref)) → RowsV H0 H rs (rows.map fun (r : List Int) => r.map V.int) → Hand H na ra (k : Int) x ∧ ∀ r u, H ra = some (.lst (.ref r :: u)) → H0 r = none) ∧
    ((k = 0 ∧ ∃ c w, x = .begin_ c w ∧ nums = [(c : Int), (w : Int)]) ∨ (k ≠ 0 ∧ Mu41.step none x = (none, [-9]))) := by
  have none0 : ∀ {H0 H : Hp} {ra : Addr} {rs : List Addr}, H ra = some (.lst (rs.map V.ref)) → RowsV H0 H rs [] → ∀ r u, H ra = some (.lst (.ref r :: u)) → H0 r = none := fun {H0 H ra rs} h1 R r u h2 => by
    have e : rs = [] := List.eq_nil_of_length_eq_zero R.len
    subst e
    rw [h1] at h2
    cases h2
  have one : ∀ {H0 H : Hp} {ra q : Addr}, H ra = some (.lst [.ref q]) → H0 q = none → ∀ r u, H ra = some (.lst (.ref r :: u)) → H0 r = none := fun {H0 H ra q} h1 h2 r u h3 => by
    rw [h1] at h3
    injection h3 with h3
    injection h3 with h3
    injection h3 with h3
    injection h3 with h3
    rw [← h3]
    exact h2
  cases h with
  | begin_ c w _ _ => exact ⟨0, _, _, rfl, rfl, rfl, Nat.le_of_ble_eq_true rfl, fun H0 H na ra rs h1 h2 h3 => ⟨.begin_ c w h1, none0 h2 h3⟩, .inl ⟨rfl, c, w, rfl, rfl⟩⟩
  | frame d _ => exact ⟨1, _, _, rfl, rfl, rfl, Nat.le_of_ble_eq_true rfl, fun H0 H na ra rs h1 h2 h3 => ⟨.frame d h1, none0 h2 h3⟩, .inr ⟨by decide, rfl⟩⟩
  | wax d _ => exact ⟨2, _, _, rfl, rfl, rfl, Nat.le_of_ble_eq_true rfl, fun H0 H na ra rs h1 h2 h3 => ⟨.wax d h1, none0 h2 h3⟩, .inr ⟨by decide, rfl⟩⟩
  | dip d _ => exact ⟨3, _, _, rfl, rfl, rfl, Nat.le_of_ble_eq_true rfl, fun H0 H na ra rs h1 h2 h3 => ⟨.dip d h1, none0 h2 h3⟩, .inr ⟨by decide, rfl⟩⟩
  | wait d _ => exact ⟨4, _, _, rfl, rfl, rfl, Nat.le_of_ble_eq_true rfl, fun H0 H na ra rs h1 h2 h3 => ⟨.wait d h1, none0 h2 h3⟩, .inr ⟨by decide, rfl⟩⟩
  | sell d _ => exact ⟨5, _, _, rfl, rfl, rfl, Nat.le_of_ble_eq_true rfl, fun H0 H na ra rs h1 h2 h3 => ⟨.sell d h1, none0 h2 h3⟩, .inr ⟨by decide, rfl⟩⟩
  | look d _ => exact ⟨6, _, _, rfl, rfl, rfl, Nat.le_of_ble_eq_true rfl, fun H0 H na ra rs h1 h2 h3 => ⟨.look d h1, none0 h2 h3⟩, .inr ⟨by decide, rfl⟩⟩
  | least w _ _ => exact ⟨7, _, _, rfl, rfl, rfl, Nat.le_of_ble_eq_true rfl, fun H0 H na ra rs h1 h2 h3 => by
      obtain ⟨r, rfl, hr, h0⟩ := rowsV1 h3
      have hr : H r = some (.lst (nv w)) := by rw [← nv_nums]; exact hr
      exact ⟨.least w r h2 hr, one h2 h0⟩, .inr ⟨by decide, rfl⟩⟩
  | plan w _ _ => exact ⟨8, _, _, rfl, rfl, rfl, Nat.le_of_ble_eq_true rfl, fun H0 H na ra rs h1 h2 h3 => by
      obtain ⟨r, rfl, hr, h0⟩ := rowsV1 h3
      have hr : H r = some (.lst (nv w)) := by rw [← nv_nums]; exact hr
      exact ⟨.plan w r h2 hr, one h2 h0⟩, .inr ⟨by decide, rfl⟩⟩
  | judge w p _ _ hp _ => exact ⟨9, _, _, rfl, rfl, rfl, Nat.le_of_ble_eq_true rfl, fun H0 H na ra rs h1 h2 h3 => by
      obtain ⟨r, u, rfl, hr, hu, h0⟩ := rowsV2 h3
      have hr : H r = some (.lst (nv w)) := by rw [← nv_nums]; exact hr
      have hu : H u = some (.lst (nv p)) := by rw [← nv_nums]; exact hu
      refine ⟨.judge w p r u hp h2 hr hu, fun q z h4 => ?_⟩
      rw [show H ra = some (.lst [.ref r, .ref u]) from h2] at h4
      injection h4 with h4
      injection h4 with h4
      injection h4 with h4
      injection h4 with h4
      rw [← h4]
      exact h0, .inr ⟨by decide, rfl⟩⟩
  | cooling d w _ _ _ => exact ⟨10, _, _, rfl, rfl, rfl, Nat.le_of_ble_eq_true rfl, fun H0 H na ra rs h1 h2 h3 => by
      obtain ⟨r, rfl, hr, h0⟩ := rowsV1 h3
      have hr : H r = some (.lst (nv w)) := by rw [← nv_nums]; exact hr
      exact ⟨.cooling d w r h1 h2 hr, one h2 h0⟩, .inr ⟨by decide, rfl⟩⟩
  | rest => exact ⟨11, _, _, rfl, rfl, rfl, Nat.le_of_ble_eq_true rfl, fun H0 H na ra rs h1 h2 h3 => ⟨.rest, none0 h2 h3⟩, .inr ⟨by decide, rfl⟩⟩
  | follow p hp _ => exact ⟨12, _, _, rfl, rfl, rfl, Nat.le_of_ble_eq_true rfl, fun H0 H na ra rs h1 h2 h3 => by
      obtain ⟨r, rfl, hr, h0⟩ := rowsV1 h3
      have hr : H r = some (.lst (nv p)) := by rw [← nv_nums]; exact hr
      exact ⟨.follow p r hp h2 hr, one h2 h0⟩, .inr ⟨by decide, rfl⟩⟩
  | book => exact ⟨13, _, _, rfl, rfl, rfl, Nat.le_of_ble_eq_true rfl, fun H0 H na ra rs h1 h2 h3 => ⟨.book, none0 h2 h3⟩, .inr ⟨by decide, rfl⟩⟩
end DV
end
noncomputable section
set_option Elab.async false
set_option linter.all false
set_option maxRecDepth 100000
set_option maxHeartbeats 4000000
namespace DV
open PySem PySem.Spec PyProof.Rows L2
def spAns (K : PySem.W.Frag) (t : Addr) : Sp := fun vs H Q _ => ∃ (a : Addr) (ns : List Int), vs = [.ref a] ∧ SqL K H a (ns.map V.int) ∧ H t = some (.tbl #[]) ∧ PyMu41.answers_asked ns = true ∧ ∀ (H' : Hp) (p : Addr), H' p = some (.lst ((PyMu41.answers ns).map V.int)) → Q (.ref p) H'
theorem put_append (A : List (List (List Int))) : ∀ B, PyFlat.put (A ++ B) = PyFlat.put A ++ PyFlat.put B := by
  induction A with
  | nil => intro B; rfl
  | cons c A ih =>
    intro B
    rw [List.cons_append]
    show PyFlat.put1 c ++ PyFlat.put (A ++ B) = PyFlat.put1 c ++ PyFlat.put A ++ PyFlat.put B
    rw [ih, List.append_assoc]
theorem told_cons (z : List Int) (r : List (List Int)) : PyFlat.told (z :: r) = ((z.length : Int) :: z) ++ PyFlat.told r := by
  unfold PyFlat.told
  rw [List.flatMap_cons]
def lenR (K : PySem.W.Frag) : List V → Hp → VK → Prop := fun xs H Q => ∃ p ys, xs = [.ref p] ∧ (SqL K H p ys ∨ SqT K H p ys) ∧ Q (.int ys.length) H
def Word (D : Dat) (K : PySem.W.Frag) (t a ln td : Addr) (ns : List Int) (cs : List (List (List Int))) (m : Nat) (σ : L2.St) (H : Hp) : Prop :=
  ∃ (done rest : List (List (List Int))) (st : Mu41.Abs) (Z : List Int) (v : V), cs = done ++ rest ∧ rest.length = m ∧ Loop D K t a ln td ns (PyFlat.put done).length Z st v H ∧ Z ++ PyFlat.told (PyFlat.played Mu41Neutral.step st rest) = PyMu41.answers ns ∧
    ∃ x4 x5 x6 x7, σ = [some (.ref a), some (.ref td), some v, some (.ref ln), x4, x5, x6, x7]
theorem step_some (s : Mu41.State) (x : Mu41.Call) : ∃ s', (Mu41.step (some s) x).1 = some s' := by
  cases x with
  | begin_ c w => simp only [Mu41.step]; split <;> exact ⟨_, rfl⟩
  | frame d => simp only [Mu41.step]; (repeat' split) <;> exact ⟨_, rfl⟩
  | wax d => simp only [Mu41.step]; (repeat' split) <;> exact ⟨_, rfl⟩
  | dip d => exact ⟨_, rfl⟩
  | wait d => simp only [Mu41.step]; (repeat' split) <;> exact ⟨_, rfl⟩
  | sell d => simp only [Mu41.step]; (repeat' split) <;> exact ⟨_, rfl⟩
  | look d => exact ⟨_, rfl⟩
  | least w => exact ⟨_, rfl⟩
  | plan w => exact ⟨_, rfl⟩
  | judge w p => exact ⟨_, rfl⟩
  | cooling d w => exact ⟨_, rfl⟩
  | rest => exact ⟨_, rfl⟩
  | follow p => exact ⟨_, rfl⟩
  | book => exact ⟨_, rfl⟩
section
variable {P : Program} {w : World} {K : PySem.W.Frag} {mg : Str → Option Value} {base : Heap} {D : Dat} {cc t : Addr}
theorem turn_end {a ln td q : Addr} {ns : List Int} {cs done rest : List (List (List Int))} {c : List (List Int)} {st st' : Mu41.Abs} {Z zs : List Int} {v' : V} {H : Hp} {m : Nat} {x4 x5 x6 : Option V} {E : Ends} (hcs : cs = done ++ c :: rest) (hm : (c :: rest).length = m) (hst : Mu41Neutral.step st c = (st', zs))
    (B : Loop D K t a ln td ns (PyFlat.put (done ++ [c])).length Z st' v' H) (hq : H q = some (.lst (zs.map V.int))) (hqt : q ≠ td) (hd : Z ++ PyFlat.told (PyFlat.played Mu41Neutral.step st (c :: rest)) = PyMu41.answers ns) (hb : (PyMu41.answers ns).length ≤ 10000000)
    (hE : ∀ σ' H', (∃ m', m' < m ∧ Word D K t a ln td ns cs m' σ' H') → E.nx σ' H') :
    tSeq (tDrop (tBM K "list" rAppend (tVar 1) (tCons (tCB (lenR K) (tCons (tVar 7) tNil)) tNil))) (tDrop (tBM K "list" rExtend (tVar 1) (tCons (tVar 7) tNil))) E [some (.ref a), some (.ref td), some v', some (.ref ln), x4, x5, x6, some (.ref q)] H := by
  have e1 : PyFlat.played Mu41Neutral.step st (c :: rest) = zs :: PyFlat.played Mu41Neutral.step st' rest := by
    show (Mu41Neutral.step st c).2 :: PyFlat.played Mu41Neutral.step (Mu41Neutral.step st c).1 rest = _
    rw [hst]
  rw [e1, told_cons] at hd
  have hl : Z.length + 1 + zs.length ≤ 10000000 := by
    rw [← hd] at hb
    simp only [List.length_append, List.length_cons] at hb
    omega
  refine ⟨_, rfl, .inl ⟨rfl, _, SqL.of B.told⟩, _, rfl, q, _, rfl, .inl (SqL.of hq), td, _, _, rfl, rfl, B.told, ?_, ?_⟩
  · rw [List.length_map, sizeLine_eq]
    omega
  · refine ⟨_, rfl, .inl ⟨rfl, _, SqL.of upd_same⟩, _, rfl, td, q, _, _, rfl, rfl, upd_same, (by rw [upd_ne hqt]; exact hq), ?_, ?_⟩
    · rw [List.length_append, List.length_map, List.length_map, sizeLine_eq]
      show Z.length + 1 + _ ≤ _
      omega
    · rw [upd_upd]
      refine hE _ _ ⟨rest.length, by rw [← hm, List.length_cons]; omega, done ++ [c], rest, st', Z ++ ((zs.length : Int) :: zs), v', by rw [hcs, List.append_assoc]; rfl, rfl, ?_, by rw [List.append_assoc]; exact hd, _, _, _, _, rfl⟩
      have := B.write (Z ++ ((zs.length : Int) :: zs))
      rw [List.map_append, List.map_cons] at this
      rw [List.length_map, List.append_assoc]
      exact this
theorem ok_answers (T : Txt K mg D) (G : Gr mg base D cc t) : FnOk P w K mg base CX0 7 D.f_answers D.fd_answers ["calls"] (spAns K t) := by
  refine T.F_answers.ok sc_answers (fun vs H Q E h => ?_) (fun cdv A outer s H vs Q E hr h => ?_)
  · obtain ⟨a, ns, rfl, _⟩ := h
    rfl
  · obtain ⟨a, ns, rfl, hs, ht, hask, k⟩ := h
    obtain ⟨cs, hput, hcalls, _, hans, hlen⟩ := MP.asked_calls hask
    refine ⟨_, (pss_cons (ps_set (i := 1) sc_answers.nd rfl (Or.inl rfl) (pe_lst pa_nil))
      (pss_cons (ps_set (i := 2) sc_answers.nd rfl (Or.inl rfl) pe_non)
      (pss_cons (ps_set (i := 3) sc_answers.nd rfl (Or.inl rfl) (pe_make T.mk_Line (ok_Line_init T) (hr.mono (by decide)) rfl T.c_Line T.b_Line_init .nil pass0 (pa_cons (pv 0) pa_nil)))
      (pss_cons (ps_while PassesOwn.never (pt_not (pt_truth (pe_meth0 (pv 3) T.cl_Line T.m_Line_at_end (ok_Line_at_end T) (hr.mono (by decide)) T.b_Line_at_end .nil pass0) (fun _ => rfl)))
      (pss_cons (ps_set (i := 4) sc_answers.nd rfl (Or.inl rfl) (pe_meth0 (pv 3) T.cl_Line T.m_Line_take_number (ok_Line_take_number T) (hr.mono (by decide)) T.b_Line_take_number .nil pass0))
      (pss_cons (ps_set (i := 5) sc_answers.nd rfl (Or.inl rfl) (pe_meth (pv 3) T.cl_Line T.m_Line_take_numbers (ok_Line_take_numbers T) (hr.mono (by decide)) T.b_Line_take_numbers .nil pass0 (pa_cons (pe_ix ix_tup (pe_g rfl T.g_HANDED_OVER) (pv 4) (fun _ _ => rfl)) pa_nil)))
      (pss_cons (ps_set (i := 6) sc_answers.nd rfl (Or.inl rfl) (pe_meth (pv 3) T.cl_Line T.m_Line_take_rows (ok_Line_take_rows T) (hr.mono (by decide)) T.b_Line_take_rows .nil pass0 (pa_cons (pe_ix ix_tup (pe_g rfl T.g_ROWS_BEHIND) (pv 4) (fun _ _ => rfl)) pa_nil)))
      (pss_cons (ps_if (pt_cmpR op_eq (pv 4) (pe_g rfl T.g_BEGIN) (nomark _))
      (pss_one (ps_if (pt_truth (pe_call (ok_may_begin T) (hr.mono (by decide)) rfl T.gl_may_begin T.F_may_begin.kp T.b_may_begin .nil pass0 (pa_cons (pe_ix ix_list (pv 5) pe_int (fun _ _ => rfl)) (pa_cons (pe_ix ix_list (pv 5) pe_int (fun _ _ => rfl)) pa_nil))) (fun _ => rfl))
      (pss_cons (ps_set (i := 2) sc_answers.nd rfl (Or.inl rfl) (pe_make T.mk_Workshop (ok_Workshop_init T) (hr.mono (by decide)) rfl T.c_Workshop T.b_Workshop_init .nil pass0 (pa_cons (pe_ix ix_list (pv 5) pe_int (fun _ _ => rfl)) (pa_cons (pe_ix ix_list (pv 5) pe_int (fun _ _ => rfl)) pa_nil))))
      (pss_one (ps_set (i := 7) sc_answers.nd rfl (Or.inl rfl) (pe_lst (pa_cons pe_int pa_nil)))))
      (pss_one (ps_set (i := 7) sc_answers.nd rfl (Or.inl rfl) (pe_lst (pa_cons (pe_g rfl T.g_OUT_OF_RANGE) pa_nil))))))
      (pss_one (ps_if (pt_cmpR op_isN (pv 2) pe_non (nomark _))
      (pss_one (ps_set (i := 7) sc_answers.nd rfl (Or.inl rfl) (pe_lst (pa_cons (pe_g rfl T.g_NO_WORKSHOP) pa_nil))))
      (pss_one (ps_set (i := 7) sc_answers.nd rfl (Or.inl rfl) (pe_call (ok_answer_in T G) (hr.mono (by decide)) rfl T.gl_answer_in T.F_answer_in.kp T.b_answer_in .nil pass0 (pa_cons (pv 2) (pa_cons (pv 4) (pa_cons (pv 5) (pa_cons (pv 6) pa_nil))))))))))
      (pss_cons (ps_expr (pe_bm PySem.F.plainAttrs_list PySem.F.slot_list_append PySem.F.type_list_append mt_append (pv 1) (pa_cons (pe_callB call_len_seq rfl T.n_len PySem.boot_len (pa_cons (pv 7) pa_nil)) pa_nil)))
      (pss_one (ps_expr (pe_bm PySem.F.plainAttrs_list PySem.F.slot_list_extend PySem.F.type_list_extend mt_extend (pv 1) (pa_cons (pv 7) pa_nil))))))))))
      (pss_one (ps_ret (pv 1))))))), ?_⟩
    refine ⟨Nat.zero_le _, fun td htd => ⟨_, rfl, ?_⟩⟩
    intro ln dl hln hdl hne
    refine ⟨ln, a, dl, rfl, upd_same, fun H1 L1 b1 => ⟨rfl, ?_⟩⟩
    have s1 : Same (upd H td (.lst [])) H1 := Same.made hln hdl b1
    have s0 : Same H H1 := (Same.new htd).trans s1
    have td1 : H1 td = some (.lst []) := s1 _ _ upd_same
    refine ⟨Word D K t a ln td ns cs, ⟨cs.length, [], cs, none, [], .non, rfl, rfl, ⟨L1, ?_, .inl (s0 _ _ ht), td1, rfl⟩, by rw [hans]; rfl, _, _, _, _, rfl⟩, ?_⟩
    · rcases hs with q | q
      · have hat : a ≠ td := by
          rcases q with z | ⟨o, z⟩
          · exact ne_of_none z htd
          · exact ne_of_none z htd
        exact .inl ⟨q.imp (fun z => s0 _ _ z) fun ⟨o, z⟩ => ⟨o, s0 _ _ z⟩, hat⟩
      · exact .inr q
    rintro m σ H2 ⟨done, rest, st, Z, v, hcs, hm, B, hd, x4, x5, x6, x7, rfl⟩
    obtain ⟨dx2, hl2⟩ := id B.line
    refine ⟨_, rfl, ln, dx2, _, rfl, hl2, rfl, ln, a, _, _, rfl, B.line, B.list, _, rfl, ?_⟩
    have hpl : (ns.map V.int).length = (PyFlat.put done).length + (PyFlat.put rest).length := by rw [List.length_map, hput, hcs, put_append, List.length_append]
    cases rest with
    | nil =>
      have e : decide ((ns.map V.int).length ≤ (PyFlat.put done).length) = true := decide_eq_true (by rw [hpl]; exact Nat.le_refl _)
      rw [e]
      refine iteF ⟨_, rfl, k H2 td ?_⟩
      rw [B.told]
      have : Z = PyMu41.answers ns := by
        rw [← hd]
        show Z = Z ++ []
        rw [List.append_nil]
      rw [this]
    | cons c rest =>
      obtain ⟨x, hx⟩ := hcalls c (by rw [hcs]; exact List.mem_append_right _ (List.mem_cons_self ..))
      obtain ⟨kn, nums, rows, rfl, hk1, hk2, hr2, hhand, hkind⟩ := hand_of hx
      have e : decide ((ns.map V.int).length ≤ (PyFlat.put done).length) = false := decide_eq_false (by
        rw [hpl]
        show ¬ _ + (((kn : Int) :: nums) ++ PyFlat.putRows rows ++ PyFlat.put rest).length ≤ _
        simp only [List.length_append, List.length_cons]
        omega)
      rw [e]
      refine iteT ⟨fun σ' H' => ∃ m', m' < m ∧ Word D K t a ln td ns cs m' σ' H', fun _ _ z => z, ?_⟩
      have eL : ns.map V.int = (PyFlat.put done).map V.int ++ (V.int (kn : Int) :: (nums.map V.int ++ (flatRows (rows.map fun (r : List Int) => r.map V.int) ++ (PyFlat.put rest).map V.int))) := by
        rw [hput, hcs, put_append, List.map_append]
        congr 1
        show ((((kn : Int) :: nums) ++ PyFlat.putRows rows) ++ PyFlat.put rest).map V.int = _
        rw [← putRows_flat]
        simp only [List.map_append, List.map_cons, List.cons_append, List.append_assoc]
      have l1 : ((PyFlat.put done).map V.int).length = (PyFlat.put done).length := List.length_map ..
      refine ⟨_, rfl, ln, dx2, _, rfl, hl2, rfl, ln, a, (PyFlat.put done).map V.int, _, V.int (kn : Int), rfl, (by rw [l1]; exact B.line), (by rw [← eL]; exact B.list), fun H3 L3 b3 => ?_⟩
      have B3 := B.but b3 L3
      obtain ⟨dx3, hl3⟩ := id L3
      have eL2 : ns.map V.int = ((PyFlat.put done).map V.int ++ [V.int (kn : Int)]) ++ (nums.map V.int ++ (flatRows (rows.map fun (r : List Int) => r.map V.int) ++ (PyFlat.put rest).map V.int)) := by
        rw [eL]
        simp only [List.append_assoc, List.cons_append, List.nil_append]
      have l2 : ((PyFlat.put done).map V.int ++ [V.int (kn : Int)]).length = ((PyFlat.put done).map V.int).length + 1 := by rw [List.length_append]; rfl
      refine ⟨_, rfl, ln, dx3, _, rfl, hl3, rfl, _, rfl, D.a_HANDED_OVER, handedV, _, _, rfl, rfl, T.t_HANDED_OVER _, hk1, ln, a, (PyFlat.put done).map V.int ++ [V.int (kn : Int)], nums.map V.int, _, (by rw [List.length_map]; rfl), (by rw [l2]; exact L3), (by rw [← eL2]; exact B3.list), fun H4 na hna L4 b4 hn4 => ?_⟩
      have B4 := B3.but b4 L4
      obtain ⟨dx4, hl4⟩ := id L4
      have eL3 : ns.map V.int = ((PyFlat.put done).map V.int ++ [V.int (kn : Int)] ++ nums.map V.int) ++ (flatRows (rows.map fun (r : List Int) => r.map V.int) ++ (PyFlat.put rest).map V.int) := by
        rw [eL2]
        simp only [List.append_assoc]
      have l3 : ((PyFlat.put done).map V.int ++ [V.int (kn : Int)] ++ nums.map V.int).length = ((PyFlat.put done).map V.int ++ [V.int (kn : Int)]).length + (nums.map V.int).length := List.length_append ..
      refine ⟨_, rfl, ln, dx4, _, rfl, hl4, rfl, _, rfl, D.a_ROWS_BEHIND, rowsBV, _, _, rfl, rfl, T.t_ROWS_BEHIND _, hk2, ln, a, (PyFlat.put done).map V.int ++ [V.int (kn : Int)] ++ nums.map V.int, (PyFlat.put rest).map V.int, rows.map fun (r : List Int) => r.map V.int, (by rw [List.length_map]; rfl), (by rw [List.length_map]; exact hr2), (by rw [l3]; exact L4), (by rw [← eL3]; exact B4.list), fun H5 ra rs hra L5 b5 hr5 R5 => ?_⟩
      have B5 := B4.but b5 L5
      have hn5 : H5 na = some (.lst (nums.map V.int)) := b5 _ _ hn4 (L4.na hn4)
      obtain ⟨hh, hnew⟩ := hhand H4 H5 na ra rs hn5 hr5 R5
      have en : (PyFlat.put (done ++ [((kn : Int) :: nums) :: rows])).length = ((PyFlat.put done).map V.int ++ [V.int (kn : Int)] ++ nums.map V.int).length + (flatRows (rows.map fun (r : List Int) => r.map V.int)).length := by
        rw [put_append, List.length_append, ← putRows_flat]
        show _ + (((kn : Int) :: nums) ++ PyFlat.putRows rows ++ PyFlat.put []).length = _
        simp only [List.length_append, List.length_map, List.length_cons, List.length_nil, PyFlat.put]
        omega
      rw [← en] at B5
      have hstep := MP.step_is hx st
      rcases hkind with ⟨rfl, c, wx, rfl, rfl⟩ | ⟨hk0, hstep0⟩
      · refine ⟨_, rfl, rfl, _, rfl, eqT rfl ?_⟩
        refine ⟨_, rfl, na, _, _, .int (c : Int), rfl, rfl, SqL.of hn5, atI_nat (j := 0) rfl, _, rfl, na, _, _, .int (wx : Int), rfl, rfl, SqL.of hn5, atI_nat (j := 1) rfl, c, wx, rfl, _, rfl, ?_⟩
        have hC : Mu41.COOL = 5 := rfl
        cases hb : (decide (c ≤ 5) && decide (wx ≤ 1000)) with
        | false =>
          have hno : Mu41.step st (.begin_ c wx) = (st, [-1]) := by
            have h1 : Mu41.COOL < c ∨ 1000 < wx := by
              rw [Bool.and_eq_false_iff, decide_eq_false_iff_not, decide_eq_false_iff_not] at hb
              omega
            cases st <;> (simp only [Mu41.step]; rw [if_pos h1])
          refine iteF ⟨line1, fun q hq => ?_⟩
          exact turn_end hcs hm (hstep.trans hno) (B5.same (Same.new hq)) upd_same (ne_of_none B5.told hq).symm hd hlen fun _ _ z => z
        | true =>
          rw [Bool.and_eq_true, decide_eq_true_eq, decide_eq_true_eq] at hb
          have hyes : Mu41.step st (.begin_ c wx) = (some ⟨c, [], 0, wx, wx, 0⟩, [0]) := by
            have h1 : ¬ (Mu41.COOL < c ∨ 1000 < wx) := by omega
            cases st <;> (simp only [Mu41.step]; rw [if_neg h1])
          refine iteT ⟨_, rfl, na, _, _, .int (c : Int), rfl, rfl, SqL.of hn5, atI_nat (j := 0) rfl, _, rfl, na, _, _, .int (wx : Int), rfl, rfl, SqL.of hn5, atI_nat (j := 1) rfl, ?_⟩
          intro p dp hp hdp hne
          refine ⟨p, dp, c, wx, rfl, upd_same, fun H6 l S hl b6 => ⟨rfl, line1, fun q hq => ?_⟩⟩
          have s6 : Same H5 H6 := Same.made hp hdp b6
          have l5 : H5 l = none := upd_none (upd_none hl)
          have B6 := B5.same s6
          have B7 : Loop D K t a ln td ns _ Z (some ⟨c, [], 0, wx, wx, 0⟩) (.ref p) H6 := ⟨B6.line, B6.arg, B6.tab, B6.told, p, l, [], rfl, S, ⟨hb.1, fun f hf => absurd hf (by simp), fun f hf => absurd hf (by simp), rfl⟩, ne_of_none B5.told l5, B5.arg.imp (fun z => by
            rcases z.1 with z | ⟨o, z⟩
            · exact ne_of_none z l5
            · exact ne_of_none z l5) id⟩
          exact turn_end hcs hm (hstep.trans hyes) (B7.same (Same.new hq)) upd_same (ne_of_none B7.told hq).symm hd hlen fun _ _ z => z
      · refine ⟨_, rfl, rfl, _, rfl, eqF (by omega) ?_⟩
        cases st with
        | none =>
          have hv : v = .non := B5.shop
          subst hv
          refine ⟨_, rfl, rfl, _, rfl, isN ⟨line1, fun q hq => ?_⟩⟩
          exact turn_end hcs hm (hstep.trans hstep0) (B5.same (Same.new hq)) upd_same (ne_of_none B5.told hq).symm hd hlen fun _ _ z => z
        | some s =>
          obtain ⟨p, l, as, hv, S4, N, hn, hl⟩ := B4.shop
          obtain ⟨g1, g2, g3⟩ := S4.nline B4.line
          have S5 : ShopAt D H5 p s l as := S4.keep fun b o e z => b5 b o e fun q => by
            rcases z with z | z | z
            · exact g1 (q.symm.trans z)
            · exact g2 (q.symm.trans z)
            · exact g3 (by rw [← q]; exact z)
          subst hv
          obtain ⟨s', hs'⟩ := step_some s x
          have hd1 : did s x = s' := by unfold did; rw [hs']; rfl
          have hst : Mu41.step (some s) x = (some (did s x), ans s x) := by
            rw [hd1, ← hs']
            rfl
          refine ⟨_, rfl, rfl, _, rfl, notN ?_⟩
          refine ⟨_, rfl, _, rfl, _, rfl, _, rfl, p, (kn : Int), na, ra, x, s, l, as, rfl, S5, N, B5.tab, hh, by omega, fun r u h => (ne_of_none S4.lst (hnew r u h)).symm, fun H6 as' q d hq hlq => ?_⟩
          have B6 := B5.did S5 rfl hn hl (by rw [hd1]; exact MS.nice_step N hs') d
          exact turn_end hcs hm (hstep.trans hst) B6 hlq (ne_of_none B5.told hq).symm hd hlen fun _ _ z => z
end
end DV
end
noncomputable section
set_option Elab.async false
set_option linter.all false
set_option maxRecDepth 100000
set_option maxHeartbeats 4000000
namespace DV
open PySem PySem.Spec PyProof.Rows L2
theorem all_mk {K : PySem.W.Frag} {h : Heap} {mg : Str → Option Value} (X : K.In h) (G : h.Ns mainGlobals mg)
    {C_Frame : Addr}
    {C_Workshop : Addr}
    {C_Line : Addr}
    {f_may_be_wanted : Addr}
    {f_ranked_frames : Addr}
    {f_other_dips : Addr}
    {f_best_plan : Addr}
    {f_least_minutes : Addr}
    {f_wrong_minute : Addr}
    {f_wrong_frame : Addr}
    {f_judged : Addr}
    {f_longest_cooling : Addr}
    {f_Frame_init : Addr}
    {f_Frame_warm_minutes : Addr}
    {f_Frame_wax_held : Addr}
    {f_Frame_layers_left : Addr}
    {f_Workshop_init : Addr}
    {f_Workshop_standing_frame : Addr}
    {f_Workshop_add_frame : Addr}
    {f_Workshop_buy_wax : Addr}
    {f_Workshop_melt_layer : Addr}
    {f_Workshop_put_layer : Addr}
    {f_Workshop_dip : Addr}
    {f_Workshop_wait : Addr}
    {f_Workshop_sell : Addr}
    {f_Workshop_look : Addr}
    {f_Workshop_rest : Addr}
    {f_Workshop_follow : Addr}
    {f_Workshop_book : Addr}
    {f_Line_init : Addr}
    {f_Line_at_end : Addr}
    {f_Line_take_number : Addr}
    {f_Line_take_numbers : Addr}
    {f_Line_take_rows : Addr}
    {f_may_begin : Addr}
    {f_answer_to_wanted : Addr}
    {f_answer_in : Addr}
    {f_answers : Addr}
    {t0 : Tok}
    {t1 : Tok}
    {t2 : Tok}
    {t3 : Tok}
    {t4 : Tok}
    {t5 : Tok}
    {a_HANDED_OVER : Addr} {od_HANDED_OVER : Option Addr} {n_HANDED_OVER : Nat} {sl_HANDED_OVER : Array (Option Value)} {t6_0 t6_1 t6_2 t6_3 t6_4 t6_5 t6_6 t6_7 t6_8 t6_9 t6_10 t6_11 t6_12 t6_13 : Tok}
    {t7 : Tok}
    {t8 : Tok}
    {t9 : Tok}
    {t10 : Tok}
    {t11 : Tok}
    {t12 : Tok}
    {t13 : Tok}
    {t14 : Tok}
    {t15 : Tok}
    {t16 : Tok}
    {t17 : Tok}
    {t18 : Tok}
    {t19 : Tok}
    {t20 : Tok}
    {t21 : Tok}
    {t22 : Tok}
    {t23 : Tok}
    {a_ROWS_BEHIND : Addr} {od_ROWS_BEHIND : Option Addr} {n_ROWS_BEHIND : Nat} {sl_ROWS_BEHIND : Array (Option Value)} {t24_0 t24_1 t24_2 t24_3 t24_4 t24_5 t24_6 t24_7 t24_8 t24_9 t24_10 t24_11 t24_12 t24_13 : Tok}
    {t25 : Tok}
    {t26 : Tok}
    {t27 : Tok}
    {t28 : Tok}
    {t29 : Tok}
    {t30 : Tok}
    {t31 : Tok}
    {t32 : Tok}
    {t33 : Tok}
    {od_may_be_wanted an_may_be_wanted : Option Addr} {sl_may_be_wanted : Array (Option Value)} {oc_may_be_wanted kV_may_be_wanted dc_may_be_wanted pm_may_be_wanted cd_may_be_wanted ct_may_be_wanted : Value}
    {od_ranked_frames an_ranked_frames : Option Addr} {sl_ranked_frames : Array (Option Value)} {oc_ranked_frames kV_ranked_frames dc_ranked_frames pm_ranked_frames cd_ranked_frames ct_ranked_frames : Value}
    {od_other_dips an_other_dips : Option Addr} {sl_other_dips : Array (Option Value)} {oc_other_dips kV_other_dips dc_other_dips pm_other_dips cd_other_dips ct_other_dips : Value}
    {od_best_plan an_best_plan : Option Addr} {sl_best_plan : Array (Option Value)} {oc_best_plan kV_best_plan dc_best_plan pm_best_plan cd_best_plan ct_best_plan : Value}
    {od_least_minutes an_least_minutes : Option Addr} {sl_least_minutes : Array (Option Value)} {oc_least_minutes kV_least_minutes dc_least_minutes pm_least_minutes cd_least_minutes ct_least_minutes : Value}
    {od_wrong_minute an_wrong_minute : Option Addr} {sl_wrong_minute : Array (Option Value)} {oc_wrong_minute kV_wrong_minute dc_wrong_minute pm_wrong_minute cd_wrong_minute ct_wrong_minute : Value}
    {od_wrong_frame an_wrong_frame : Option Addr} {sl_wrong_frame : Array (Option Value)} {oc_wrong_frame kV_wrong_frame dc_wrong_frame pm_wrong_frame cd_wrong_frame ct_wrong_frame : Value}
    {od_judged an_judged : Option Addr} {sl_judged : Array (Option Value)} {oc_judged kV_judged dc_judged pm_judged cd_judged ct_judged : Value}
    {od_longest_cooling an_longest_cooling : Option Addr} {sl_longest_cooling : Array (Option Value)} {oc_longest_cooling kV_longest_cooling dc_longest_cooling pm_longest_cooling cd_longest_cooling ct_longest_cooling : Value}
    {od_Frame_init an_Frame_init : Option Addr} {sl_Frame_init : Array (Option Value)} {oc_Frame_init kV_Frame_init dc_Frame_init pm_Frame_init cd_Frame_init ct_Frame_init : Value}
    {od_Frame_warm_minutes an_Frame_warm_minutes : Option Addr} {sl_Frame_warm_minutes : Array (Option Value)} {oc_Frame_warm_minutes kV_Frame_warm_minutes dc_Frame_warm_minutes pm_Frame_warm_minutes cd_Frame_warm_minutes ct_Frame_warm_minutes : Value}
    {od_Frame_wax_held an_Frame_wax_held : Option Addr} {sl_Frame_wax_held : Array (Option Value)} {oc_Frame_wax_held kV_Frame_wax_held dc_Frame_wax_held pm_Frame_wax_held cd_Frame_wax_held ct_Frame_wax_held : Value}
    {od_Frame_layers_left an_Frame_layers_left : Option Addr} {sl_Frame_layers_left : Array (Option Value)} {oc_Frame_layers_left kV_Frame_layers_left dc_Frame_layers_left pm_Frame_layers_left cd_Frame_layers_left ct_Frame_layers_left : Value}
    {od_Workshop_init an_Workshop_init : Option Addr} {sl_Workshop_init : Array (Option Value)} {oc_Workshop_init kV_Workshop_init dc_Workshop_init pm_Workshop_init cd_Workshop_init ct_Workshop_init : Value}
    {od_Workshop_standing_frame an_Workshop_standing_frame : Option Addr} {sl_Workshop_standing_frame : Array (Option Value)} {oc_Workshop_standing_frame kV_Workshop_standing_frame dc_Workshop_standing_frame pm_Workshop_standing_frame cd_Workshop_standing_frame ct_Workshop_standing_frame : Value}
    {od_Workshop_add_frame an_Workshop_add_frame : Option Addr} {sl_Workshop_add_frame : Array (Option Value)} {oc_Workshop_add_frame kV_Workshop_add_frame dc_Workshop_add_frame pm_Workshop_add_frame cd_Workshop_add_frame ct_Workshop_add_frame : Value}
    {od_Workshop_buy_wax an_Workshop_buy_wax : Option Addr} {sl_Workshop_buy_wax : Array (Option Value)} {oc_Workshop_buy_wax kV_Workshop_buy_wax dc_Workshop_buy_wax pm_Workshop_buy_wax cd_Workshop_buy_wax ct_Workshop_buy_wax : Value}
    {od_Workshop_melt_layer an_Workshop_melt_layer : Option Addr} {sl_Workshop_melt_layer : Array (Option Value)} {oc_Workshop_melt_layer kV_Workshop_melt_layer dc_Workshop_melt_layer pm_Workshop_melt_layer cd_Workshop_melt_layer ct_Workshop_melt_layer : Value}
    {od_Workshop_put_layer an_Workshop_put_layer : Option Addr} {sl_Workshop_put_layer : Array (Option Value)} {oc_Workshop_put_layer kV_Workshop_put_layer dc_Workshop_put_layer pm_Workshop_put_layer cd_Workshop_put_layer ct_Workshop_put_layer : Value}
    {od_Workshop_dip an_Workshop_dip : Option Addr} {sl_Workshop_dip : Array (Option Value)} {oc_Workshop_dip kV_Workshop_dip dc_Workshop_dip pm_Workshop_dip cd_Workshop_dip ct_Workshop_dip : Value}
    {od_Workshop_wait an_Workshop_wait : Option Addr} {sl_Workshop_wait : Array (Option Value)} {oc_Workshop_wait kV_Workshop_wait dc_Workshop_wait pm_Workshop_wait cd_Workshop_wait ct_Workshop_wait : Value}
    {od_Workshop_sell an_Workshop_sell : Option Addr} {sl_Workshop_sell : Array (Option Value)} {oc_Workshop_sell kV_Workshop_sell dc_Workshop_sell pm_Workshop_sell cd_Workshop_sell ct_Workshop_sell : Value}
    {od_Workshop_look an_Workshop_look : Option Addr} {sl_Workshop_look : Array (Option Value)} {oc_Workshop_look kV_Workshop_look dc_Workshop_look pm_Workshop_look cd_Workshop_look ct_Workshop_look : Value}
    {od_Workshop_rest an_Workshop_rest : Option Addr} {sl_Workshop_rest : Array (Option Value)} {oc_Workshop_rest kV_Workshop_rest dc_Workshop_rest pm_Workshop_rest cd_Workshop_rest ct_Workshop_rest : Value}
    {od_Workshop_follow an_Workshop_follow : Option Addr} {sl_Workshop_follow : Array (Option Value)} {oc_Workshop_follow kV_Workshop_follow dc_Workshop_follow pm_Workshop_follow cd_Workshop_follow ct_Workshop_follow : Value}
    {od_Workshop_book an_Workshop_book : Option Addr} {sl_Workshop_book : Array (Option Value)} {oc_Workshop_book kV_Workshop_book dc_Workshop_book pm_Workshop_book cd_Workshop_book ct_Workshop_book : Value}
    {od_Line_init an_Line_init : Option Addr} {sl_Line_init : Array (Option Value)} {oc_Line_init kV_Line_init dc_Line_init pm_Line_init cd_Line_init ct_Line_init : Value}
    {od_Line_at_end an_Line_at_end : Option Addr} {sl_Line_at_end : Array (Option Value)} {oc_Line_at_end kV_Line_at_end dc_Line_at_end pm_Line_at_end cd_Line_at_end ct_Line_at_end : Value}
    {od_Line_take_number an_Line_take_number : Option Addr} {sl_Line_take_number : Array (Option Value)} {oc_Line_take_number kV_Line_take_number dc_Line_take_number pm_Line_take_number cd_Line_take_number ct_Line_take_number : Value}
    {od_Line_take_numbers an_Line_take_numbers : Option Addr} {sl_Line_take_numbers : Array (Option Value)} {oc_Line_take_numbers kV_Line_take_numbers dc_Line_take_numbers pm_Line_take_numbers cd_Line_take_numbers ct_Line_take_numbers : Value}
    {od_Line_take_rows an_Line_take_rows : Option Addr} {sl_Line_take_rows : Array (Option Value)} {oc_Line_take_rows kV_Line_take_rows dc_Line_take_rows pm_Line_take_rows cd_Line_take_rows ct_Line_take_rows : Value}
    {od_may_begin an_may_begin : Option Addr} {sl_may_begin : Array (Option Value)} {oc_may_begin kV_may_begin dc_may_begin pm_may_begin cd_may_begin ct_may_begin : Value}
    {od_answer_to_wanted an_answer_to_wanted : Option Addr} {sl_answer_to_wanted : Array (Option Value)} {oc_answer_to_wanted kV_answer_to_wanted dc_answer_to_wanted pm_answer_to_wanted cd_answer_to_wanted ct_answer_to_wanted : Value}
    {od_answer_in an_answer_in : Option Addr} {sl_answer_in : Array (Option Value)} {oc_answer_in kV_answer_in dc_answer_in pm_answer_in cd_answer_in ct_answer_in : Value}
    {od_answers an_answers : Option Addr} {sl_answers : Array (Option Value)} {oc_answers kV_answers dc_answers pm_answers cd_answers ct_answers : Value}
    (g_BEGIN : PySem.W.nsIn K mainGlobals "BEGIN" = some (some (.int 0 t0)))
    (g_COOLING : PySem.W.nsIn K mainGlobals "COOLING" = some (some (.int 10 t1)))
    (g_DIP : PySem.W.nsIn K mainGlobals "DIP" = some (some (.int 3 t2)))
    (g_FOLLOW : PySem.W.nsIn K mainGlobals "FOLLOW" = some (some (.int 12 t3)))
    (g_FRAME : PySem.W.nsIn K mainGlobals "FRAME" = some (some (.int 1 t4)))
    (g_FULL_FRAME : PySem.W.nsIn K mainGlobals "FULL_FRAME" = some (some (.int (-7) t5)))
    (g_HANDED_OVER : PySem.W.nsIn K mainGlobals "HANDED_OVER" = some (some (.ref a_HANDED_OVER)))
    (t_HANDED_OVER : K.lookup a_HANDED_OVER = some ⟨.type "tuple", od_HANDED_OVER, .seq #[.int 2 t6_0, .int 1 t6_1, .int 1 t6_2, .int 1 t6_3, .int 1 t6_4, .int 1 t6_5, .int 1 t6_6, .int 0 t6_7, .int 0 t6_8, .int 0 t6_9, .int 1 t6_10, .int 0 t6_11, .int 0 t6_12, .int 0 t6_13] n_HANDED_OVER, sl_HANDED_OVER⟩)
    (g_JUDGE : PySem.W.nsIn K mainGlobals "JUDGE" = some (some (.int 9 t7)))
    (g_LAST_MINUTE : PySem.W.nsIn K mainGlobals "LAST_MINUTE" = some (some (.int 100000 t8)))
    (g_LEAST : PySem.W.nsIn K mainGlobals "LEAST" = some (some (.int 7 t9)))
    (g_LONGEST_WAIT : PySem.W.nsIn K mainGlobals "LONGEST_WAIT" = some (some (.int 100 t10)))
    (g_LOOK : PySem.W.nsIn K mainGlobals "LOOK" = some (some (.int 6 t11)))
    (g_MOST_BOUGHT : PySem.W.nsIn K mainGlobals "MOST_BOUGHT" = some (some (.int 1000 t12)))
    (g_MOST_COOLS : PySem.W.nsIn K mainGlobals "MOST_COOLS" = some (some (.int 5 t13)))
    (g_MOST_FRAMES : PySem.W.nsIn K mainGlobals "MOST_FRAMES" = some (some (.int 6 t14)))
    (g_MOST_LAYERS : PySem.W.nsIn K mainGlobals "MOST_LAYERS" = some (some (.int 6 t15)))
    (g_NOTHING : PySem.W.nsIn K mainGlobals "NOTHING" = some (some (.int 0 t16)))
    (g_NO_COOLING : PySem.W.nsIn K mainGlobals "NO_COOLING" = some (some (.int (-6) t17)))
    (g_NO_PLACE : PySem.W.nsIn K mainGlobals "NO_PLACE" = some (some (.int (-5) t18)))
    (g_NO_SUCH_FRAME : PySem.W.nsIn K mainGlobals "NO_SUCH_FRAME" = some (some (.int (-2) t19)))
    (g_NO_WORKSHOP : PySem.W.nsIn K mainGlobals "NO_WORKSHOP" = some (some (.int (-9) t20)))
    (g_OUT_OF_RANGE : PySem.W.nsIn K mainGlobals "OUT_OF_RANGE" = some (some (.int (-1) t21)))
    (g_PLAN : PySem.W.nsIn K mainGlobals "PLAN" = some (some (.int 8 t22)))
    (g_REST : PySem.W.nsIn K mainGlobals "REST" = some (some (.int 11 t23)))
    (g_ROWS_BEHIND : PySem.W.nsIn K mainGlobals "ROWS_BEHIND" = some (some (.ref a_ROWS_BEHIND)))
    (t_ROWS_BEHIND : K.lookup a_ROWS_BEHIND = some ⟨.type "tuple", od_ROWS_BEHIND, .seq #[.int 0 t24_0, .int 0 t24_1, .int 0 t24_2, .int 0 t24_3, .int 0 t24_4, .int 0 t24_5, .int 0 t24_6, .int 1 t24_7, .int 1 t24_8, .int 2 t24_9, .int 1 t24_10, .int 0 t24_11, .int 1 t24_12, .int 0 t24_13] n_ROWS_BEHIND, sl_ROWS_BEHIND⟩)
    (g_SELL : PySem.W.nsIn K mainGlobals "SELL" = some (some (.int 5 t25)))
    (g_STILL_WARM : PySem.W.nsIn K mainGlobals "STILL_WARM" = some (some (.int (-3) t26)))
    (g_TOO_FEW_LAYERS : PySem.W.nsIn K mainGlobals "TOO_FEW_LAYERS" = some (some (.int (-4) t27)))
    (g_TOO_LATE : PySem.W.nsIn K mainGlobals "TOO_LATE" = some (some (.int (-8) t28)))
    (g_TOO_LITTLE_WAX : PySem.W.nsIn K mainGlobals "TOO_LITTLE_WAX" = some (some (.int (-6) t29)))
    (g_WAIT : PySem.W.nsIn K mainGlobals "WAIT" = some (some (.int 4 t30)))
    (g_WAX : PySem.W.nsIn K mainGlobals "WAX" = some (some (.int 2 t31)))
    (g_WRONG_FRAME : PySem.W.nsIn K mainGlobals "WRONG_FRAME" = some (some (.int (-4) t32)))
    (g_WRONG_MINUTE : PySem.W.nsIn K mainGlobals "WRONG_MINUTE" = some (some (.int (-3) t33)))
    (n_enumerate : PySem.W.nsIn K mainGlobals "enumerate" = some none)
    (n_len : PySem.W.nsIn K mainGlobals "len" = some none)
    (n_list : PySem.W.nsIn K mainGlobals "list" = some none)
    (n_max : PySem.W.nsIn K mainGlobals "max" = some none)
    (n_range : PySem.W.nsIn K mainGlobals "range" = some none)
    (n_sorted : PySem.W.nsIn K mainGlobals "sorted" = some none)
    (n_sum : PySem.W.nsIn K mainGlobals "sum" = some none)
    (c_Frame : PySem.W.nsIn K mainGlobals "Frame" = some (some (.ref C_Frame)))
    (pg_Frame : PySem.W.plainGet K C_Frame Str.empty = true)
    (hd_Frame : PySem.W.hasDictIn K C_Frame = true)
    (po_Frame : PySem.W.plainOver K C_Frame = true)
    (sa_Frame : PySem.W.findIn K (.ref C_Frame) "__setattr__" = some (some (.builtin "object.__setattr__")))
    (mk_Frame : PySem.W.makesIn K C_Frame = true)
    (kc_Frame : PySem.W.keepIn K (.ref C_Frame) = true)
    (na_Frame_wanted : PySem.W.findIn K (.ref C_Frame) "wanted" = some none)
    (na_Frame_layers : PySem.W.findIn K (.ref C_Frame) "layers" = some none)
    (na_Frame_cool_from : PySem.W.findIn K (.ref C_Frame) "cool_from" = some none)
    (na_Frame_sold : PySem.W.findIn K (.ref C_Frame) "sold" = some none)
    (c_Workshop : PySem.W.nsIn K mainGlobals "Workshop" = some (some (.ref C_Workshop)))
    (pg_Workshop : PySem.W.plainGet K C_Workshop Str.empty = true)
    (hd_Workshop : PySem.W.hasDictIn K C_Workshop = true)
    (po_Workshop : PySem.W.plainOver K C_Workshop = true)
    (sa_Workshop : PySem.W.findIn K (.ref C_Workshop) "__setattr__" = some (some (.builtin "object.__setattr__")))
    (mk_Workshop : PySem.W.makesIn K C_Workshop = true)
    (kc_Workshop : PySem.W.keepIn K (.ref C_Workshop) = true)
    (na_Workshop_cools : PySem.W.findIn K (.ref C_Workshop) "cools" = some none)
    (na_Workshop_minute : PySem.W.findIn K (.ref C_Workshop) "minute" = some none)
    (na_Workshop_vat : PySem.W.findIn K (.ref C_Workshop) "vat" = some none)
    (na_Workshop_bought : PySem.W.findIn K (.ref C_Workshop) "bought" = some none)
    (na_Workshop_frames : PySem.W.findIn K (.ref C_Workshop) "frames" = some none)
    (c_Line : PySem.W.nsIn K mainGlobals "Line" = some (some (.ref C_Line)))
    (pg_Line : PySem.W.plainGet K C_Line Str.empty = true)
    (hd_Line : PySem.W.hasDictIn K C_Line = true)
    (po_Line : PySem.W.plainOver K C_Line = true)
    (sa_Line : PySem.W.findIn K (.ref C_Line) "__setattr__" = some (some (.builtin "object.__setattr__")))
    (mk_Line : PySem.W.makesIn K C_Line = true)
    (kc_Line : PySem.W.keepIn K (.ref C_Line) = true)
    (na_Line_calls : PySem.W.findIn K (.ref C_Line) "calls" = some none)
    (na_Line_place : PySem.W.findIn K (.ref C_Line) "place" = some none)
    (at_may_be_wanted : PySem.W.nsIn K mainGlobals "may_be_wanted" = some (some (.ref f_may_be_wanted)))
    (lk_may_be_wanted : K.lookup f_may_be_wanted = some ⟨oc_may_be_wanted, od_may_be_wanted, .func (PySem.W.fnOf "may_be_wanted" "may_be_wanted" (defArgs s_may_be_wanted) (defBody s_may_be_wanted) (defScope s_may_be_wanted) .none kV_may_be_wanted dc_may_be_wanted pm_may_be_wanted an_may_be_wanted cd_may_be_wanted ct_may_be_wanted), sl_may_be_wanted⟩)
    (co_may_be_wanted : PySem.W.codeIn K cd_may_be_wanted "may_be_wanted" = true)
    (kp_may_be_wanted : PySem.W.keepIn K (.ref f_may_be_wanted) = true)
    (at_ranked_frames : PySem.W.nsIn K mainGlobals "ranked_frames" = some (some (.ref f_ranked_frames)))
    (lk_ranked_frames : K.lookup f_ranked_frames = some ⟨oc_ranked_frames, od_ranked_frames, .func (PySem.W.fnOf "ranked_frames" "ranked_frames" (defArgs s_ranked_frames) (defBody s_ranked_frames) (defScope s_ranked_frames) .none kV_ranked_frames dc_ranked_frames pm_ranked_frames an_ranked_frames cd_ranked_frames ct_ranked_frames), sl_ranked_frames⟩)
    (co_ranked_frames : PySem.W.codeIn K cd_ranked_frames "ranked_frames" = true)
    (kp_ranked_frames : PySem.W.keepIn K (.ref f_ranked_frames) = true)
    (at_other_dips : PySem.W.nsIn K mainGlobals "other_dips" = some (some (.ref f_other_dips)))
    (lk_other_dips : K.lookup f_other_dips = some ⟨oc_other_dips, od_other_dips, .func (PySem.W.fnOf "other_dips" "other_dips" (defArgs s_other_dips) (defBody s_other_dips) (defScope s_other_dips) .none kV_other_dips dc_other_dips pm_other_dips an_other_dips cd_other_dips ct_other_dips), sl_other_dips⟩)
    (co_other_dips : PySem.W.codeIn K cd_other_dips "other_dips" = true)
    (kp_other_dips : PySem.W.keepIn K (.ref f_other_dips) = true)
    (at_best_plan : PySem.W.nsIn K mainGlobals "best_plan" = some (some (.ref f_best_plan)))
    (lk_best_plan : K.lookup f_best_plan = some ⟨oc_best_plan, od_best_plan, .func (PySem.W.fnOf "best_plan" "best_plan" (defArgs s_best_plan) (defBody s_best_plan) (defScope s_best_plan) .none kV_best_plan dc_best_plan pm_best_plan an_best_plan cd_best_plan ct_best_plan), sl_best_plan⟩)
    (co_best_plan : PySem.W.codeIn K cd_best_plan "best_plan" = true)
    (kp_best_plan : PySem.W.keepIn K (.ref f_best_plan) = true)
    (at_least_minutes : PySem.W.nsIn K mainGlobals "least_minutes" = some (some (.ref f_least_minutes)))
    (lk_least_minutes : K.lookup f_least_minutes = some ⟨oc_least_minutes, od_least_minutes, .func (PySem.W.fnOf "least_minutes" "least_minutes" (defArgs s_least_minutes) (defBody s_least_minutes) (defScope s_least_minutes) .none kV_least_minutes dc_least_minutes pm_least_minutes an_least_minutes cd_least_minutes ct_least_minutes), sl_least_minutes⟩)
    (co_least_minutes : PySem.W.codeIn K cd_least_minutes "least_minutes" = true)
    (kp_least_minutes : PySem.W.keepIn K (.ref f_least_minutes) = true)
    (at_wrong_minute : PySem.W.nsIn K mainGlobals "wrong_minute" = some (some (.ref f_wrong_minute)))
    (lk_wrong_minute : K.lookup f_wrong_minute = some ⟨oc_wrong_minute, od_wrong_minute, .func (PySem.W.fnOf "wrong_minute" "wrong_minute" (defArgs s_wrong_minute) (defBody s_wrong_minute) (defScope s_wrong_minute) .none kV_wrong_minute dc_wrong_minute pm_wrong_minute an_wrong_minute cd_wrong_minute ct_wrong_minute), sl_wrong_minute⟩)
    (co_wrong_minute : PySem.W.codeIn K cd_wrong_minute "wrong_minute" = true)
    (kp_wrong_minute : PySem.W.keepIn K (.ref f_wrong_minute) = true)
    (at_wrong_frame : PySem.W.nsIn K mainGlobals "wrong_frame" = some (some (.ref f_wrong_frame)))
    (lk_wrong_frame : K.lookup f_wrong_frame = some ⟨oc_wrong_frame, od_wrong_frame, .func (PySem.W.fnOf "wrong_frame" "wrong_frame" (defArgs s_wrong_frame) (defBody s_wrong_frame) (defScope s_wrong_frame) .none kV_wrong_frame dc_wrong_frame pm_wrong_frame an_wrong_frame cd_wrong_frame ct_wrong_frame), sl_wrong_frame⟩)
    (co_wrong_frame : PySem.W.codeIn K cd_wrong_frame "wrong_frame" = true)
    (kp_wrong_frame : PySem.W.keepIn K (.ref f_wrong_frame) = true)
    (at_judged : PySem.W.nsIn K mainGlobals "judged" = some (some (.ref f_judged)))
    (lk_judged : K.lookup f_judged = some ⟨oc_judged, od_judged, .func (PySem.W.fnOf "judged" "judged" (defArgs s_judged) (defBody s_judged) (defScope s_judged) .none kV_judged dc_judged pm_judged an_judged cd_judged ct_judged), sl_judged⟩)
    (co_judged : PySem.W.codeIn K cd_judged "judged" = true)
    (kp_judged : PySem.W.keepIn K (.ref f_judged) = true)
    (at_longest_cooling : PySem.W.nsIn K mainGlobals "longest_cooling" = some (some (.ref f_longest_cooling)))
    (lk_longest_cooling : K.lookup f_longest_cooling = some ⟨oc_longest_cooling, od_longest_cooling, .func (PySem.W.fnOf "longest_cooling" "longest_cooling" (defArgs s_longest_cooling) (defBody s_longest_cooling) (defScope s_longest_cooling) .none kV_longest_cooling dc_longest_cooling pm_longest_cooling an_longest_cooling cd_longest_cooling ct_longest_cooling), sl_longest_cooling⟩)
    (co_longest_cooling : PySem.W.codeIn K cd_longest_cooling "longest_cooling" = true)
    (kp_longest_cooling : PySem.W.keepIn K (.ref f_longest_cooling) = true)
    (at_Frame_init : PySem.W.findIn K (.ref C_Frame) "__init__" = some (some (.ref f_Frame_init)))
    (fn_Frame_init : PySem.W.isFn K (.ref f_Frame_init) = true)
    (lk_Frame_init : K.lookup f_Frame_init = some ⟨oc_Frame_init, od_Frame_init, .func (PySem.W.fnOf "__init__" "Frame.__init__" (defArgs s_Frame_init) (defBody s_Frame_init) (defScope s_Frame_init) .none kV_Frame_init dc_Frame_init pm_Frame_init an_Frame_init cd_Frame_init ct_Frame_init), sl_Frame_init⟩)
    (co_Frame_init : PySem.W.codeIn K cd_Frame_init "Frame.__init__" = true)
    (kp_Frame_init : PySem.W.keepIn K (.ref f_Frame_init) = true)
    (at_Frame_warm_minutes : PySem.W.findIn K (.ref C_Frame) "warm_minutes" = some (some (.ref f_Frame_warm_minutes)))
    (fn_Frame_warm_minutes : PySem.W.isFn K (.ref f_Frame_warm_minutes) = true)
    (lk_Frame_warm_minutes : K.lookup f_Frame_warm_minutes = some ⟨oc_Frame_warm_minutes, od_Frame_warm_minutes, .func (PySem.W.fnOf "warm_minutes" "Frame.warm_minutes" (defArgs s_Frame_warm_minutes) (defBody s_Frame_warm_minutes) (defScope s_Frame_warm_minutes) .none kV_Frame_warm_minutes dc_Frame_warm_minutes pm_Frame_warm_minutes an_Frame_warm_minutes cd_Frame_warm_minutes ct_Frame_warm_minutes), sl_Frame_warm_minutes⟩)
    (co_Frame_warm_minutes : PySem.W.codeIn K cd_Frame_warm_minutes "Frame.warm_minutes" = true)
    (kp_Frame_warm_minutes : PySem.W.keepIn K (.ref f_Frame_warm_minutes) = true)
    (at_Frame_wax_held : PySem.W.findIn K (.ref C_Frame) "wax_held" = some (some (.ref f_Frame_wax_held)))
    (fn_Frame_wax_held : PySem.W.isFn K (.ref f_Frame_wax_held) = true)
    (lk_Frame_wax_held : K.lookup f_Frame_wax_held = some ⟨oc_Frame_wax_held, od_Frame_wax_held, .func (PySem.W.fnOf "wax_held" "Frame.wax_held" (defArgs s_Frame_wax_held) (defBody s_Frame_wax_held) (defScope s_Frame_wax_held) .none kV_Frame_wax_held dc_Frame_wax_held pm_Frame_wax_held an_Frame_wax_held cd_Frame_wax_held ct_Frame_wax_held), sl_Frame_wax_held⟩)
    (co_Frame_wax_held : PySem.W.codeIn K cd_Frame_wax_held "Frame.wax_held" = true)
    (kp_Frame_wax_held : PySem.W.keepIn K (.ref f_Frame_wax_held) = true)
    (at_Frame_layers_left : PySem.W.findIn K (.ref C_Frame) "layers_left" = some (some (.ref f_Frame_layers_left)))
    (fn_Frame_layers_left : PySem.W.isFn K (.ref f_Frame_layers_left) = true)
    (lk_Frame_layers_left : K.lookup f_Frame_layers_left = some ⟨oc_Frame_layers_left, od_Frame_layers_left, .func (PySem.W.fnOf "layers_left" "Frame.layers_left" (defArgs s_Frame_layers_left) (defBody s_Frame_layers_left) (defScope s_Frame_layers_left) .none kV_Frame_layers_left dc_Frame_layers_left pm_Frame_layers_left an_Frame_layers_left cd_Frame_layers_left ct_Frame_layers_left), sl_Frame_layers_left⟩)
    (co_Frame_layers_left : PySem.W.codeIn K cd_Frame_layers_left "Frame.layers_left" = true)
    (kp_Frame_layers_left : PySem.W.keepIn K (.ref f_Frame_layers_left) = true)
    (at_Workshop_init : PySem.W.findIn K (.ref C_Workshop) "__init__" = some (some (.ref f_Workshop_init)))
    (fn_Workshop_init : PySem.W.isFn K (.ref f_Workshop_init) = true)
    (lk_Workshop_init : K.lookup f_Workshop_init = some ⟨oc_Workshop_init, od_Workshop_init, .func (PySem.W.fnOf "__init__" "Workshop.__init__" (defArgs s_Workshop_init) (defBody s_Workshop_init) (defScope s_Workshop_init) .none kV_Workshop_init dc_Workshop_init pm_Workshop_init an_Workshop_init cd_Workshop_init ct_Workshop_init), sl_Workshop_init⟩)
    (co_Workshop_init : PySem.W.codeIn K cd_Workshop_init "Workshop.__init__" = true)
    (kp_Workshop_init : PySem.W.keepIn K (.ref f_Workshop_init) = true)
    (at_Workshop_standing_frame : PySem.W.findIn K (.ref C_Workshop) "standing_frame" = some (some (.ref f_Workshop_standing_frame)))
    (fn_Workshop_standing_frame : PySem.W.isFn K (.ref f_Workshop_standing_frame) = true)
    (lk_Workshop_standing_frame : K.lookup f_Workshop_standing_frame = some ⟨oc_Workshop_standing_frame, od_Workshop_standing_frame, .func (PySem.W.fnOf "standing_frame" "Workshop.standing_frame" (defArgs s_Workshop_standing_frame) (defBody s_Workshop_standing_frame) (defScope s_Workshop_standing_frame) .none kV_Workshop_standing_frame dc_Workshop_standing_frame pm_Workshop_standing_frame an_Workshop_standing_frame cd_Workshop_standing_frame ct_Workshop_standing_frame), sl_Workshop_standing_frame⟩)
    (co_Workshop_standing_frame : PySem.W.codeIn K cd_Workshop_standing_frame "Workshop.standing_frame" = true)
    (kp_Workshop_standing_frame : PySem.W.keepIn K (.ref f_Workshop_standing_frame) = true)
    (at_Workshop_add_frame : PySem.W.findIn K (.ref C_Workshop) "add_frame" = some (some (.ref f_Workshop_add_frame)))
    (fn_Workshop_add_frame : PySem.W.isFn K (.ref f_Workshop_add_frame) = true)
    (lk_Workshop_add_frame : K.lookup f_Workshop_add_frame = some ⟨oc_Workshop_add_frame, od_Workshop_add_frame, .func (PySem.W.fnOf "add_frame" "Workshop.add_frame" (defArgs s_Workshop_add_frame) (defBody s_Workshop_add_frame) (defScope s_Workshop_add_frame) .none kV_Workshop_add_frame dc_Workshop_add_frame pm_Workshop_add_frame an_Workshop_add_frame cd_Workshop_add_frame ct_Workshop_add_frame), sl_Workshop_add_frame⟩)
    (co_Workshop_add_frame : PySem.W.codeIn K cd_Workshop_add_frame "Workshop.add_frame" = true)
    (kp_Workshop_add_frame : PySem.W.keepIn K (.ref f_Workshop_add_frame) = true)
    (at_Workshop_buy_wax : PySem.W.findIn K (.ref C_Workshop) "buy_wax" = some (some (.ref f_Workshop_buy_wax)))
    (fn_Workshop_buy_wax : PySem.W.isFn K (.ref f_Workshop_buy_wax) = true)
    (lk_Workshop_buy_wax : K.lookup f_Workshop_buy_wax = some ⟨oc_Workshop_buy_wax, od_Workshop_buy_wax, .func (PySem.W.fnOf "buy_wax" "Workshop.buy_wax" (defArgs s_Workshop_buy_wax) (defBody s_Workshop_buy_wax) (defScope s_Workshop_buy_wax) .none kV_Workshop_buy_wax dc_Workshop_buy_wax pm_Workshop_buy_wax an_Workshop_buy_wax cd_Workshop_buy_wax ct_Workshop_buy_wax), sl_Workshop_buy_wax⟩)
    (co_Workshop_buy_wax : PySem.W.codeIn K cd_Workshop_buy_wax "Workshop.buy_wax" = true)
    (kp_Workshop_buy_wax : PySem.W.keepIn K (.ref f_Workshop_buy_wax) = true)
    (at_Workshop_melt_layer : PySem.W.findIn K (.ref C_Workshop) "melt_layer" = some (some (.ref f_Workshop_melt_layer)))
    (fn_Workshop_melt_layer : PySem.W.isFn K (.ref f_Workshop_melt_layer) = true)
    (lk_Workshop_melt_layer : K.lookup f_Workshop_melt_layer = some ⟨oc_Workshop_melt_layer, od_Workshop_melt_layer, .func (PySem.W.fnOf "melt_layer" "Workshop.melt_layer" (defArgs s_Workshop_melt_layer) (defBody s_Workshop_melt_layer) (defScope s_Workshop_melt_layer) .none kV_Workshop_melt_layer dc_Workshop_melt_layer pm_Workshop_melt_layer an_Workshop_melt_layer cd_Workshop_melt_layer ct_Workshop_melt_layer), sl_Workshop_melt_layer⟩)
    (co_Workshop_melt_layer : PySem.W.codeIn K cd_Workshop_melt_layer "Workshop.melt_layer" = true)
    (kp_Workshop_melt_layer : PySem.W.keepIn K (.ref f_Workshop_melt_layer) = true)
    (at_Workshop_put_layer : PySem.W.findIn K (.ref C_Workshop) "put_layer" = some (some (.ref f_Workshop_put_layer)))
    (fn_Workshop_put_layer : PySem.W.isFn K (.ref f_Workshop_put_layer) = true)
    (lk_Workshop_put_layer : K.lookup f_Workshop_put_layer = some ⟨oc_Workshop_put_layer, od_Workshop_put_layer, .func (PySem.W.fnOf "put_layer" "Workshop.put_layer" (defArgs s_Workshop_put_layer) (defBody s_Workshop_put_layer) (defScope s_Workshop_put_layer) .none kV_Workshop_put_layer dc_Workshop_put_layer pm_Workshop_put_layer an_Workshop_put_layer cd_Workshop_put_layer ct_Workshop_put_layer), sl_Workshop_put_layer⟩)
    (co_Workshop_put_layer : PySem.W.codeIn K cd_Workshop_put_layer "Workshop.put_layer" = true)
    (kp_Workshop_put_layer : PySem.W.keepIn K (.ref f_Workshop_put_layer) = true)
    (at_Workshop_dip : PySem.W.findIn K (.ref C_Workshop) "dip" = some (some (.ref f_Workshop_dip)))
    (fn_Workshop_dip : PySem.W.isFn K (.ref f_Workshop_dip) = true)
    (lk_Workshop_dip : K.lookup f_Workshop_dip = some ⟨oc_Workshop_dip, od_Workshop_dip, .func (PySem.W.fnOf "dip" "Workshop.dip" (defArgs s_Workshop_dip) (defBody s_Workshop_dip) (defScope s_Workshop_dip) .none kV_Workshop_dip dc_Workshop_dip pm_Workshop_dip an_Workshop_dip cd_Workshop_dip ct_Workshop_dip), sl_Workshop_dip⟩)
    (co_Workshop_dip : PySem.W.codeIn K cd_Workshop_dip "Workshop.dip" = true)
    (kp_Workshop_dip : PySem.W.keepIn K (.ref f_Workshop_dip) = true)
    (at_Workshop_wait : PySem.W.findIn K (.ref C_Workshop) "wait" = some (some (.ref f_Workshop_wait)))
    (fn_Workshop_wait : PySem.W.isFn K (.ref f_Workshop_wait) = true)
    (lk_Workshop_wait : K.lookup f_Workshop_wait = some ⟨oc_Workshop_wait, od_Workshop_wait, .func (PySem.W.fnOf "wait" "Workshop.wait" (defArgs s_Workshop_wait) (defBody s_Workshop_wait) (defScope s_Workshop_wait) .none kV_Workshop_wait dc_Workshop_wait pm_Workshop_wait an_Workshop_wait cd_Workshop_wait ct_Workshop_wait), sl_Workshop_wait⟩)
    (co_Workshop_wait : PySem.W.codeIn K cd_Workshop_wait "Workshop.wait" = true)
    (kp_Workshop_wait : PySem.W.keepIn K (.ref f_Workshop_wait) = true)
    (at_Workshop_sell : PySem.W.findIn K (.ref C_Workshop) "sell" = some (some (.ref f_Workshop_sell)))
    (fn_Workshop_sell : PySem.W.isFn K (.ref f_Workshop_sell) = true)
    (lk_Workshop_sell : K.lookup f_Workshop_sell = some ⟨oc_Workshop_sell, od_Workshop_sell, .func (PySem.W.fnOf "sell" "Workshop.sell" (defArgs s_Workshop_sell) (defBody s_Workshop_sell) (defScope s_Workshop_sell) .none kV_Workshop_sell dc_Workshop_sell pm_Workshop_sell an_Workshop_sell cd_Workshop_sell ct_Workshop_sell), sl_Workshop_sell⟩)
    (co_Workshop_sell : PySem.W.codeIn K cd_Workshop_sell "Workshop.sell" = true)
    (kp_Workshop_sell : PySem.W.keepIn K (.ref f_Workshop_sell) = true)
    (at_Workshop_look : PySem.W.findIn K (.ref C_Workshop) "look" = some (some (.ref f_Workshop_look)))
    (fn_Workshop_look : PySem.W.isFn K (.ref f_Workshop_look) = true)
    (lk_Workshop_look : K.lookup f_Workshop_look = some ⟨oc_Workshop_look, od_Workshop_look, .func (PySem.W.fnOf "look" "Workshop.look" (defArgs s_Workshop_look) (defBody s_Workshop_look) (defScope s_Workshop_look) .none kV_Workshop_look dc_Workshop_look pm_Workshop_look an_Workshop_look cd_Workshop_look ct_Workshop_look), sl_Workshop_look⟩)
    (co_Workshop_look : PySem.W.codeIn K cd_Workshop_look "Workshop.look" = true)
    (kp_Workshop_look : PySem.W.keepIn K (.ref f_Workshop_look) = true)
    (at_Workshop_rest : PySem.W.findIn K (.ref C_Workshop) "rest" = some (some (.ref f_Workshop_rest)))
    (fn_Workshop_rest : PySem.W.isFn K (.ref f_Workshop_rest) = true)
    (lk_Workshop_rest : K.lookup f_Workshop_rest = some ⟨oc_Workshop_rest, od_Workshop_rest, .func (PySem.W.fnOf "rest" "Workshop.rest" (defArgs s_Workshop_rest) (defBody s_Workshop_rest) (defScope s_Workshop_rest) .none kV_Workshop_rest dc_Workshop_rest pm_Workshop_rest an_Workshop_rest cd_Workshop_rest ct_Workshop_rest), sl_Workshop_rest⟩)
    (co_Workshop_rest : PySem.W.codeIn K cd_Workshop_rest "Workshop.rest" = true)
    (kp_Workshop_rest : PySem.W.keepIn K (.ref f_Workshop_rest) = true)
    (at_Workshop_follow : PySem.W.findIn K (.ref C_Workshop) "follow" = some (some (.ref f_Workshop_follow)))
    (fn_Workshop_follow : PySem.W.isFn K (.ref f_Workshop_follow) = true)
    (lk_Workshop_follow : K.lookup f_Workshop_follow = some ⟨oc_Workshop_follow, od_Workshop_follow, .func (PySem.W.fnOf "follow" "Workshop.follow" (defArgs s_Workshop_follow) (defBody s_Workshop_follow) (defScope s_Workshop_follow) .none kV_Workshop_follow dc_Workshop_follow pm_Workshop_follow an_Workshop_follow cd_Workshop_follow ct_Workshop_follow), sl_Workshop_follow⟩)
    (co_Workshop_follow : PySem.W.codeIn K cd_Workshop_follow "Workshop.follow" = true)
    (kp_Workshop_follow : PySem.W.keepIn K (.ref f_Workshop_follow) = true)
    (at_Workshop_book : PySem.W.findIn K (.ref C_Workshop) "book" = some (some (.ref f_Workshop_book)))
    (fn_Workshop_book : PySem.W.isFn K (.ref f_Workshop_book) = true)
    (lk_Workshop_book : K.lookup f_Workshop_book = some ⟨oc_Workshop_book, od_Workshop_book, .func (PySem.W.fnOf "book" "Workshop.book" (defArgs s_Workshop_book) (defBody s_Workshop_book) (defScope s_Workshop_book) .none kV_Workshop_book dc_Workshop_book pm_Workshop_book an_Workshop_book cd_Workshop_book ct_Workshop_book), sl_Workshop_book⟩)
    (co_Workshop_book : PySem.W.codeIn K cd_Workshop_book "Workshop.book" = true)
    (kp_Workshop_book : PySem.W.keepIn K (.ref f_Workshop_book) = true)
    (at_Line_init : PySem.W.findIn K (.ref C_Line) "__init__" = some (some (.ref f_Line_init)))
    (fn_Line_init : PySem.W.isFn K (.ref f_Line_init) = true)
    (lk_Line_init : K.lookup f_Line_init = some ⟨oc_Line_init, od_Line_init, .func (PySem.W.fnOf "__init__" "Line.__init__" (defArgs s_Line_init) (defBody s_Line_init) (defScope s_Line_init) .none kV_Line_init dc_Line_init pm_Line_init an_Line_init cd_Line_init ct_Line_init), sl_Line_init⟩)
    (co_Line_init : PySem.W.codeIn K cd_Line_init "Line.__init__" = true)
    (kp_Line_init : PySem.W.keepIn K (.ref f_Line_init) = true)
    (at_Line_at_end : PySem.W.findIn K (.ref C_Line) "at_end" = some (some (.ref f_Line_at_end)))
    (fn_Line_at_end : PySem.W.isFn K (.ref f_Line_at_end) = true)
    (lk_Line_at_end : K.lookup f_Line_at_end = some ⟨oc_Line_at_end, od_Line_at_end, .func (PySem.W.fnOf "at_end" "Line.at_end" (defArgs s_Line_at_end) (defBody s_Line_at_end) (defScope s_Line_at_end) .none kV_Line_at_end dc_Line_at_end pm_Line_at_end an_Line_at_end cd_Line_at_end ct_Line_at_end), sl_Line_at_end⟩)
    (co_Line_at_end : PySem.W.codeIn K cd_Line_at_end "Line.at_end" = true)
    (kp_Line_at_end : PySem.W.keepIn K (.ref f_Line_at_end) = true)
    (at_Line_take_number : PySem.W.findIn K (.ref C_Line) "take_number" = some (some (.ref f_Line_take_number)))
    (fn_Line_take_number : PySem.W.isFn K (.ref f_Line_take_number) = true)
    (lk_Line_take_number : K.lookup f_Line_take_number = some ⟨oc_Line_take_number, od_Line_take_number, .func (PySem.W.fnOf "take_number" "Line.take_number" (defArgs s_Line_take_number) (defBody s_Line_take_number) (defScope s_Line_take_number) .none kV_Line_take_number dc_Line_take_number pm_Line_take_number an_Line_take_number cd_Line_take_number ct_Line_take_number), sl_Line_take_number⟩)
    (co_Line_take_number : PySem.W.codeIn K cd_Line_take_number "Line.take_number" = true)
    (kp_Line_take_number : PySem.W.keepIn K (.ref f_Line_take_number) = true)
    (at_Line_take_numbers : PySem.W.findIn K (.ref C_Line) "take_numbers" = some (some (.ref f_Line_take_numbers)))
    (fn_Line_take_numbers : PySem.W.isFn K (.ref f_Line_take_numbers) = true)
    (lk_Line_take_numbers : K.lookup f_Line_take_numbers = some ⟨oc_Line_take_numbers, od_Line_take_numbers, .func (PySem.W.fnOf "take_numbers" "Line.take_numbers" (defArgs s_Line_take_numbers) (defBody s_Line_take_numbers) (defScope s_Line_take_numbers) .none kV_Line_take_numbers dc_Line_take_numbers pm_Line_take_numbers an_Line_take_numbers cd_Line_take_numbers ct_Line_take_numbers), sl_Line_take_numbers⟩)
    (co_Line_take_numbers : PySem.W.codeIn K cd_Line_take_numbers "Line.take_numbers" = true)
    (kp_Line_take_numbers : PySem.W.keepIn K (.ref f_Line_take_numbers) = true)
    (at_Line_take_rows : PySem.W.findIn K (.ref C_Line) "take_rows" = some (some (.ref f_Line_take_rows)))
    (fn_Line_take_rows : PySem.W.isFn K (.ref f_Line_take_rows) = true)
    (lk_Line_take_rows : K.lookup f_Line_take_rows = some ⟨oc_Line_take_rows, od_Line_take_rows, .func (PySem.W.fnOf "take_rows" "Line.take_rows" (defArgs s_Line_take_rows) (defBody s_Line_take_rows) (defScope s_Line_take_rows) .none kV_Line_take_rows dc_Line_take_rows pm_Line_take_rows an_Line_take_rows cd_Line_take_rows ct_Line_take_rows), sl_Line_take_rows⟩)
    (co_Line_take_rows : PySem.W.codeIn K cd_Line_take_rows "Line.take_rows" = true)
    (kp_Line_take_rows : PySem.W.keepIn K (.ref f_Line_take_rows) = true)
    (at_may_begin : PySem.W.nsIn K mainGlobals "may_begin" = some (some (.ref f_may_begin)))
    (lk_may_begin : K.lookup f_may_begin = some ⟨oc_may_begin, od_may_begin, .func (PySem.W.fnOf "may_begin" "may_begin" (defArgs s_may_begin) (defBody s_may_begin) (defScope s_may_begin) .none kV_may_begin dc_may_begin pm_may_begin an_may_begin cd_may_begin ct_may_begin), sl_may_begin⟩)
    (co_may_begin : PySem.W.codeIn K cd_may_begin "may_begin" = true)
    (kp_may_begin : PySem.W.keepIn K (.ref f_may_begin) = true)
    (at_answer_to_wanted : PySem.W.nsIn K mainGlobals "answer_to_wanted" = some (some (.ref f_answer_to_wanted)))
    (lk_answer_to_wanted : K.lookup f_answer_to_wanted = some ⟨oc_answer_to_wanted, od_answer_to_wanted, .func (PySem.W.fnOf "answer_to_wanted" "answer_to_wanted" (defArgs s_answer_to_wanted) (defBody s_answer_to_wanted) (defScope s_answer_to_wanted) .none kV_answer_to_wanted dc_answer_to_wanted pm_answer_to_wanted an_answer_to_wanted cd_answer_to_wanted ct_answer_to_wanted), sl_answer_to_wanted⟩)
    (co_answer_to_wanted : PySem.W.codeIn K cd_answer_to_wanted "answer_to_wanted" = true)
    (kp_answer_to_wanted : PySem.W.keepIn K (.ref f_answer_to_wanted) = true)
    (at_answer_in : PySem.W.nsIn K mainGlobals "answer_in" = some (some (.ref f_answer_in)))
    (lk_answer_in : K.lookup f_answer_in = some ⟨oc_answer_in, od_answer_in, .func (PySem.W.fnOf "answer_in" "answer_in" (defArgs s_answer_in) (defBody s_answer_in) (defScope s_answer_in) .none kV_answer_in dc_answer_in pm_answer_in an_answer_in cd_answer_in ct_answer_in), sl_answer_in⟩)
    (co_answer_in : PySem.W.codeIn K cd_answer_in "answer_in" = true)
    (kp_answer_in : PySem.W.keepIn K (.ref f_answer_in) = true)
    (at_answers : PySem.W.nsIn K mainGlobals "answers" = some (some (.ref f_answers)))
    (lk_answers : K.lookup f_answers = some ⟨oc_answers, od_answers, .func (PySem.W.fnOf "answers" "answers" (defArgs s_answers) (defBody s_answers) (defScope s_answers) .none kV_answers dc_answers pm_answers an_answers cd_answers ct_answers), sl_answers⟩)
    (co_answers : PySem.W.codeIn K cd_answers "answers" = true)
    (kp_answers : PySem.W.keepIn K (.ref f_answers) = true) : ∃ D : Dat, Txt K mg D := by
  have F_may_be_wanted := fun_mk (st := s_may_be_wanted) lk_may_be_wanted co_may_be_wanted kp_may_be_wanted
  have b_may_be_wanted := F_may_be_wanted.binds (ps := ["wanted"]) fun _ _ _ _ _ _ us hl => (by obtain ⟨_, rfl⟩ := cas1 hl; rfl)
  have F_ranked_frames := fun_mk (st := s_ranked_frames) lk_ranked_frames co_ranked_frames kp_ranked_frames
  have b_ranked_frames := F_ranked_frames.binds (ps := ["wanted"]) fun _ _ _ _ _ _ us hl => (by obtain ⟨_, rfl⟩ := cas1 hl; rfl)
  have F_other_dips := fun_mk (st := s_other_dips) lk_other_dips co_other_dips kp_other_dips
  have b_other_dips := F_other_dips.binds (ps := ["wanted", "ranked", "most"]) fun _ _ _ _ _ _ us hl => (by obtain ⟨_, _, _, rfl⟩ := cas3 hl; rfl)
  have F_best_plan := fun_mk (st := s_best_plan) lk_best_plan co_best_plan kp_best_plan
  have b_best_plan := F_best_plan.binds (ps := ["cools", "wanted"]) fun _ _ _ _ _ _ us hl => (by obtain ⟨_, _, rfl⟩ := cas2 hl; rfl)
  have F_least_minutes := fun_mk (st := s_least_minutes) lk_least_minutes co_least_minutes kp_least_minutes
  have b_least_minutes := F_least_minutes.binds (ps := ["cools", "wanted"]) fun _ _ _ _ _ _ us hl => (by obtain ⟨_, _, rfl⟩ := cas2 hl; rfl)
  have F_wrong_minute := fun_mk (st := s_wrong_minute) lk_wrong_minute co_wrong_minute kp_wrong_minute
  have b_wrong_minute := F_wrong_minute.binds (ps := ["cools", "wanted", "plan"]) fun _ _ _ _ _ _ us hl => (by obtain ⟨_, _, _, rfl⟩ := cas3 hl; rfl)
  have F_wrong_frame := fun_mk (st := s_wrong_frame) lk_wrong_frame co_wrong_frame kp_wrong_frame
  have b_wrong_frame := F_wrong_frame.binds (ps := ["wanted", "plan"]) fun _ _ _ _ _ _ us hl => (by obtain ⟨_, _, rfl⟩ := cas2 hl; rfl)
  have F_judged := fun_mk (st := s_judged) lk_judged co_judged kp_judged
  have b_judged := F_judged.binds (ps := ["cools", "wanted", "plan"]) fun _ _ _ _ _ _ us hl => (by obtain ⟨_, _, _, rfl⟩ := cas3 hl; rfl)
  have F_longest_cooling := fun_mk (st := s_longest_cooling) lk_longest_cooling co_longest_cooling kp_longest_cooling
  have b_longest_cooling := F_longest_cooling.binds (ps := ["minutes", "wanted"]) fun _ _ _ _ _ _ us hl => (by obtain ⟨_, _, rfl⟩ := cas2 hl; rfl)
  have F_Frame_init := fun_mk (st := s_Frame_init) lk_Frame_init co_Frame_init kp_Frame_init
  have b_Frame_init := F_Frame_init.binds (ps := ["self", "wanted"]) fun _ _ _ _ _ _ us hl => (by obtain ⟨_, _, rfl⟩ := cas2 hl; rfl)
  have F_Frame_warm_minutes := fun_mk (st := s_Frame_warm_minutes) lk_Frame_warm_minutes co_Frame_warm_minutes kp_Frame_warm_minutes
  have b_Frame_warm_minutes := F_Frame_warm_minutes.binds (ps := ["self", "minute"]) fun _ _ _ _ _ _ us hl => (by obtain ⟨_, _, rfl⟩ := cas2 hl; rfl)
  have F_Frame_wax_held := fun_mk (st := s_Frame_wax_held) lk_Frame_wax_held co_Frame_wax_held kp_Frame_wax_held
  have b_Frame_wax_held := F_Frame_wax_held.binds (ps := ["self"]) fun _ _ _ _ _ _ us hl => (by obtain ⟨_, rfl⟩ := cas1 hl; rfl)
  have F_Frame_layers_left := fun_mk (st := s_Frame_layers_left) lk_Frame_layers_left co_Frame_layers_left kp_Frame_layers_left
  have b_Frame_layers_left := F_Frame_layers_left.binds (ps := ["self"]) fun _ _ _ _ _ _ us hl => (by obtain ⟨_, rfl⟩ := cas1 hl; rfl)
  have F_Workshop_init := fun_mk (st := s_Workshop_init) lk_Workshop_init co_Workshop_init kp_Workshop_init
  have b_Workshop_init := F_Workshop_init.binds (ps := ["self", "cools", "wax"]) fun _ _ _ _ _ _ us hl => (by obtain ⟨_, _, _, rfl⟩ := cas3 hl; rfl)
  have F_Workshop_standing_frame := fun_mk (st := s_Workshop_standing_frame) lk_Workshop_standing_frame co_Workshop_standing_frame kp_Workshop_standing_frame
  have b_Workshop_standing_frame := F_Workshop_standing_frame.binds (ps := ["self", "number"]) fun _ _ _ _ _ _ us hl => (by obtain ⟨_, _, rfl⟩ := cas2 hl; rfl)
  have F_Workshop_add_frame := fun_mk (st := s_Workshop_add_frame) lk_Workshop_add_frame co_Workshop_add_frame kp_Workshop_add_frame
  have b_Workshop_add_frame := F_Workshop_add_frame.binds (ps := ["self", "layers"]) fun _ _ _ _ _ _ us hl => (by obtain ⟨_, _, rfl⟩ := cas2 hl; rfl)
  have F_Workshop_buy_wax := fun_mk (st := s_Workshop_buy_wax) lk_Workshop_buy_wax co_Workshop_buy_wax kp_Workshop_buy_wax
  have b_Workshop_buy_wax := F_Workshop_buy_wax.binds (ps := ["self", "measures"]) fun _ _ _ _ _ _ us hl => (by obtain ⟨_, _, rfl⟩ := cas2 hl; rfl)
  have F_Workshop_melt_layer := fun_mk (st := s_Workshop_melt_layer) lk_Workshop_melt_layer co_Workshop_melt_layer kp_Workshop_melt_layer
  have b_Workshop_melt_layer := F_Workshop_melt_layer.binds (ps := ["self", "frame"]) fun _ _ _ _ _ _ us hl => (by obtain ⟨_, _, rfl⟩ := cas2 hl; rfl)
  have F_Workshop_put_layer := fun_mk (st := s_Workshop_put_layer) lk_Workshop_put_layer co_Workshop_put_layer kp_Workshop_put_layer
  have b_Workshop_put_layer := F_Workshop_put_layer.binds (ps := ["self", "frame"]) fun _ _ _ _ _ _ us hl => (by obtain ⟨_, _, rfl⟩ := cas2 hl; rfl)
  have F_Workshop_dip := fun_mk (st := s_Workshop_dip) lk_Workshop_dip co_Workshop_dip kp_Workshop_dip
  have b_Workshop_dip := F_Workshop_dip.binds (ps := ["self", "number"]) fun _ _ _ _ _ _ us hl => (by obtain ⟨_, _, rfl⟩ := cas2 hl; rfl)
  have F_Workshop_wait := fun_mk (st := s_Workshop_wait) lk_Workshop_wait co_Workshop_wait kp_Workshop_wait
  have b_Workshop_wait := F_Workshop_wait.binds (ps := ["self", "minutes"]) fun _ _ _ _ _ _ us hl => (by obtain ⟨_, _, rfl⟩ := cas2 hl; rfl)
  have F_Workshop_sell := fun_mk (st := s_Workshop_sell) lk_Workshop_sell co_Workshop_sell kp_Workshop_sell
  have b_Workshop_sell := F_Workshop_sell.binds (ps := ["self", "number"]) fun _ _ _ _ _ _ us hl => (by obtain ⟨_, _, rfl⟩ := cas2 hl; rfl)
  have F_Workshop_look := fun_mk (st := s_Workshop_look) lk_Workshop_look co_Workshop_look kp_Workshop_look
  have b_Workshop_look := F_Workshop_look.binds (ps := ["self", "number"]) fun _ _ _ _ _ _ us hl => (by obtain ⟨_, _, rfl⟩ := cas2 hl; rfl)
  have F_Workshop_rest := fun_mk (st := s_Workshop_rest) lk_Workshop_rest co_Workshop_rest kp_Workshop_rest
  have b_Workshop_rest := F_Workshop_rest.binds (ps := ["self"]) fun _ _ _ _ _ _ us hl => (by obtain ⟨_, rfl⟩ := cas1 hl; rfl)
  have F_Workshop_follow := fun_mk (st := s_Workshop_follow) lk_Workshop_follow co_Workshop_follow kp_Workshop_follow
  have b_Workshop_follow := F_Workshop_follow.binds (ps := ["self", "plan"]) fun _ _ _ _ _ _ us hl => (by obtain ⟨_, _, rfl⟩ := cas2 hl; rfl)
  have F_Workshop_book := fun_mk (st := s_Workshop_book) lk_Workshop_book co_Workshop_book kp_Workshop_book
  have b_Workshop_book := F_Workshop_book.binds (ps := ["self"]) fun _ _ _ _ _ _ us hl => (by obtain ⟨_, rfl⟩ := cas1 hl; rfl)
  have F_Line_init := fun_mk (st := s_Line_init) lk_Line_init co_Line_init kp_Line_init
  have b_Line_init := F_Line_init.binds (ps := ["self", "calls"]) fun _ _ _ _ _ _ us hl => (by obtain ⟨_, _, rfl⟩ := cas2 hl; rfl)
  have F_Line_at_end := fun_mk (st := s_Line_at_end) lk_Line_at_end co_Line_at_end kp_Line_at_end
  have b_Line_at_end := F_Line_at_end.binds (ps := ["self"]) fun _ _ _ _ _ _ us hl => (by obtain ⟨_, rfl⟩ := cas1 hl; rfl)
  have F_Line_take_number := fun_mk (st := s_Line_take_number) lk_Line_take_number co_Line_take_number kp_Line_take_number
  have b_Line_take_number := F_Line_take_number.binds (ps := ["self"]) fun _ _ _ _ _ _ us hl => (by obtain ⟨_, rfl⟩ := cas1 hl; rfl)
  have F_Line_take_numbers := fun_mk (st := s_Line_take_numbers) lk_Line_take_numbers co_Line_take_numbers kp_Line_take_numbers
  have b_Line_take_numbers := F_Line_take_numbers.binds (ps := ["self", "how_many"]) fun _ _ _ _ _ _ us hl => (by obtain ⟨_, _, rfl⟩ := cas2 hl; rfl)
  have F_Line_take_rows := fun_mk (st := s_Line_take_rows) lk_Line_take_rows co_Line_take_rows kp_Line_take_rows
  have b_Line_take_rows := F_Line_take_rows.binds (ps := ["self", "how_many"]) fun _ _ _ _ _ _ us hl => (by obtain ⟨_, _, rfl⟩ := cas2 hl; rfl)
  have F_may_begin := fun_mk (st := s_may_begin) lk_may_begin co_may_begin kp_may_begin
  have b_may_begin := F_may_begin.binds (ps := ["cools", "wax"]) fun _ _ _ _ _ _ us hl => (by obtain ⟨_, _, rfl⟩ := cas2 hl; rfl)
  have F_answer_to_wanted := fun_mk (st := s_answer_to_wanted) lk_answer_to_wanted co_answer_to_wanted kp_answer_to_wanted
  have b_answer_to_wanted := F_answer_to_wanted.binds (ps := ["cools", "call", "numbers", "rows"]) fun _ _ _ _ _ _ us hl => (by obtain ⟨_, _, _, _, rfl⟩ := cas4 hl; rfl)
  have F_answer_in := fun_mk (st := s_answer_in) lk_answer_in co_answer_in kp_answer_in
  have b_answer_in := F_answer_in.binds (ps := ["shop", "call", "numbers", "rows"]) fun _ _ _ _ _ _ us hl => (by obtain ⟨_, _, _, _, rfl⟩ := cas4 hl; rfl)
  have F_answers := fun_mk (st := s_answers) lk_answers co_answers kp_answers
  have b_answers := F_answers.binds (ps := ["calls"]) fun _ _ _ _ _ _ us hl => (by obtain ⟨_, rfl⟩ := cas1 hl; rfl)
  exact ⟨{ C_Frame := C_Frame, C_Workshop := C_Workshop, C_Line := C_Line, a_HANDED_OVER := a_HANDED_OVER, a_ROWS_BEHIND := a_ROWS_BEHIND, f_may_be_wanted := f_may_be_wanted, fd_may_be_wanted := PySem.W.fnOf "may_be_wanted" "may_be_wanted" (defArgs s_may_be_wanted) (defBody s_may_be_wanted) (defScope s_may_be_wanted) .none kV_may_be_wanted dc_may_be_wanted pm_may_be_wanted an_may_be_wanted cd_may_be_wanted ct_may_be_wanted, f_ranked_frames := f_ranked_frames, fd_ranked_frames := PySem.W.fnOf "ranked_frames" "ranked_frames" (defArgs s_ranked_frames) (defBody s_ranked_frames) (defScope s_ranked_frames) .none kV_ranked_frames dc_ranked_frames pm_ranked_frames an_ranked_frames cd_ranked_frames ct_ranked_frames, f_other_dips := f_other_dips, fd_other_dips := PySem.W.fnOf "other_dips" "other_dips" (defArgs s_other_dips) (defBody s_other_dips) (defScope s_other_dips) .none kV_other_dips dc_other_dips pm_other_dips an_other_dips cd_other_dips ct_other_dips, f_best_plan := f_best_plan, fd_best_plan := PySem.W.fnOf "best_plan" "best_plan" (defArgs s_best_plan) (defBody s_best_plan) (defScope s_best_plan) .none kV_best_plan dc_best_plan pm_best_plan an_best_plan cd_best_plan ct_best_plan, f_least_minutes := f_least_minutes, fd_least_minutes := PySem.W.fnOf "least_minutes" "least_minutes" (defArgs s_least_minutes) (defBody s_least_minutes) (defScope s_least_minutes) .none kV_least_minutes dc_least_minutes pm_least_minutes an_least_minutes cd_least_minutes ct_least_minutes, f_wrong_minute := f_wrong_minute, fd_wrong_minute := PySem.W.fnOf "wrong_minute" "wrong_minute" (defArgs s_wrong_minute) (defBody s_wrong_minute) (defScope s_wrong_minute) .none kV_wrong_minute dc_wrong_minute pm_wrong_minute an_wrong_minute cd_wrong_minute ct_wrong_minute, f_wrong_frame := f_wrong_frame, fd_wrong_frame := PySem.W.fnOf "wrong_frame" "wrong_frame" (defArgs s_wrong_frame) (defBody s_wrong_frame) (defScope s_wrong_frame) .none kV_wrong_frame dc_wrong_frame pm_wrong_frame an_wrong_frame cd_wrong_frame ct_wrong_frame, f_judged := f_judged, fd_judged := PySem.W.fnOf "judged" "judged" (defArgs s_judged) (defBody s_judged) (defScope s_judged) .none kV_judged dc_judged pm_judged an_judged cd_judged ct_judged, f_longest_cooling := f_longest_cooling, fd_longest_cooling := PySem.W.fnOf "longest_cooling" "longest_cooling" (defArgs s_longest_cooling) (defBody s_longest_cooling) (defScope s_longest_cooling) .none kV_longest_cooling dc_longest_cooling pm_longest_cooling an_longest_cooling cd_longest_cooling ct_longest_cooling, f_Frame_init := f_Frame_init, fd_Frame_init := PySem.W.fnOf "__init__" "Frame.__init__" (defArgs s_Frame_init) (defBody s_Frame_init) (defScope s_Frame_init) .none kV_Frame_init dc_Frame_init pm_Frame_init an_Frame_init cd_Frame_init ct_Frame_init, f_Frame_warm_minutes := f_Frame_warm_minutes, fd_Frame_warm_minutes := PySem.W.fnOf "warm_minutes" "Frame.warm_minutes" (defArgs s_Frame_warm_minutes) (defBody s_Frame_warm_minutes) (defScope s_Frame_warm_minutes) .none kV_Frame_warm_minutes dc_Frame_warm_minutes pm_Frame_warm_minutes an_Frame_warm_minutes cd_Frame_warm_minutes ct_Frame_warm_minutes, f_Frame_wax_held := f_Frame_wax_held, fd_Frame_wax_held := PySem.W.fnOf "wax_held" "Frame.wax_held" (defArgs s_Frame_wax_held) (defBody s_Frame_wax_held) (defScope s_Frame_wax_held) .none kV_Frame_wax_held dc_Frame_wax_held pm_Frame_wax_held an_Frame_wax_held cd_Frame_wax_held ct_Frame_wax_held, f_Frame_layers_left := f_Frame_layers_left, fd_Frame_layers_left := PySem.W.fnOf "layers_left" "Frame.layers_left" (defArgs s_Frame_layers_left) (defBody s_Frame_layers_left) (defScope s_Frame_layers_left) .none kV_Frame_layers_left dc_Frame_layers_left pm_Frame_layers_left an_Frame_layers_left cd_Frame_layers_left ct_Frame_layers_left, f_Workshop_init := f_Workshop_init, fd_Workshop_init := PySem.W.fnOf "__init__" "Workshop.__init__" (defArgs s_Workshop_init) (defBody s_Workshop_init) (defScope s_Workshop_init) .none kV_Workshop_init dc_Workshop_init pm_Workshop_init an_Workshop_init cd_Workshop_init ct_Workshop_init, f_Workshop_standing_frame := f_Workshop_standing_frame, fd_Workshop_standing_frame := PySem.W.fnOf "standing_frame" "Workshop.standing_frame" (defArgs s_Workshop_standing_frame) (defBody s_Workshop_standing_frame) (defScope s_Workshop_standing_frame) .none kV_Workshop_standing_frame dc_Workshop_standing_frame pm_Workshop_standing_frame an_Workshop_standing_frame cd_Workshop_standing_frame ct_Workshop_standing_frame, f_Workshop_add_frame := f_Workshop_add_frame, fd_Workshop_add_frame := PySem.W.fnOf "add_frame" "Workshop.add_frame" (defArgs s_Workshop_add_frame) (defBody s_Workshop_add_frame) (defScope s_Workshop_add_frame) .none kV_Workshop_add_frame dc_Workshop_add_frame pm_Workshop_add_frame an_Workshop_add_frame cd_Workshop_add_frame ct_Workshop_add_frame, f_Workshop_buy_wax := f_Workshop_buy_wax, fd_Workshop_buy_wax := PySem.W.fnOf "buy_wax" "Workshop.buy_wax" (defArgs s_Workshop_buy_wax) (defBody s_Workshop_buy_wax) (defScope s_Workshop_buy_wax) .none kV_Workshop_buy_wax dc_Workshop_buy_wax pm_Workshop_buy_wax an_Workshop_buy_wax cd_Workshop_buy_wax ct_Workshop_buy_wax, f_Workshop_melt_layer := f_Workshop_melt_layer, fd_Workshop_melt_layer := PySem.W.fnOf "melt_layer" "Workshop.melt_layer" (defArgs s_Workshop_melt_layer) (defBody s_Workshop_melt_layer) (defScope s_Workshop_melt_layer) .none kV_Workshop_melt_layer dc_Workshop_melt_layer pm_Workshop_melt_layer an_Workshop_melt_layer cd_Workshop_melt_layer ct_Workshop_melt_layer, f_Workshop_put_layer := f_Workshop_put_layer, fd_Workshop_put_layer := PySem.W.fnOf "put_layer" "Workshop.put_layer" (defArgs s_Workshop_put_layer) (defBody s_Workshop_put_layer) (defScope s_Workshop_put_layer) .none kV_Workshop_put_layer dc_Workshop_put_layer pm_Workshop_put_layer an_Workshop_put_layer cd_Workshop_put_layer ct_Workshop_put_layer, f_Workshop_dip := f_Workshop_dip, fd_Workshop_dip := PySem.W.fnOf "dip" "Workshop.dip" (defArgs s_Workshop_dip) (defBody s_Workshop_dip) (defScope s_Workshop_dip) .none kV_Workshop_dip dc_Workshop_dip pm_Workshop_dip an_Workshop_dip cd_Workshop_dip ct_Workshop_dip, f_Workshop_wait := f_Workshop_wait, fd_Workshop_wait := PySem.W.fnOf "wait" "Workshop.wait" (defArgs s_Workshop_wait) (defBody s_Workshop_wait) (defScope s_Workshop_wait) .none kV_Workshop_wait dc_Workshop_wait pm_Workshop_wait an_Workshop_wait cd_Workshop_wait ct_Workshop_wait, f_Workshop_sell := f_Workshop_sell, fd_Workshop_sell := PySem.W.fnOf "sell" "Workshop.sell" (defArgs s_Workshop_sell) (defBody s_Workshop_sell) (defScope s_Workshop_sell) .none kV_Workshop_sell dc_Workshop_sell pm_Workshop_sell an_Workshop_sell cd_Workshop_sell ct_Workshop_sell, f_Workshop_look := f_Workshop_look, fd_Workshop_look := PySem.W.fnOf "look" "Workshop.look" (defArgs s_Workshop_look) (defBody s_Workshop_look) (defScope s_Workshop_look) .none kV_Workshop_look dc_Workshop_look pm_Workshop_look an_Workshop_look cd_Workshop_look ct_Workshop_look, f_Workshop_rest := f_Workshop_rest, fd_Workshop_rest := PySem.W.fnOf "rest" "Workshop.rest" (defArgs s_Workshop_rest) (defBody s_Workshop_rest) (defScope s_Workshop_rest) .none kV_Workshop_rest dc_Workshop_rest pm_Workshop_rest an_Workshop_rest cd_Workshop_rest ct_Workshop_rest, f_Workshop_follow := f_Workshop_follow, fd_Workshop_follow := PySem.W.fnOf "follow" "Workshop.follow" (defArgs s_Workshop_follow) (defBody s_Workshop_follow) (defScope s_Workshop_follow) .none kV_Workshop_follow dc_Workshop_follow pm_Workshop_follow an_Workshop_follow cd_Workshop_follow ct_Workshop_follow, f_Workshop_book := f_Workshop_book, fd_Workshop_book := PySem.W.fnOf "book" "Workshop.book" (defArgs s_Workshop_book) (defBody s_Workshop_book) (defScope s_Workshop_book) .none kV_Workshop_book dc_Workshop_book pm_Workshop_book an_Workshop_book cd_Workshop_book ct_Workshop_book, f_Line_init := f_Line_init, fd_Line_init := PySem.W.fnOf "__init__" "Line.__init__" (defArgs s_Line_init) (defBody s_Line_init) (defScope s_Line_init) .none kV_Line_init dc_Line_init pm_Line_init an_Line_init cd_Line_init ct_Line_init, f_Line_at_end := f_Line_at_end, fd_Line_at_end := PySem.W.fnOf "at_end" "Line.at_end" (defArgs s_Line_at_end) (defBody s_Line_at_end) (defScope s_Line_at_end) .none kV_Line_at_end dc_Line_at_end pm_Line_at_end an_Line_at_end cd_Line_at_end ct_Line_at_end, f_Line_take_number := f_Line_take_number, fd_Line_take_number := PySem.W.fnOf "take_number" "Line.take_number" (defArgs s_Line_take_number) (defBody s_Line_take_number) (defScope s_Line_take_number) .none kV_Line_take_number dc_Line_take_number pm_Line_take_number an_Line_take_number cd_Line_take_number ct_Line_take_number, f_Line_take_numbers := f_Line_take_numbers, fd_Line_take_numbers := PySem.W.fnOf "take_numbers" "Line.take_numbers" (defArgs s_Line_take_numbers) (defBody s_Line_take_numbers) (defScope s_Line_take_numbers) .none kV_Line_take_numbers dc_Line_take_numbers pm_Line_take_numbers an_Line_take_numbers cd_Line_take_numbers ct_Line_take_numbers, f_Line_take_rows := f_Line_take_rows, fd_Line_take_rows := PySem.W.fnOf "take_rows" "Line.take_rows" (defArgs s_Line_take_rows) (defBody s_Line_take_rows) (defScope s_Line_take_rows) .none kV_Line_take_rows dc_Line_take_rows pm_Line_take_rows an_Line_take_rows cd_Line_take_rows ct_Line_take_rows, f_may_begin := f_may_begin, fd_may_begin := PySem.W.fnOf "may_begin" "may_begin" (defArgs s_may_begin) (defBody s_may_begin) (defScope s_may_begin) .none kV_may_begin dc_may_begin pm_may_begin an_may_begin cd_may_begin ct_may_begin, f_answer_to_wanted := f_answer_to_wanted, fd_answer_to_wanted := PySem.W.fnOf "answer_to_wanted" "answer_to_wanted" (defArgs s_answer_to_wanted) (defBody s_answer_to_wanted) (defScope s_answer_to_wanted) .none kV_answer_to_wanted dc_answer_to_wanted pm_answer_to_wanted an_answer_to_wanted cd_answer_to_wanted ct_answer_to_wanted, f_answer_in := f_answer_in, fd_answer_in := PySem.W.fnOf "answer_in" "answer_in" (defArgs s_answer_in) (defBody s_answer_in) (defScope s_answer_in) .none kV_answer_in dc_answer_in pm_answer_in an_answer_in cd_answer_in ct_answer_in, f_answers := f_answers, fd_answers := PySem.W.fnOf "answers" "answers" (defArgs s_answers) (defBody s_answers) (defScope s_answers) .none kV_answers dc_answers pm_answers an_answers cd_answers ct_answers },
    ⟨⟨_, PySem.W.mg_of X G g_BEGIN, _, rfl⟩,
    ⟨_, PySem.W.mg_of X G g_COOLING, _, rfl⟩,
    ⟨_, PySem.W.mg_of X G g_DIP, _, rfl⟩,
    ⟨_, PySem.W.mg_of X G g_FOLLOW, _, rfl⟩,
    ⟨_, PySem.W.mg_of X G g_FRAME, _, rfl⟩,
    ⟨_, PySem.W.mg_of X G g_FULL_FRAME, _, rfl⟩,
    ⟨_, PySem.W.mg_of X G g_HANDED_OVER, rfl⟩,
    fun _ => .inr ⟨_, _, _, t_HANDED_OVER, rfl, rfl, by show 14 ≤ sizeLine; decide, .cons ⟨_, rfl⟩ (.cons ⟨_, rfl⟩ (.cons ⟨_, rfl⟩ (.cons ⟨_, rfl⟩ (.cons ⟨_, rfl⟩ (.cons ⟨_, rfl⟩ (.cons ⟨_, rfl⟩ (.cons ⟨_, rfl⟩ (.cons ⟨_, rfl⟩ (.cons ⟨_, rfl⟩ (.cons ⟨_, rfl⟩ (.cons ⟨_, rfl⟩ (.cons ⟨_, rfl⟩ (.cons ⟨_, rfl⟩ .nil)))))))))))))⟩,
    ⟨_, PySem.W.mg_of X G g_JUDGE, _, rfl⟩,
    ⟨_, PySem.W.mg_of X G g_LAST_MINUTE, _, rfl⟩,
    ⟨_, PySem.W.mg_of X G g_LEAST, _, rfl⟩,
    ⟨_, PySem.W.mg_of X G g_LONGEST_WAIT, _, rfl⟩,
    ⟨_, PySem.W.mg_of X G g_LOOK, _, rfl⟩,
    ⟨_, PySem.W.mg_of X G g_MOST_BOUGHT, _, rfl⟩,
    ⟨_, PySem.W.mg_of X G g_MOST_COOLS, _, rfl⟩,
    ⟨_, PySem.W.mg_of X G g_MOST_FRAMES, _, rfl⟩,
    ⟨_, PySem.W.mg_of X G g_MOST_LAYERS, _, rfl⟩,
    ⟨_, PySem.W.mg_of X G g_NOTHING, _, rfl⟩,
    ⟨_, PySem.W.mg_of X G g_NO_COOLING, _, rfl⟩,
    ⟨_, PySem.W.mg_of X G g_NO_PLACE, _, rfl⟩,
    ⟨_, PySem.W.mg_of X G g_NO_SUCH_FRAME, _, rfl⟩,
    ⟨_, PySem.W.mg_of X G g_NO_WORKSHOP, _, rfl⟩,
    ⟨_, PySem.W.mg_of X G g_OUT_OF_RANGE, _, rfl⟩,
    ⟨_, PySem.W.mg_of X G g_PLAN, _, rfl⟩,
    ⟨_, PySem.W.mg_of X G g_REST, _, rfl⟩,
    ⟨_, PySem.W.mg_of X G g_ROWS_BEHIND, rfl⟩,
    fun _ => .inr ⟨_, _, _, t_ROWS_BEHIND, rfl, rfl, by show 14 ≤ sizeLine; decide, .cons ⟨_, rfl⟩ (.cons ⟨_, rfl⟩ (.cons ⟨_, rfl⟩ (.cons ⟨_, rfl⟩ (.cons ⟨_, rfl⟩ (.cons ⟨_, rfl⟩ (.cons ⟨_, rfl⟩ (.cons ⟨_, rfl⟩ (.cons ⟨_, rfl⟩ (.cons ⟨_, rfl⟩ (.cons ⟨_, rfl⟩ (.cons ⟨_, rfl⟩ (.cons ⟨_, rfl⟩ (.cons ⟨_, rfl⟩ .nil)))))))))))))⟩,
    ⟨_, PySem.W.mg_of X G g_SELL, _, rfl⟩,
    ⟨_, PySem.W.mg_of X G g_STILL_WARM, _, rfl⟩,
    ⟨_, PySem.W.mg_of X G g_TOO_FEW_LAYERS, _, rfl⟩,
    ⟨_, PySem.W.mg_of X G g_TOO_LATE, _, rfl⟩,
    ⟨_, PySem.W.mg_of X G g_TOO_LITTLE_WAX, _, rfl⟩,
    ⟨_, PySem.W.mg_of X G g_WAIT, _, rfl⟩,
    ⟨_, PySem.W.mg_of X G g_WAX, _, rfl⟩,
    ⟨_, PySem.W.mg_of X G g_WRONG_FRAME, _, rfl⟩,
    ⟨_, PySem.W.mg_of X G g_WRONG_MINUTE, _, rfl⟩,
    PySem.W.mg_none_of X G n_enumerate,
    PySem.W.mg_none_of X G n_len,
    PySem.W.mg_none_of X G n_list,
    PySem.W.mg_none_of X G n_max,
    PySem.W.mg_none_of X G n_range,
    PySem.W.mg_none_of X G n_sorted,
    PySem.W.mg_none_of X G n_sum,
    PySem.W.mg_of X G c_Frame,
    ⟨pg_Frame, hd_Frame, po_Frame, sa_Frame⟩,
    ⟨mk_Frame, at_Frame_init, fn_Frame_init, kc_Frame⟩,
    na_Frame_wanted,
    na_Frame_layers,
    na_Frame_cool_from,
    na_Frame_sold,
    PySem.W.mg_of X G c_Workshop,
    ⟨pg_Workshop, hd_Workshop, po_Workshop, sa_Workshop⟩,
    ⟨mk_Workshop, at_Workshop_init, fn_Workshop_init, kc_Workshop⟩,
    na_Workshop_cools,
    na_Workshop_minute,
    na_Workshop_vat,
    na_Workshop_bought,
    na_Workshop_frames,
    PySem.W.mg_of X G c_Line,
    ⟨pg_Line, hd_Line, po_Line, sa_Line⟩,
    ⟨mk_Line, at_Line_init, fn_Line_init, kc_Line⟩,
    na_Line_calls,
    na_Line_place,
    F_may_be_wanted,
    b_may_be_wanted,
    PySem.W.mg_of X G at_may_be_wanted,
    F_ranked_frames,
    b_ranked_frames,
    PySem.W.mg_of X G at_ranked_frames,
    F_other_dips,
    b_other_dips,
    PySem.W.mg_of X G at_other_dips,
    F_best_plan,
    b_best_plan,
    PySem.W.mg_of X G at_best_plan,
    F_least_minutes,
    b_least_minutes,
    PySem.W.mg_of X G at_least_minutes,
    F_wrong_minute,
    b_wrong_minute,
    PySem.W.mg_of X G at_wrong_minute,
    F_wrong_frame,
    b_wrong_frame,
    PySem.W.mg_of X G at_wrong_frame,
    F_judged,
    b_judged,
    PySem.W.mg_of X G at_judged,
    F_longest_cooling,
    b_longest_cooling,
    PySem.W.mg_of X G at_longest_cooling,
    F_Frame_init,
    b_Frame_init,
    ⟨at_Frame_init, fn_Frame_init, kp_Frame_init⟩,
    F_Frame_warm_minutes,
    b_Frame_warm_minutes,
    ⟨at_Frame_warm_minutes, fn_Frame_warm_minutes, kp_Frame_warm_minutes⟩,
    F_Frame_wax_held,
    b_Frame_wax_held,
    ⟨at_Frame_wax_held, fn_Frame_wax_held, kp_Frame_wax_held⟩,
    F_Frame_layers_left,
    b_Frame_layers_left,
    ⟨at_Frame_layers_left, fn_Frame_layers_left, kp_Frame_layers_left⟩,
    F_Workshop_init,
    b_Workshop_init,
    ⟨at_Workshop_init, fn_Workshop_init, kp_Workshop_init⟩,
    F_Workshop_standing_frame,
    b_Workshop_standing_frame,
    ⟨at_Workshop_standing_frame, fn_Workshop_standing_frame, kp_Workshop_standing_frame⟩,
    F_Workshop_add_frame,
    b_Workshop_add_frame,
    ⟨at_Workshop_add_frame, fn_Workshop_add_frame, kp_Workshop_add_frame⟩,
    F_Workshop_buy_wax,
    b_Workshop_buy_wax,
    ⟨at_Workshop_buy_wax, fn_Workshop_buy_wax, kp_Workshop_buy_wax⟩,
    F_Workshop_melt_layer,
    b_Workshop_melt_layer,
    ⟨at_Workshop_melt_layer, fn_Workshop_melt_layer, kp_Workshop_melt_layer⟩,
    F_Workshop_put_layer,
    b_Workshop_put_layer,
    ⟨at_Workshop_put_layer, fn_Workshop_put_layer, kp_Workshop_put_layer⟩,
    F_Workshop_dip,
    b_Workshop_dip,
    ⟨at_Workshop_dip, fn_Workshop_dip, kp_Workshop_dip⟩,
    F_Workshop_wait,
    b_Workshop_wait,
    ⟨at_Workshop_wait, fn_Workshop_wait, kp_Workshop_wait⟩,
    F_Workshop_sell,
    b_Workshop_sell,
    ⟨at_Workshop_sell, fn_Workshop_sell, kp_Workshop_sell⟩,
    F_Workshop_look,
    b_Workshop_look,
    ⟨at_Workshop_look, fn_Workshop_look, kp_Workshop_look⟩,
    F_Workshop_rest,
    b_Workshop_rest,
    ⟨at_Workshop_rest, fn_Workshop_rest, kp_Workshop_rest⟩,
    F_Workshop_follow,
    b_Workshop_follow,
    ⟨at_Workshop_follow, fn_Workshop_follow, kp_Workshop_follow⟩,
    F_Workshop_book,
    b_Workshop_book,
    ⟨at_Workshop_book, fn_Workshop_book, kp_Workshop_book⟩,
    F_Line_init,
    b_Line_init,
    ⟨at_Line_init, fn_Line_init, kp_Line_init⟩,
    F_Line_at_end,
    b_Line_at_end,
    ⟨at_Line_at_end, fn_Line_at_end, kp_Line_at_end⟩,
    F_Line_take_number,
    b_Line_take_number,
    ⟨at_Line_take_number, fn_Line_take_number, kp_Line_take_number⟩,
    F_Line_take_numbers,
    b_Line_take_numbers,
    ⟨at_Line_take_numbers, fn_Line_take_numbers, kp_Line_take_numbers⟩,
    F_Line_take_rows,
    b_Line_take_rows,
    ⟨at_Line_take_rows, fn_Line_take_rows, kp_Line_take_rows⟩,
    F_may_begin,
    b_may_begin,
    PySem.W.mg_of X G at_may_begin,
    F_answer_to_wanted,
    b_answer_to_wanted,
    PySem.W.mg_of X G at_answer_to_wanted,
    F_answer_in,
    b_answer_in,
    PySem.W.mg_of X G at_answer_in,
    F_answers,
    b_answers,
    PySem.W.mg_of X G at_answers⟩⟩
end DV
end
set_option Elab.async false
set_option linter.all false
set_option maxRecDepth 100000
set_option maxHeartbeats 4000000
namespace DV
open PySem PySem.Spec PyProof.Rows L2
theorem fin {P : Program} {w : World} {K : PySem.W.Frag} {mg mb : Str → Option Value} {mean : ExcName → Option Value} {p : Program} {loose : List Str} {fa : Addr} {h : Heap} (X : K.In h) (Tp : Top p loose mean mg mb h) (hm : mg "answers" = some (.ref fa))
    (hrec : ∃ d, (PyProof.Rows.recsOf p).find? (fun e => e.name == ("ranked_frames" : Str)) = some d) (htab : (PySem.W.tabIn K "ranked_frames").isSome = true) (hnt : PySem.W.noTabs K = true) (hT : ∃ D : Dat, Txt K mg D) :
    ∃ (fd : FuncData) (c t : Addr), (∀ (s : Shared) (us : List Value), us.length = (["calls"] : List Str).length → BindsTo s fd ⟨us, []⟩ ((["calls"] : List Str).zip us)) ∧ PySem.W.CodeHd h c t ∧ h.get? t = some (PySem.W.tabObj #[]) ∧ K.lookup t = none ∧ h.BuiltinsAt mg t ∧
      ∀ base : Heap, K.In base → base.Ns mainGlobals mg → PySem.W.CodeHd base c t → base.BuiltinsAt mg t → FnOk P w K mg base CX0 7 fa fd ["calls"] (spAns K t) := by
  obtain ⟨D, T⟩ := hT
  obtain ⟨dr, hdr⟩ := hrec
  obtain ⟨⟨c, t⟩, hct⟩ := Option.isSome_iff_exists.mp htab
  obtain ⟨hc, ht⟩ := PySem.W.tab_of Tp X hdr hct
  have htK : K.lookup t = none := by
    cases q : K.lookup t with
    | none => rfl
    | some o =>
      have e := X _ _ q
      rw [ht] at e
      have e' := Option.some.inj e
      have h2 := List.all_eq_true.mp hnt (t, o) (PySem.W.mem_of_lookupK q)
      rw [← e'] at h2
      exact absurd (show false = true from h2) Bool.false_ne_true
  have hbm : h.BuiltinsAt mg t := by
    obtain ⟨bm, ob, b1, b2, b3, b4, b5, b6⟩ := Tp.bmain
    refine ⟨bm, ob, b1, b2, fun q => ?_, fun q => ?_, b3, b4, b5, b6⟩
    · obtain ⟨o, es, ep, e, hd, _⟩ := Tp.g
      rw [q, e] at b3; cases b3; rw [hd] at b6; cases b6
    · rw [q, ht] at b3; cases b3; cases b4
  have e := Option.some.inj (hm.symm.trans T.gl_answers)
  injection e with e
  subst e
  have hfd : D.fd_ranked_frames.code = .ref c := by
    obtain ⟨oc, od, kV, doc, pm, an, cdv, ct, osl, e, lk, _⟩ := T.F_ranked_frames.ex
    exact PySem.W.law_code X Tp.g hct T.gl_ranked_frames (X _ _ lk) rfl
  refine ⟨D.fd_answers, c, t, ?_, hc, ht, htK, hbm, fun base _ _ h1 h2 => ok_answers T ⟨h1, h2, hfd⟩⟩
  obtain ⟨oc, od, kV, doc, pm, an, cdv, ct, osl, e, _, _⟩ := T.F_answers.ex
  rw [e]
  exact fun s us hu => match us, hu with | [_], _ => .of_eq rfl
end DV
open PySem PySem.W PyProof.Rows
set_option maxRecDepth 100000 in
set_option maxHeartbeats 0 in
theorem PySem.Challenge.cw_dipvats_s01_answers_holds : PySem.Challenge.rw_dipvats_s01_answers.Holds := by
  w_on; k_headS; (case hw => exact ⟨[.list [.int 13]], by decide +kernel, by decide +kernel⟩)
  k_fillS
  refine DV.walk_specT (r := PySem.Challenge.rw_dipvats_s01_answers) (k := 7) (CX := L2.CX0) (x := "calls") (sp := DV.spAns) (arg := fun a => a.1) (due := fun a => PyMu41.answers a.1) (by decide +kernel) rfl (fun _ => rfl) (fun _ => rfl) ⟨rfl, by decide, by decide⟩ (fun w h Y => PySem.W.kIn_of Y) ?F ?S (fun _ _ _ _ z => z)
  case F =>
    intro w mg mb mean fa h Y KX Tp hmg
    have G := Tp.g
    refine DV.fin KX Tp hmg ⟨_, rfl⟩ (by kernel_rfl) (by kernel_rfl) ?_
    refine' DV.all_mk KX G ?g_BEGIN ?g_COOLING ?g_DIP ?g_FOLLOW ?g_FRAME ?g_FULL_FRAME ?g_HANDED_OVER ?t_HANDED_OVER ?g_JUDGE ?g_LAST_MINUTE ?g_LEAST ?g_LONGEST_WAIT ?g_LOOK ?g_MOST_BOUGHT ?g_MOST_COOLS ?g_MOST_FRAMES ?g_MOST_LAYERS ?g_NOTHING ?g_NO_COOLING ?g_NO_PLACE ?g_NO_SUCH_FRAME ?g_NO_WORKSHOP ?g_OUT_OF_RANGE ?g_PLAN ?g_REST ?g_ROWS_BEHIND ?t_ROWS_BEHIND ?g_SELL ?g_STILL_WARM ?g_TOO_FEW_LAYERS ?g_TOO_LATE ?g_TOO_LITTLE_WAX ?g_WAIT ?g_WAX ?g_WRONG_FRAME ?g_WRONG_MINUTE ?n_enumerate ?n_len ?n_list ?n_max ?n_range ?n_sorted ?n_sum ?c_Frame ?pg_Frame ?hd_Frame ?po_Frame ?sa_Frame ?mk_Frame ?kc_Frame ?na_Frame_wanted ?na_Frame_layers ?na_Frame_cool_from ?na_Frame_sold ?c_Workshop ?pg_Workshop ?hd_Workshop ?po_Workshop ?sa_Workshop ?mk_Workshop ?kc_Workshop ?na_Workshop_cools ?na_Workshop_minute ?na_Workshop_vat ?na_Workshop_bought ?na_Workshop_frames ?c_Line ?pg_Line ?hd_Line ?po_Line ?sa_Line ?mk_Line ?kc_Line ?na_Line_calls ?na_Line_place ?at_may_be_wanted ?lk_may_be_wanted ?co_may_be_wanted ?kp_may_be_wanted ?at_ranked_frames ?lk_ranked_frames ?co_ranked_frames ?kp_ranked_frames ?at_other_dips ?lk_other_dips ?co_other_dips ?kp_other_dips ?at_best_plan ?lk_best_plan ?co_best_plan ?kp_best_plan ?at_least_minutes ?lk_least_minutes ?co_least_minutes ?kp_least_minutes ?at_wrong_minute ?lk_wrong_minute ?co_wrong_minute ?kp_wrong_minute ?at_wrong_frame ?lk_wrong_frame ?co_wrong_frame ?kp_wrong_frame ?at_judged ?lk_judged ?co_judged ?kp_judged ?at_longest_cooling ?lk_longest_cooling ?co_longest_cooling ?kp_longest_cooling ?at_Frame_init ?fn_Frame_init ?lk_Frame_init ?co_Frame_init ?kp_Frame_init ?at_Frame_warm_minutes ?fn_Frame_warm_minutes ?lk_Frame_warm_minutes ?co_Frame_warm_minutes ?kp_Frame_warm_minutes ?at_Frame_wax_held ?fn_Frame_wax_held ?lk_Frame_wax_held ?co_Frame_wax_held ?kp_Frame_wax_held ?at_Frame_layers_left ?fn_Frame_layers_left ?lk_Frame_layers_left ?co_Frame_layers_left ?kp_Frame_layers_left ?at_Workshop_init ?fn_Workshop_init ?lk_Workshop_init ?co_Workshop_init ?kp_Workshop_init ?at_Workshop_standing_frame ?fn_Workshop_standing_frame ?lk_Workshop_standing_frame ?co_Workshop_standing_frame ?kp_Workshop_standing_frame ?at_Workshop_add_frame ?fn_Workshop_add_frame ?lk_Workshop_add_frame ?co_Workshop_add_frame ?kp_Workshop_add_frame ?at_Workshop_buy_wax ?fn_Workshop_buy_wax ?lk_Workshop_buy_wax ?co_Workshop_buy_wax ?kp_Workshop_buy_wax ?at_Workshop_melt_layer ?fn_Workshop_melt_layer ?lk_Workshop_melt_layer ?co_Workshop_melt_layer ?kp_Workshop_melt_layer ?at_Workshop_put_layer ?fn_Workshop_put_layer ?lk_Workshop_put_layer ?co_Workshop_put_layer ?kp_Workshop_put_layer ?at_Workshop_dip ?fn_Workshop_dip ?lk_Workshop_dip ?co_Workshop_dip ?kp_Workshop_dip ?at_Workshop_wait ?fn_Workshop_wait ?lk_Workshop_wait ?co_Workshop_wait ?kp_Workshop_wait ?at_Workshop_sell ?fn_Workshop_sell ?lk_Workshop_sell ?co_Workshop_sell ?kp_Workshop_sell ?at_Workshop_look ?fn_Workshop_look ?lk_Workshop_look ?co_Workshop_look ?kp_Workshop_look ?at_Workshop_rest ?fn_Workshop_rest ?lk_Workshop_rest ?co_Workshop_rest ?kp_Workshop_rest ?at_Workshop_follow ?fn_Workshop_follow ?lk_Workshop_follow ?co_Workshop_follow ?kp_Workshop_follow ?at_Workshop_book ?fn_Workshop_book ?lk_Workshop_book ?co_Workshop_book ?kp_Workshop_book ?at_Line_init ?fn_Line_init ?lk_Line_init ?co_Line_init ?kp_Line_init ?at_Line_at_end ?fn_Line_at_end ?lk_Line_at_end ?co_Line_at_end ?kp_Line_at_end ?at_Line_take_number ?fn_Line_take_number ?lk_Line_take_number ?co_Line_take_number ?kp_Line_take_number ?at_Line_take_numbers ?fn_Line_take_numbers ?lk_Line_take_numbers ?co_Line_take_numbers ?kp_Line_take_numbers ?at_Line_take_rows ?fn_Line_take_rows ?lk_Line_take_rows ?co_Line_take_rows ?kp_Line_take_rows ?at_may_begin ?lk_may_begin ?co_may_begin ?kp_may_begin ?at_answer_to_wanted ?lk_answer_to_wanted ?co_answer_to_wanted ?kp_answer_to_wanted ?at_answer_in ?lk_answer_in ?co_answer_in ?kp_answer_in ?at_answers ?lk_answers ?co_answers ?kp_answers
    (case g_BEGIN => k_is)
    (case g_COOLING => k_is)
    (case g_DIP => k_is)
    (case g_FOLLOW => k_is)
    (case g_FRAME => k_is)
    (case g_FULL_FRAME => k_is)
    (case g_HANDED_OVER => k_is)
    (case t_HANDED_OVER => k_is)
    (case g_JUDGE => k_is)
    (case g_LAST_MINUTE => k_is)
    (case g_LEAST => k_is)
    (case g_LONGEST_WAIT => k_is)
    (case g_LOOK => k_is)
    (case g_MOST_BOUGHT => k_is)
    (case g_MOST_COOLS => k_is)
    (case g_MOST_FRAMES => k_is)
    (case g_MOST_LAYERS => k_is)
    (case g_NOTHING => k_is)
    (case g_NO_COOLING => k_is)
    (case g_NO_PLACE => k_is)
    (case g_NO_SUCH_FRAME => k_is)
    (case g_NO_WORKSHOP => k_is)
    (case g_OUT_OF_RANGE => k_is)
    (case g_PLAN => k_is)
    (case g_REST => k_is)
    (case g_ROWS_BEHIND => k_is)
    (case t_ROWS_BEHIND => k_is)
    (case g_SELL => k_is)
    (case g_STILL_WARM => k_is)
    (case g_TOO_FEW_LAYERS => k_is)
    (case g_TOO_LATE => k_is)
    (case g_TOO_LITTLE_WAX => k_is)
    (case g_WAIT => k_is)
    (case g_WAX => k_is)
    (case g_WRONG_FRAME => k_is)
    (case g_WRONG_MINUTE => k_is)
    (case n_enumerate => k_is)
    (case n_len => k_is)
    (case n_list => k_is)
    (case n_max => k_is)
    (case n_range => k_is)
    (case n_sorted => k_is)
    (case n_sum => k_is)
    (case c_Frame => k_is)
    (case pg_Frame => k_is)
    (case hd_Frame => k_is)
    (case po_Frame => k_is)
    (case sa_Frame => k_is)
    (case mk_Frame => k_is)
    (case kc_Frame => k_is)
    (case na_Frame_wanted => k_is)
    (case na_Frame_layers => k_is)
    (case na_Frame_cool_from => k_is)
    (case na_Frame_sold => k_is)
    (case c_Workshop => k_is)
    (case pg_Workshop => k_is)
    (case hd_Workshop => k_is)
    (case po_Workshop => k_is)
    (case sa_Workshop => k_is)
    (case mk_Workshop => k_is)
    (case kc_Workshop => k_is)
    (case na_Workshop_cools => k_is)
    (case na_Workshop_minute => k_is)
    (case na_Workshop_vat => k_is)
    (case na_Workshop_bought => k_is)
    (case na_Workshop_frames => k_is)
    (case c_Line => k_is)
    (case pg_Line => k_is)
    (case hd_Line => k_is)
    (case po_Line => k_is)
    (case sa_Line => k_is)
    (case mk_Line => k_is)
    (case kc_Line => k_is)
    (case na_Line_calls => k_is)
    (case na_Line_place => k_is)
    (case at_may_be_wanted => k_is)
    (case lk_may_be_wanted => k_is)
    (case co_may_be_wanted => k_is)
    (case kp_may_be_wanted => k_is)
    (case at_ranked_frames => k_is)
    (case lk_ranked_frames => k_is)
    (case co_ranked_frames => k_is)
    (case kp_ranked_frames => k_is)
    (case at_other_dips => k_is)
    (case lk_other_dips => k_is)
    (case co_other_dips => k_is)
    (case kp_other_dips => k_is)
    (case at_best_plan => k_is)
    (case lk_best_plan => k_is)
    (case co_best_plan => k_is)
    (case kp_best_plan => k_is)
    (case at_least_minutes => k_is)
    (case lk_least_minutes => k_is)
    (case co_least_minutes => k_is)
    (case kp_least_minutes => k_is)
    (case at_wrong_minute => k_is)
    (case lk_wrong_minute => k_is)
    (case co_wrong_minute => k_is)
    (case kp_wrong_minute => k_is)
    (case at_wrong_frame => k_is)
    (case lk_wrong_frame => k_is)
    (case co_wrong_frame => k_is)
    (case kp_wrong_frame => k_is)
    (case at_judged => k_is)
    (case lk_judged => k_is)
    (case co_judged => k_is)
    (case kp_judged => k_is)
    (case at_longest_cooling => k_is)
    (case lk_longest_cooling => k_is)
    (case co_longest_cooling => k_is)
    (case kp_longest_cooling => k_is)
    (case at_Frame_init => k_is)
    (case fn_Frame_init => k_is)
    (case lk_Frame_init => k_is)
    (case co_Frame_init => k_is)
    (case kp_Frame_init => k_is)
    (case at_Frame_warm_minutes => k_is)
    (case fn_Frame_warm_minutes => k_is)
    (case lk_Frame_warm_minutes => k_is)
    (case co_Frame_warm_minutes => k_is)
    (case kp_Frame_warm_minutes => k_is)
    (case at_Frame_wax_held => k_is)
    (case fn_Frame_wax_held => k_is)
    (case lk_Frame_wax_held => k_is)
    (case co_Frame_wax_held => k_is)
    (case kp_Frame_wax_held => k_is)
    (case at_Frame_layers_left => k_is)
    (case fn_Frame_layers_left => k_is)
    (case lk_Frame_layers_left => k_is)
    (case co_Frame_layers_left => k_is)
    (case kp_Frame_layers_left => k_is)
    (case at_Workshop_init => k_is)
    (case fn_Workshop_init => k_is)
    (case lk_Workshop_init => k_is)
    (case co_Workshop_init => k_is)
    (case kp_Workshop_init => k_is)
    (case at_Workshop_standing_frame => k_is)
    (case fn_Workshop_standing_frame => k_is)
    (case lk_Workshop_standing_frame => k_is)
    (case co_Workshop_standing_frame => k_is)
    (case kp_Workshop_standing_frame => k_is)
    (case at_Workshop_add_frame => k_is)
    (case fn_Workshop_add_frame => k_is)
    (case lk_Workshop_add_frame => k_is)
    (case co_Workshop_add_frame => k_is)
    (case kp_Workshop_add_frame => k_is)
    (case at_Workshop_buy_wax => k_is)
    (case fn_Workshop_buy_wax => k_is)
    (case lk_Workshop_buy_wax => k_is)
    (case co_Workshop_buy_wax => k_is)
    (case kp_Workshop_buy_wax => k_is)
    (case at_Workshop_melt_layer => k_is)
    (case fn_Workshop_melt_layer => k_is)
    (case lk_Workshop_melt_layer => k_is)
    (case co_Workshop_melt_layer => k_is)
    (case kp_Workshop_melt_layer => k_is)
    (case at_Workshop_put_layer => k_is)
    (case fn_Workshop_put_layer => k_is)
    (case lk_Workshop_put_layer => k_is)
    (case co_Workshop_put_layer => k_is)
    (case kp_Workshop_put_layer => k_is)
    (case at_Workshop_dip => k_is)
    (case fn_Workshop_dip => k_is)
    (case lk_Workshop_dip => k_is)
    (case co_Workshop_dip => k_is)
    (case kp_Workshop_dip => k_is)
    (case at_Workshop_wait => k_is)
    (case fn_Workshop_wait => k_is)
    (case lk_Workshop_wait => k_is)
    (case co_Workshop_wait => k_is)
    (case kp_Workshop_wait => k_is)
    (case at_Workshop_sell => k_is)
    (case fn_Workshop_sell => k_is)
    (case lk_Workshop_sell => k_is)
    (case co_Workshop_sell => k_is)
    (case kp_Workshop_sell => k_is)
    (case at_Workshop_look => k_is)
    (case fn_Workshop_look => k_is)
    (case lk_Workshop_look => k_is)
    (case co_Workshop_look => k_is)
    (case kp_Workshop_look => k_is)
    (case at_Workshop_rest => k_is)
    (case fn_Workshop_rest => k_is)
    (case lk_Workshop_rest => k_is)
    (case co_Workshop_rest => k_is)
    (case kp_Workshop_rest => k_is)
    (case at_Workshop_follow => k_is)
    (case fn_Workshop_follow => k_is)
    (case lk_Workshop_follow => k_is)
    (case co_Workshop_follow => k_is)
    (case kp_Workshop_follow => k_is)
    (case at_Workshop_book => k_is)
    (case fn_Workshop_book => k_is)
    (case lk_Workshop_book => k_is)
    (case co_Workshop_book => k_is)
    (case kp_Workshop_book => k_is)
    (case at_Line_init => k_is)
    (case fn_Line_init => k_is)
    (case lk_Line_init => k_is)
    (case co_Line_init => k_is)
    (case kp_Line_init => k_is)
    (case at_Line_at_end => k_is)
    (case fn_Line_at_end => k_is)
    (case lk_Line_at_end => k_is)
    (case co_Line_at_end => k_is)
    (case kp_Line_at_end => k_is)
    (case at_Line_take_number => k_is)
    (case fn_Line_take_number => k_is)
    (case lk_Line_take_number => k_is)
    (case co_Line_take_number => k_is)
    (case kp_Line_take_number => k_is)
    (case at_Line_take_numbers => k_is)
    (case fn_Line_take_numbers => k_is)
    (case lk_Line_take_numbers => k_is)
    (case co_Line_take_numbers => k_is)
    (case kp_Line_take_numbers => k_is)
    (case at_Line_take_rows => k_is)
    (case fn_Line_take_rows => k_is)
    (case lk_Line_take_rows => k_is)
    (case co_Line_take_rows => k_is)
    (case kp_Line_take_rows => k_is)
    (case at_may_begin => k_is)
    (case lk_may_begin => k_is)
    (case co_may_begin => k_is)
    (case kp_may_begin => k_is)
    (case at_answer_to_wanted => k_is)
    (case lk_answer_to_wanted => k_is)
    (case co_answer_to_wanted => k_is)
    (case kp_answer_to_wanted => k_is)
    (case at_answer_in => k_is)
    (case lk_answer_in => k_is)
    (case co_answer_in => k_is)
    (case kp_answer_in => k_is)
    (case at_answers => k_is)
    (case lk_answers => k_is)
    (case co_answers => k_is)
    (case kp_answers => k_is)
  case S =>
    intro K t H q a hO hask hs
    exact ⟨q, a.1, rfl, hs, hO, hask, fun H' p hp => ⟨p, rfl, hp⟩⟩
