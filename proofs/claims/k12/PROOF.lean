import PyProof.Rows.All
import Wide.All
import OpenK.AllK
import Wide.FinOn
import Lean
import PyProof.EqAt
import PyProof.EqKinds
import PyProof.TupleCall
import PyProof.NeKinds
import PyProof.Rows.SortRuns
import PyProof.Rows.SortWalk
import KE.KSortTup
import KE.RegKTryMore
import KE.RegKIsAll
import KE.KPairComp
import PyProof.ExcAttrAll.ValueError
import PyProof.Rows.SumAny
import KE.KSortKey
import KE.KLam
import KE.KNestM
import KE.KListMore
import KE.KIntText
import PyProof.StrOps2
import PySem.Challenge.RW_weirgauge_k12_lines
set_option Elab.async false
set_option linter.all false
set_option maxRecDepth 100000
set_option maxHeartbeats 4000000
namespace L2
open PySem PySem.Spec PyProof.Rows
/-- a key: an int or a str -/
abbrev Key := Sum Int Str
def keyIs : Key → Value → Bool
  | .inl k, v => Value.isInt k v
  | .inr x, v => Value.isStrOf x v
def keyH (w : World) : Key → Int
  | .inl k => hashInt k
  | .inr x => hashStr w x
theorem keyIs_shape : ∀ {k : Key} {v : Value}, keyIs k v = true → (∃ i t, k = Sum.inl i ∧ v = Value.int i t) ∨ (∃ x t, k = Sum.inr x ∧ v = Value.str x t)
  | .inl i, v, h => by
    obtain ⟨t, e⟩ := Value.isInt_shape (k := i) (v := v) h
    exact .inl ⟨i, t, rfl, e⟩
  | .inr x, v, h => by
    obtain ⟨t, e⟩ := Value.isStrOf_shape (x := x) (v := v) h
    exact .inr ⟨x, t, rfl, e⟩
theorem key_ll (a b : Int) : decide ((Sum.inl a : Key) = Sum.inl b) = (a == b) := by
  by_cases e : a = b
  · subst e; simp
  · have h : ¬ (Sum.inl a : Key) = Sum.inl b := fun q => e (Sum.inl.inj q)
    rw [decide_eq_false h]
    exact (beq_eq_false_iff_ne.mpr e).symm
theorem key_rr (a b : Str) : decide ((Sum.inr a : Key) = Sum.inr b) = decide (a = b) := by
  by_cases e : a = b
  · subst e; simp
  · have h : ¬ (Sum.inr a : Key) = Sum.inr b := fun q => e (Sum.inr.inj q)
    rw [decide_eq_false h, decide_eq_false e]
theorem key_lr (a : Int) (b : Str) : decide ((Sum.inl a : Key) = Sum.inr b) = false := decide_eq_false (fun q => nomatch q)
theorem key_rl (a : Str) (b : Int) : decide ((Sum.inr a : Key) = Sum.inl b) = false := decide_eq_false (fun q => nomatch q)
def mixKind (prog : Program) (w : World) : PySem.KeyKind prog w Key where
  is := keyIs
  hash := keyH w
  inj := fun v a b ha hb => by
    rcases keyIs_shape ha with ⟨i, t, rfl, rfl⟩ | ⟨x, t, rfl, rfl⟩
    · rcases keyIs_shape hb with ⟨j, u, rfl, e⟩ | ⟨y, u, rfl, e⟩
      · injection e with e1 _; rw [e1]
      · exact nomatch e
    · rcases keyIs_shape hb with ⟨j, u, rfl, e⟩ | ⟨y, u, rfl, e⟩
      · exact nomatch e
      · injection e with e1 _; rw [e1]
  byValue := fun k v h => by
    rcases keyIs_shape h with ⟨i, t, rfl, rfl⟩ | ⟨x, t, rfl, rfl⟩ <;> rfl
  pyHash := fun hv h => by
    rcases keyIs_shape hv with ⟨i, t, rfl, rfl⟩ | ⟨x, t, rfl, rfl⟩
    · exact wpAny_pyHash_int h
    · exact wpAny_pyHash_str h
  eqBool := fun hu hv h => by
    rcases keyIs_shape hu with ⟨i, t, rfl, rfl⟩ | ⟨x, t, rfl, rfl⟩
    · rcases keyIs_shape hv with ⟨j, u, rfl, rfl⟩ | ⟨y, u, rfl, rfl⟩
      · rw [key_ll] at h; exact wpAny_eqBool_int h
      · rw [key_lr] at h; exact SeqAt.EqAt.int_str i t y u _ _ _ _ h
    · rcases keyIs_shape hv with ⟨j, u, rfl, rfl⟩ | ⟨y, u, rfl, rfl⟩
      · rw [key_rl] at h; exact SeqAt.EqAt.str_int x t j u _ _ _ _ h
      · rw [key_rr] at h; exact wpAny_eqBool_str h
  «strs» := fun k x t v h => by
    rcases keyIs_shape h with ⟨i, u, rfl, e⟩ | ⟨y, u, rfl, e⟩
    · exact nomatch e
    · injection e with e1 _
      subst e1
      cases v <;> rfl
end L2
namespace L2
open PySem PySem.Spec PyProof.Rows
/-- a value, without the heap -/
inductive V where
  | non | bl (b : Bool) | int (i : Int) | str (x : Str) | byt (b : Array UInt8) | flt (b : UInt64) | ref (a : Addr) | ty (n : String)
  deriving DecidableEq
def RelV : V → Value → Prop
  | .non, u => u = Value.none
  | .bl b, u => u = Value.bool b
  | .int i, u => ∃ t, u = Value.int i t
  | .str x, u => ∃ t, u = Value.str x t
  | .byt b, u => ∃ t, u = Value.bytes b t
  | .flt b, u => ∃ t, u = Value.float b t
  | .ref a, u => u = Value.ref a
  | .ty n, u => u = Value.type n
abbrev Vals : List V → List Value → Prop := Paired RelV
theorem Vals.length {xs : List V} {us : List Value} (r : Vals xs us) : xs.length = us.length := Paired.length r
theorem Vals.get : ∀ {xs : List V} {us : List Value} {i : Nat} {x : V}, Vals xs us → xs[i]? = some x → ∃ u, us[i]? = some u ∧ RelV x u
  | _, _, _, _, .nil, e => by simp at e
  | _, _, 0, _, .cons r _, e => by simp at e; subst e; exact ⟨_, rfl, r⟩
  | _, _, i + 1, x, .cons _ t, e => by
    obtain ⟨u, h1, h2⟩ := Vals.get (i := i) (x := x) t (by simpa using e)
    exact ⟨u, by simpa using h1, h2⟩
theorem Vals.append : ∀ {xs ys : List V} {us ws : List Value}, Vals xs us → Vals ys ws → Vals (xs ++ ys) (us ++ ws)
  | _, _, _, _, .nil, s => s
  | _, _, _, _, .cons r t, s => .cons r (Vals.append t s)
theorem Vals.take : ∀ {xs : List V} {us : List Value} (n : Nat), Vals xs us → Vals (xs.take n) (us.take n)
  | _, _, 0, _ => .nil
  | _, _, _ + 1, .nil => .nil
  | _, _, n + 1, .cons r t => .cons r (Vals.take n t)
theorem Vals.drop : ∀ {xs : List V} {us : List Value} (n : Nat), Vals xs us → Vals (xs.drop n) (us.drop n)
  | _, _, 0, r => r
  | _, _, _ + 1, .nil => .nil
  | _, _, n + 1, .cons _ t => Vals.drop n t
def RelO : Option V → Option Value → Prop
  | some v, some u => RelV v u
  | none, none => True
  | _, _ => False
def KV {κ : Type} : List (κ × V) → List (κ × Value) → Prop := Paired fun (p : κ × V) (q : κ × Value) => p.1 = q.1 ∧ RelV p.2 q.2
/-- a key of a dict (00_mix): an int or a text -/
def kV : Key → V
  | .inl i => .int i
  | .inr x => .str x
/-- what stands at a tracked address -/
inductive HO where
  /-- a list -/
  | lst (xs : List V)
  /-- a tuple (never changes) -/
  | tup (xs : List V)
  /-- a dict whose keys are ints and texts; one whose keys are tuples of ints and texts (the empty one is both) -/
  | dK (kvs : List (Key × V)) | dT (kvs : List (List Key × V))
  /-- a set of ints: its members, its size -/
  | set (S : Int → Bool) (n : Nat)
  /-- an instance of the class at C, its dict at dx, its attributes -/
  | ins (C dx : Addr) (fs : List (Str × V))
  /-- the dict of the instance at x -/
  | own (x : Addr)
  /-- the dict of an exception -/
  | xd (fs : List (Str × V))
  /-- a bound method, f of x -/
  | met (f x : Addr)
  /-- a range object lo, lo + 1, .. below hi -/
  | rng (lo hi : Int)
  /-- a thing that is known to the object (the script; a dict while a loop walks it): read, never written while it is so -/
  | frz (o : Obj) (u : HO)
  /-- a code object's table -/
  | tbl (ps : Array Value)
  /-- any other thing, by what is true of its one object (a def of one's own: SetO a S n := HO.ext fun h => ..) -/
  | ext (φ : Heap → Prop)
abbrev Hp := Addr → Option HO
def upd (H : Hp) (a : Addr) (o : HO) : Hp := fun b => if b = a then some o else H b
theorem upd_same {H : Hp} {a : Addr} {o : HO} : upd H a o a = some o := by unfold upd; rw [if_pos rfl]
theorem upd_ne {H : Hp} {a b : Addr} {o : HO} (h : b ≠ a) : upd H a o b = H b := by unfold upd; rw [if_neg h]
theorem upd_upd {H : Hp} {a : Addr} {o u : HO} : upd (upd H a o) a u = upd H a u := by
  funext b; unfold upd; split <;> rfl
/-- two objects of different content stand apart -/
theorem ne_of {H : Hp} {a b : Addr} {o u : HO} (h : H a = some o) (h' : H b = some u) (d : o ≠ u) : a ≠ b := by
  intro e; subst e; rw [h] at h'; exact d (Option.some.inj h')
theorem ne_of_none {H : Hp} {a b : Addr} {o : HO} (h : H a = some o) (h' : H b = none) : a ≠ b := by
  intro e; subst e; rw [h] at h'; cases h'
section
variable (P : Program) (w : World)
def ObjOk (H : Hp) (h : Heap) (a : Addr) : HO → Prop
  | .lst xs => xs.length ≤ sizeLine ∧ ∃ (its : List Value) (n : Nat), Vals xs its ∧ h.get? a = some { cls := .type "list", data := .seq its.toArray n }
  | .tup xs => xs.length ≤ sizeLine ∧ ∃ its : List Value, Vals xs its ∧ IsTup h a its.toArray
  | .dK kvs => kvs.length ≤ sizeLine ∧ (a == sysModules) = false ∧ ∃ vs, KV kvs vs ∧ h.DictOf (mixKind P w) a vs
  | .dT kvs => kvs.length ≤ sizeLine ∧ (a == sysModules) = false ∧ ∃ xs : List (List Key × Addr × Value),
      Paired (fun (p : List Key × V) (q : List Key × Addr × Value) => p.1 = q.1 ∧ H q.2.1 = some (.tup (p.1.map kV)) ∧ RelV p.2 q.2.2) kvs xs ∧
      ∃ o es ep, h.get? a = some o ∧ o.ExactDict ∧ o.data = .dict es ep ∧ es.toList = xs.map (entryOfKey (tupleKind (mixKind P w))) ∧ (xs.map (·.1)).Nodup
  | .set S n => h.SetOf (intKind P w) a S n
  | .ins C dx fs => H dx = some (.own a) ∧ fs.length ≤ 1000 ∧ dx ≠ a ∧ h.get? a = some (PySem.W.instObj C dx) ∧
      ∃ mA, h.Ns1 dx mA ∧ (∀ f, RelO (fs.lookup f) (mA f)) ∧ PySem.Within mA (fs.map (·.1))
  | .own _ => ∃ o, h.get? a = some o
  | .xd fs => ∃ mA, h.Ns1 a mA ∧ ∀ f, RelO (fs.lookup f) (mA f)
  | .rng lo hi => ∃ t u v, h.get? a = some { cls := .type "range", data := .fields #[.int lo t, .int hi u, .int 1 v] }
  | .frz o u => h.get? a = some o ∧ ObjOk H h a u
  | .tbl ps => h.get? a = some { cls := .none, data := .fields ps }
  | .met f x => h.get? a = some (PySem.W.methodObj (.ref f) (.ref x))
  | .ext φ => φ h ∧ (∃ o, h.get? a = some o) ∧ ∀ h1 h2 : Heap, φ h1 → (∀ o, h1.get? a = some o → h2.get? a = some o) → φ h2
/-- the abstract heap is held -/
def HOk (H : Hp) (h : Heap) : Prop := ∀ a o, H a = some o → ObjOk P w H h a o
end
section
variable {P : Program} {w : World} {H H' : Hp} {h h' : Heap} {a : Addr} {o : HO}
theorem ObjOk.lt (x : ObjOk P w H h a o) : a < h.objs.size := by
  cases o with
  | lst xs => obtain ⟨_, _, _, _, e⟩ := x; exact Heap.lt_size e
  | tup xs => obtain ⟨_, _, _, p⟩ := x; exact p.lt
  | dK kvs => obtain ⟨_, _, _, _, o, _, _, e, _⟩ := x; exact Heap.lt_size e
  | dT kvs => obtain ⟨_, _, _, _, o, _, _, e, _⟩ := x; exact Heap.lt_size e
  | set S n => obtain ⟨o, _, _, _, e, _⟩ := x; exact Heap.lt_size e
  | ins C dx fs => obtain ⟨_, _, _, e, _⟩ := x; exact Heap.lt_size e
  | own y => obtain ⟨_, e⟩ := x; exact Heap.lt_size e
  | xd fs => obtain ⟨_, ⟨_, _, _, e, _⟩, _⟩ := x; exact Heap.lt_size e
  | rng lo hi => obtain ⟨_, _, _, e⟩ := x; exact Heap.lt_size e
  | frz ob u => obtain ⟨e, _⟩ := x; exact Heap.lt_size e
  | tbl ps => exact Heap.lt_size (show h.get? a = some _ from x)
  | met f y => exact Heap.lt_size (show h.get? a = some _ from x)
  | ext φ => obtain ⟨_, ⟨_, e⟩, _⟩ := x; exact Heap.lt_size e
theorem Paired.mapP {α β : Type} {F G : α → β → Prop} : ∀ {l₁ : List α} {l₂ : List β}, Paired F l₁ l₂ → (∀ a b, F a b → G a b) → Paired G l₁ l₂
  | _, _, .nil, _ => .nil
  | _, _, .cons r t, f => .cons (f _ _ r) (Paired.mapP t f)
theorem Paired.imp' {α β : Type} {F G : α → β → Prop} (f : ∀ a b, F a b → G a b) {l₁ : List α} {l₂ : List β} (r : Paired F l₁ l₂) : Paired G l₁ l₂ := Paired.mapP r f
/-- what an object's description leans on: its own object, its own dict, the tuples -/
theorem ObjOk.stay (x : ObjOk P w H h a o) (k : ∀ b u, (b = a ∨ H b = some (.own a)) → h.get? b = some u → h'.get? b = some u)
    (ho : ∀ b, H b = some (.own a) → H' b = some (.own a)) (ht : ∀ b xs, H b = some (.tup xs) → H' b = some (.tup xs)) : ObjOk P w H' h' a o := by
  induction o with
  | lst xs => obtain ⟨z, its, n, r, e⟩ := x; exact ⟨z, its, n, r, k _ _ (.inl rfl) e⟩
  | tup xs => obtain ⟨z, its, r, ob, e, c⟩ := x; exact ⟨z, its, r, ob, k _ _ (.inl rfl) e, c⟩
  | dK kvs => obtain ⟨z, y, vs, r, ob, es, ep, e, c⟩ := x; exact ⟨z, y, vs, r, ob, es, ep, k _ _ (.inl rfl) e, c⟩
  | dT kvs =>
    obtain ⟨z, y, xs, r, ob, es, ep, e, c⟩ := x
    exact ⟨z, y, xs, Paired.mapP r fun p q z => ⟨z.1, ht _ _ z.2.1, z.2.2⟩, ob, es, ep, k _ _ (.inl rfl) e, c⟩
  | set S n => obtain ⟨ob, es, ep, t, e, c⟩ := x; exact ⟨ob, es, ep, t, k _ _ (.inl rfl) e, c⟩
  | ins C dx fs =>
    obtain ⟨d, z, ne, e, mA, ⟨od, es, ep, e2, c⟩, r⟩ := x
    exact ⟨ho _ d, z, ne, k _ _ (.inl rfl) e, mA, ⟨od, es, ep, k _ _ (.inr d) e2, c⟩, r⟩
  | own y => obtain ⟨ob, e⟩ := x; exact ⟨ob, k _ _ (.inl rfl) e⟩
  | xd fs => obtain ⟨mA, ⟨od, es, ep, e, c⟩, r⟩ := x; exact ⟨mA, ⟨od, es, ep, k _ _ (.inl rfl) e, c⟩, r⟩
  | rng lo hi => obtain ⟨t, u, v, e⟩ := x; exact ⟨t, u, v, k _ _ (.inl rfl) e⟩
  | frz ob u ih => obtain ⟨e, q⟩ := x; exact ⟨k _ _ (.inl rfl) e, ih q⟩
  | tbl ps =>
    have e : h.get? a = some { cls := .none, data := .fields ps } := x
    show h'.get? a = some { cls := .none, data := .fields ps }
    exact k a _ (.inl rfl) e
  | met f y =>
    have e : h.get? a = some (PySem.W.methodObj (.ref f) (.ref y)) := x
    show h'.get? a = some (PySem.W.methodObj (.ref f) (.ref y))
    exact k a _ (.inl rfl) e
  | ext φ => obtain ⟨p, ⟨o, e⟩, st⟩ := x; exact ⟨st _ _ p fun o q => k _ _ (.inl rfl) q, ⟨o, k _ _ (.inl rfl) e⟩, st⟩
theorem HOk.lt (x : HOk P w H h) (e : H a = some o) : a < h.objs.size := (x a o e).lt
theorem HOk.fresh (x : HOk P w H h) (e : h.objs.size ≤ a) : H a = none := by
  cases q : H a with
  | none => rfl
  | some u => exact absurd (Nat.lt_of_lt_of_le (x.lt q) e) (Nat.lt_irrefl _)
/-- every object of the heap is kept -/
theorem HOk.kept (x : HOk P w H h) (k : ∀ b u, h.get? b = some u → h'.get? b = some u) : HOk P w H h' := fun a o e =>
  (x a o e).stay (fun b u _ q => k b u q) (fun _ q => q) fun _ _ q => q
/-- a new object is laid and tracked -/
theorem HOk.laid (x : HOk P w H h) (k : ∀ b u, h.get? b = some u → h'.get? b = some u) (hp : h.objs.size ≤ a) (new : ObjOk P w (upd H a o) h' a o) : HOk P w (upd H a o) h' := fun b u e => by
  have hn := x.fresh hp
  by_cases hb : b = a
  · subst hb; rw [upd_same] at e; cases e; exact new
  · rw [upd_ne hb] at e
    exact (x b u e).stay (fun c v _ q => k c v q) (fun c q => by rw [upd_ne (ne_of_none q hn)]; exact q) fun c xs q => by rw [upd_ne (ne_of_none q hn)]; exact q
end
/-- what may be read as u: it is u, or a known u -/
def Rd (H : Hp) (a : Addr) (u : HO) : Prop := H a = some u ∨ ∃ o, H a = some (.frz o u)
theorem Rd.ok {P : Program} {w : World} {H : Hp} {h : Heap} {a : Addr} {u : HO} (r : Rd H a u) (x : HOk P w H h) : ObjOk P w H h a u := by
  rcases r with r | ⟨o, r⟩
  · exact x a u r
  · obtain ⟨_, q⟩ := x a _ r
    exact q
/-- what may be written -/
def Mut : Option HO → Prop
  | some (.lst _) => True
  | some (.dK _) => True
  | some (.dT _) => True
  | some (.set _ _) => True
  | some (.ins _ _ _) => True
  | some (.ext _) => True
  | _ => False
section
variable {P : Program} {w : World} {H : Hp} {h h' : Heap} {x e : Addr} {o' : HO}
/-- the object at e is changed: x itself, or the dict of the instance x -/
theorem HOk.write (ok : HOk P w H h) (mu : Mut (H x)) (he : e = x ∨ H e = some (.own x)) (k : ∀ b u, b ≠ e → h.get? b = some u → h'.get? b = some u) (heo : ∃ u, h'.get? e = some u)
    (new : ObjOk P w (upd H x o') h' x o') : HOk P w (upd H x o') h' := fun b u q => by
  have nown : ∀ c y, H c = some (.own y) → c ≠ x := fun c y r z => by subst z; rw [r] at mu; exact mu
  have ntup : ∀ c xs, H c = some (.tup xs) → c ≠ x := fun c xs r z => by subst z; rw [r] at mu; exact mu
  by_cases hb : b = x
  · subst hb; rw [upd_same] at q; cases q; exact new
  · rw [upd_ne hb] at q
    by_cases hbe : b = e
    · have q' : H b = some (.own x) := by
        rcases he with z | z
        · exact absurd (hbe.trans z) hb
        · rw [hbe]; exact z
      rw [q] at q'; cases q'
      obtain ⟨v, hv⟩ := heo
      exact ⟨v, by rw [hbe]; exact hv⟩
    · refine (ok b u q).stay (fun c v hc r => k c v ?_ r) (fun c r => by rw [upd_ne (nown c b r)]; exact r) fun c xs r => by rw [upd_ne (ntup c xs r)]; exact r
      rcases hc with rfl | hc
      · exact hbe
      · rintro rfl
        rcases he with z | z
        · exact nown c b hc z
        · rw [hc] at z; cases z; exact hb rfl
end
structure Un (fs ex : List Addr) (H H' : Hp) (h h' : Heap) : Prop where
  keep : ∀ b o, h.get? b = some o → H b = none → b ∉ fs → b ∉ ex → h'.get? b = some o
  slot : ∀ b o, h.get? b = some o → H b = none → b ∈ fs → b ∉ ex → ∃ sl, h'.get? b = some { o with slots := sl }
  free : ∀ b o, h.get? b = some o → H b = none → b ∉ ex → H' b = none
  there : ∀ b o, h.get? b = some o → b ∉ ex → ∃ o', h'.get? b = some o'
  tups : ∀ b xs, H b = some (.tup xs) → H' b = some (.tup xs)
  frzs : ∀ b o u, H b = some (.frz o u) → H' b = some (.frz o u)
  tbls : ∀ b ps, H b = some (.tbl ps) → ∃ more, H' b = some (.tbl (ps ++ more))
section
variable {fs fs' ex ex' : List Addr} {H H1 H2 : Hp} {h h1 h2 h' : Heap} {a x e : Addr} {o : HO}
theorem Un.any (u : Un fs ex H H1 h h1) {b : Addr} {ob : Obj} (q : h.get? b = some ob) (n : H b = none) (hx : b ∉ ex) : ∃ sl, h1.get? b = some { ob with slots := sl } := by
  by_cases hb : b ∈ fs
  · exact u.slot b ob q n hb hx
  · exact ⟨ob.slots, u.keep b ob q n hb hx⟩
theorem Un.kept (k : ∀ b u, h.get? b = some u → h'.get? b = some u) : Un fs ex H H h h' :=
  ⟨fun b ob q _ _ _ => k b ob q, fun b ob q _ _ _ => ⟨ob.slots, k b ob q⟩, fun _ _ _ n _ => n, fun b ob q _ => ⟨ob, k b ob q⟩, fun _ _ q => q, fun _ _ _ q => q, fun _ ps q => ⟨#[], by rw [q]; simp⟩⟩
theorem Un.refl : Un fs ex H H h h := Un.kept fun _ _ q => q
theorem Un.laid (k : ∀ b u, h.get? b = some u → h'.get? b = some u) (hp : h.objs.size ≤ a) (hn : H a = none) : Un fs ex H (upd H a o) h h' where
  keep := fun b u q _ _ _ => k b u q
  slot := fun b u q _ _ _ => ⟨u.slots, k b u q⟩
  free := fun b u q n _ => by rw [upd_ne (Nat.ne_of_lt (Nat.lt_of_lt_of_le (Heap.lt_size q) hp))]; exact n
  there := fun b u q _ => ⟨u, k b u q⟩
  tups := fun b xs q => by rw [upd_ne (ne_of_none q hn)]; exact q
  frzs := fun b u xs q => by rw [upd_ne (ne_of_none q hn)]; exact q
  tbls := fun b ps q => ⟨#[], by rw [upd_ne (ne_of_none q hn), q]; simp⟩
theorem Un.write (mu : Mut (H x)) (he : e = x ∨ H e = some (.own x)) (k : ∀ b u, b ≠ e → h.get? b = some u → h'.get? b = some u) (heo : ∃ u, h'.get? e = some u) : Un fs ex H (upd H x o) h h' := by
  have hx : ∀ b, H b = none → b ≠ x := fun b n z => by subst z; rw [n] at mu; exact mu
  have hb : ∀ b, H b = none → b ≠ e := fun b n z => by
    subst z
    rcases he with r | r
    · exact hx b n r
    · rw [n] at r; cases r
  have hm : ∀ b u, H b = some u → ¬ Mut (some u) → b ≠ x := fun b u q nm z => by subst z; rw [q] at mu; exact nm mu
  refine ⟨fun b u q n _ _ => k b u (hb b n) q, fun b u q n _ _ => ⟨u.slots, k b u (hb b n) q⟩, fun b u q n _ => by rw [upd_ne (hx b n)]; exact n, fun b u q _ => ?_,
    fun b xs q => by rw [upd_ne (hm b _ q fun z => z)]; exact q, fun b u xs q => by rw [upd_ne (hm b _ q fun z => z)]; exact q, fun b ps q => ⟨#[], by rw [upd_ne (hm b _ q fun z => z), q]; simp⟩⟩
  by_cases hbe : b = e
  · subst hbe; exact heo
  · exact ⟨u, k b u hbe q⟩
end
def trk (h : Heap) (H : Hp) : List Addr := (List.range h.objs.size).filter fun a => (H a).isSome
def hidT (h : Heap) (H : Hp) : Heap := PySem.W.hideAll h (trk h H)
theorem hidT_size (h : Heap) (H : Hp) : (hidT h H).objs.size = h.objs.size := PySem.W.hideAll_size _ _
theorem hidT_get {h : Heap} {H : Hp} {b : Addr} {o : Obj} (e : h.get? b = some o) (n : H b = none) : (hidT h H).get? b = some o :=
  PySem.W.hideAll_get _ e fun hm => by
    have q : (H b).isSome = true := (List.mem_filter.mp hm).2
    rw [n] at q; simp at q
theorem of_hidT {h : Heap} {H : Hp} {b : Addr} {o : Obj} (e : (hidT h H).get? b = some o) : h.get? b = some o ∧ H b = none := by
  have e' : h.get? b = some o := PySem.W.of_hideAll (trk h H) e
  refine ⟨e', ?_⟩
  cases q : H b with
  | none => rfl
  | some x =>
    have hm : b ∈ trk h H := List.mem_filter.mpr ⟨List.mem_range.mpr (Heap.lt_size e'), by simp [q]⟩
    have z : (hidT h H).get? b = none := PySem.W.hideAll_none (trk h H) hm
    rw [z] at e; cases e
end L2
namespace L2
open PySem PySem.Spec PyProof.Rows
/-- the module's facts, over the base: the heap at the law's entry without what is tracked there -/
structure Mod (K : PySem.W.Frag) (mg : Str → Option Value) (base : Heap) : Prop where
  kin : K.In base
  glob : base.Ns mainGlobals mg
  blt : ∃ mb, base.Ns builtinsNs mb ∧ ∀ x : Str, x ≠ "__name__" → mb x = bootBuiltins x
  nolimit : base.NoLimit
/-- the context: a def's body (or a comprehension's block) running. base: fixed through the whole law; s₀, H₀: the entry; outer: the frames whose slots others may change (a def's callers); stack: all frames that run;
   ex: iterators that were made ahead of the entry and are walked here (a comprehension's); fn: the names whose cells were made at the entry (a def: all; a comprehension's block: its own); calm: not within an except suite; pn: pins that every state bears; xe: what is wanted of an exception that leaves the code -/
structure Cx where
  prog : Program
  w : World
  K : PySem.W.Frag
  mg : Str → Option Value
  base : Heap
  A : Around
  N : List Str
  s₀ : Shared
  H₀ : Hp
  env : Env
  outer : List Env
  stack : List Env
  ex : List Addr
  fn : Str → Bool
  calm : Bool
  pn : List (Addr × Obj)
  xe : Value → Shared → Prop
/-- the callers' frames -/
def frs (l : List Env) : List Addr := l.filterMap (·.frame)
abbrev Cx.fs (X : Cx) : List Addr := frs X.outer
def Vis (sc : Scope) (x : Str) : Prop := sc.names.lookup x = some .local ∨ sc.names.lookup x = some .cell ∨ sc.names.lookup x = some .free
def Loc (sc : Scope) (x : Str) : Prop := sc.names.lookup x = some .local ∨ sc.names.lookup x = some .cell
def Look (env : Env) (h : Heap) (m : Str → Option Value) (x : Str) (u : Value) : Prop :=
  (env.kindOf x = some .local ∧ m x = some u) ∨ ((env.kindOf x = some .cell ∨ env.kindOf x = some .free) ∧ ∃ c, env.cells.lookup x = some c ∧ h.IsCell c (some u))
structure Cx.Ok (X : Cx) : Prop where
  mod : Mod X.K X.mg X.base
  kind : X.env.scope.kind = .function
  glob : X.env.globals = mainGlobals
  blt : X.env.builtins = builtinsNs
  above : X.s₀.heap.objs.size ≤ X.env.locals
  inj : ∀ x y c, X.env.cells.lookup x = some c → X.env.cells.lookup y = some c → x = y
  has : ∀ x, (X.env.kindOf x = some .cell ∨ X.env.kindOf x = some .free) → ∃ c, X.env.cells.lookup x = some c
  cab : ∀ x c, X.fn x = true → X.env.cells.lookup x = some c → X.s₀.heap.objs.size ≤ c
  hd : X.calm = true → X.A.handled = none
  frames : X.A.frames = some X.stack
  stk : X.stack = X.outer ∨ (X.stack = X.env :: X.outer ∧ X.env.frame = some X.env.locals)
  exf : ∀ b ∈ X.ex, b ≠ X.env.locals ∧ ∀ x c, X.env.cells.lookup x = some c → c ≠ b
  bs : ∀ b o, X.base.get? b = some o → X.s₀.heap.get? b = some o ∧ X.H₀ b = none
  bsz : X.base.objs.size ≤ X.s₀.heap.objs.size
  noex : ∀ b o, X.base.get? b = some o → b ∉ X.ex
  exfs : ∀ b ∈ X.ex, b ∉ X.fs
  funs : X.s₀.heap.FunFrames X.base X.outer
  frf : ∀ b ∈ X.fs, X.H₀ b = none
structure Inv (X : Cx) (pins : List (Addr × Obj)) (σ : List (Option V)) (H : Hp) (s : Shared) : Prop where
  ok : X.Ok
  os : s.os = X.s₀.os
  bare : AllBare s.gens
  base : Un X.fs X.ex X.H₀ H X.s₀.heap s.heap
  loc : ∃ m, s.heap.Ns X.env.locals m ∧ ∀ (i : Nat) (x : Str) (v : V), X.N[i]? = some x → σ[i]? = some (some v) → Vis X.env.scope x → ∃ u, RelV v u ∧ Look X.env s.heap m x u
  cell : ∀ x c, X.env.cells.lookup x = some c → ∃ v, s.heap.IsCell c v
  free : H X.env.locals = none
  freeC : ∀ x c, X.env.cells.lookup x = some c → H c = none
  pin : ∀ p ∈ X.pn ++ pins, s.heap.get? p.1 = some p.2 ∧ H p.1 = none ∧ p.1 ≠ X.env.locals ∧ p.1 ∉ X.fs ∧ ∀ v, p.2.data ≠ .cell v
  hok : HOk X.prog X.w H s.heap
  len : σ.length = X.N.length
section
variable {X : Cx} {pins : List (Addr × Obj)} {σ : List (Option V)} {H H' : Hp} {s : Shared} {h' : Heap}
theorem Cx.Ok.nofr (ok : X.Ok) {b : Addr} {o : Obj} (e : X.base.get? b = some o) : b ∉ X.fs := fun hb => by
  have := (ok.funs.mem hb).1
  rw [e] at this; cases this
theorem Inv.bs (I : Inv X pins σ H s) : ∀ b o, X.base.get? b = some o → s.heap.get? b = some o ∧ H b = none := fun b o e =>
  ⟨I.base.keep b o (I.ok.bs b o e).1 (I.ok.bs b o e).2 (I.ok.nofr e) (I.ok.noex b o e), I.base.free b o (I.ok.bs b o e).1 (I.ok.bs b o e).2 (I.ok.noex b o e)⟩
theorem Inv.bk (I : Inv X pins σ H s) : ∀ b o, X.base.get? b = some o → s.heap.get? b = some o := fun b o e => (I.bs b o e).1
theorem Inv.mod (I : Inv X pins σ H s) : Mod X.K X.mg X.base := I.ok.mod
theorem Inv.kIn (I : Inv X pins σ H s) : X.K.In s.heap := I.ok.mod.kin.keeps I.bk
theorem Inv.lt (I : Inv X pins σ H s) : X.env.locals < s.heap.objs.size := let ⟨_, hn, _⟩ := I.loc; hn.lt
theorem Inv.sz (I : Inv X pins σ H s) : X.s₀.heap.objs.size ≤ s.heap.objs.size := Nat.le_trans I.ok.above (Nat.le_of_lt I.lt)
theorem Inv.nofs (I : Inv X pins σ H s) {a : Addr} (h : s.heap.objs.size ≤ a) : a ∉ X.fs := fun hb => by
  obtain ⟨_, o, ho, _⟩ := I.ok.funs.mem hb
  exact absurd (Nat.lt_of_lt_of_le (Heap.lt_size ho) (Nat.le_trans I.sz h)) (Nat.lt_irrefl _)
theorem Inv.cne (I : Inv X pins σ H s) : ∀ x c, X.env.cells.lookup x = some c → c ≠ X.env.locals := fun x c e z => by
  obtain ⟨v, o, ho, hd⟩ := I.cell x c e
  obtain ⟨m, ⟨o', es, ep, ho', hd', _⟩, _⟩ := I.loc
  rw [z, ho'] at ho; cases ho; rw [hd'] at hd; cases hd
theorem Inv.funs (I : Inv X pins σ H s) : s.heap.FunFrames X.base X.outer := by
  have all : ∀ (l : List Env), (∀ b ∈ frs l, b ∈ X.fs) → X.s₀.heap.FunFrames X.base l → s.heap.FunFrames X.base l := by
    intro l
    induction l with
    | nil => intro _ _; trivial
    | cons env r ih =>
      intro hs hl
      obtain ⟨hk, ⟨L, o, hf, hn, ho, hd⟩, hr⟩ := hl
      have hL : L ∈ X.fs := hs L (by unfold frs; rw [List.filterMap_cons, hf]; exact List.mem_cons_self)
      obtain ⟨sl, e⟩ := I.base.slot L o ho (I.ok.frf L hL) hL fun z => I.ok.exfs L z hL
      exact ⟨hk, ⟨L, _, hf, hn, e, hd⟩, ih (fun b hb => hs b (by unfold frs; rw [List.filterMap_cons, hf]; exact List.mem_cons_of_mem _ hb)) hr⟩
  exact all X.outer (fun _ hb => hb) I.ok.funs
/-- the frames that run, for a call -/
theorem Inv.stack (I : Inv X pins σ H s) : s.heap.FunFrames X.base X.stack := by
  rcases I.ok.stk with e | ⟨e, hf⟩
  · rw [e]; exact I.funs
  · rw [e]
    obtain ⟨m, hn, _⟩ := I.loc
    refine .cons (by rw [I.ok.kind]; decide) hf hn ?_ I.funs
    exact Heap.get?_none_of_le (Nat.le_trans I.ok.bsz I.ok.above)
theorem Inv.stkSub (I : Inv X pins σ H s) : ∀ b ∈ frs X.stack, b ∈ X.env.locals :: X.fs := fun b hb => by
  rcases I.ok.stk with e | ⟨e, hf⟩
  · rw [e] at hb; exact List.mem_cons_of_mem _ hb
  · rw [e] at hb
    unfold frs at hb
    rw [List.filterMap_cons, hf] at hb
    exact hb
theorem Inv.stkFree (I : Inv X pins σ H s) : ∀ b ∈ frs X.stack, H b = none := fun b hb => by
  rcases List.mem_cons.mp (I.stkSub b hb) with e | hb
  · rw [e]; exact I.free
  · obtain ⟨_, o, ho, _⟩ := I.ok.funs.mem hb
    exact I.base.free b o ho (I.ok.frf b hb) fun z => I.ok.exfs b z hb
/-- THE STEP: the untracked objects but the frame and the records at ch are kept (the callers' frames up to slots), the frame's map is kept, the new abstract heap is held -/
theorem Inv.step {g' : Array GenState} {t' : Nat} {d' : Drawn} {ch : List Addr} (I : Inv X pins σ H s)
    (hch : ∀ b ∈ ch, (b ∈ X.ex ∨ X.s₀.heap.objs.size ≤ b) ∧ b ≠ X.env.locals ∧ (∀ x c, X.env.cells.lookup x = some c → c ≠ b) ∧ ∀ p ∈ X.pn ++ pins, p.1 ≠ b)
    (keep : ∀ b o, b ≠ X.env.locals → b ∉ X.fs → b ∉ ch → s.heap.get? b = some o → H b = none → h'.get? b = some o)
    (slot : ∀ b o, b ≠ X.env.locals → b ∈ X.fs → b ∉ ch → s.heap.get? b = some o → H b = none → ∃ sl, h'.get? b = some { o with slots := sl }) (free : ∀ b o, b ∉ ch → s.heap.get? b = some o → H b = none → H' b = none)
    (there : ∀ b o, b ∉ ch → s.heap.get? b = some o → ∃ o', h'.get? b = some o')
    (tups : ∀ b xs, H b = some (.tup xs) → H' b = some (.tup xs)) (frzs : ∀ b o u, H b = some (.frz o u) → H' b = some (.frz o u)) (tbls : ∀ b ps, H b = some (.tbl ps) → ∃ more, H' b = some (.tbl (ps ++ more)))
    (ns : ∀ m, s.heap.Ns X.env.locals m → h'.Ns X.env.locals m) (hok : HOk X.prog X.w H' h') (hg : AllBare g') :
    Inv X pins σ H' { s with heap := h', gens := g', drawn := d', toks := t' } := by
  have neL : ∀ b o, X.s₀.heap.get? b = some o → b ≠ X.env.locals := fun b o e => Nat.ne_of_lt (Nat.lt_of_lt_of_le (Heap.lt_size e) I.ok.above)
  have neC : ∀ b o, X.s₀.heap.get? b = some o → b ∉ X.ex → b ∉ ch := fun b o e hx hb => by
    rcases (hch b hb).1 with z | z
    · exact hx z
    · exact absurd (Nat.lt_of_lt_of_le (Heap.lt_size e) z) (Nat.lt_irrefl _)
  have cellK : ∀ x c, X.env.cells.lookup x = some c → ∀ v, s.heap.IsCell c v → h'.IsCell c v := fun x c e v ⟨o, ho, hd⟩ => by
    have nch : c ∉ ch := fun z => (hch c z).2.2.1 x c e rfl
    by_cases hc : c ∈ X.fs
    · obtain ⟨sl, q⟩ := slot c o (I.cne x c e) hc nch ho (I.freeC x c e)
      exact ⟨_, q, hd⟩
    · exact ⟨o, keep c o (I.cne x c e) hc nch ho (I.freeC x c e), hd⟩
  refine ⟨I.ok, I.os, hg, ⟨fun b o e n hb hx => ?_, fun b o e n hb hx => ?_, fun b o e n hx => ?_, fun b o e hx => ?_, fun b xs e => tups b xs (I.base.tups b xs e), fun b o xs e => frzs b o xs (I.base.frzs b o xs e), fun b ps e => ?_⟩, ?_, fun x c e => ?_, ?_, fun x c e => ?_, fun p hp => ?_, hok, I.len⟩
  · exact keep b o (neL b o e) hb (neC b o e hx) (I.base.keep b o e n hb hx) (I.base.free b o e n hx)
  · obtain ⟨sl, e1⟩ := I.base.slot b o e n hb hx
    obtain ⟨sl', e2⟩ := slot b _ (neL b o e) hb (neC b o e hx) e1 (I.base.free b o e n hx)
    exact ⟨sl', e2⟩
  · obtain ⟨o', e1⟩ := I.base.there b o e hx
    exact free b o' (neC b o e hx) e1 (I.base.free b o e n hx)
  · obtain ⟨o', e1⟩ := I.base.there b o e hx
    exact there b o' (neC b o e hx) e1
  · obtain ⟨m1, e1⟩ := I.base.tbls b ps e
    obtain ⟨m2, e2⟩ := tbls b _ e1
    exact ⟨m1 ++ m2, by rw [e2, Array.append_assoc]⟩
  · obtain ⟨m, hn, hl⟩ := I.loc
    refine ⟨m, ns m hn, fun i x v e1 e2 e3 => ?_⟩
    obtain ⟨u, r, l⟩ := hl i x v e1 e2 e3
    refine ⟨u, r, ?_⟩
    rcases l with l | ⟨k, c, e, z⟩
    · exact .inl l
    · exact .inr ⟨k, c, e, cellK x c e _ z⟩
  · obtain ⟨v, z⟩ := I.cell x c e
    exact ⟨v, cellK x c e v z⟩
  · obtain ⟨m, ⟨o, _, _, ho, _⟩, _⟩ := I.loc
    exact free _ o (fun z => (hch _ z).2.1 rfl) ho I.free
  · obtain ⟨v, o, ho, hd⟩ := I.cell x c e
    exact free c o (fun z => (hch c z).2.2.1 x c e rfl) ho (I.freeC x c e)
  · obtain ⟨e, n, ne, nf, d⟩ := I.pin p hp
    have nch : p.1 ∉ ch := fun z => (hch p.1 z).2.2.2 p hp rfl
    exact ⟨keep p.1 p.2 ne nf nch e n, free p.1 p.2 nch e n, ne, nf, d⟩
/-- .. where the frame's own object is kept too -/
theorem Inv.un {t' : Nat} (I : Inv X pins σ H s) (u : Un X.fs [] H H' s.heap h') (hok : HOk X.prog X.w H' h') : Inv X pins σ H' { s with heap := h', toks := t' } := by
  obtain ⟨m, ⟨o, es, ep, ho, r⟩, _⟩ := id I.loc
  obtain ⟨sl, hL⟩ := u.any ho I.free (by simp)
  exact I.step (g' := s.gens) (d' := s.drawn) (ch := []) (fun _ z => nomatch z) (fun b o _ hb _ e n => u.keep b o e n hb (by simp)) (fun b o _ hb _ e n => u.slot b o e n hb (by simp)) (fun b o _ e n => u.free b o e n (by simp)) (fun b o _ e => u.there b o e (by simp)) u.tups u.frzs u.tbls (fun m' hm => by
    obtain ⟨o', es', ep', ho', r'⟩ := hm
    rw [ho] at ho'; cases ho'
    exact ⟨_, es', ep', hL, r'⟩) hok I.bare
/-- behind a call (or a comprehension's block): the slots of this frame may have changed too, the records at ch may have turned -/
theorem Inv.call {g' : Array GenState} {t' : Nat} {d' : Drawn} {ch : List Addr} (I : Inv X pins σ H s) (u : Un (frs X.stack) ch H H' s.heap h') (hok : HOk X.prog X.w H' h') (hg : AllBare g')
    (hch : ∀ b ∈ ch, (b ∈ X.ex ∨ X.s₀.heap.objs.size ≤ b) ∧ b ≠ X.env.locals ∧ (∀ x c, X.env.cells.lookup x = some c → c ≠ b) ∧ ∀ p ∈ X.pn ++ pins, p.1 ≠ b) :
    Inv X pins σ H' { s with heap := h', gens := g', drawn := d', toks := t' } := by
  obtain ⟨m, ⟨o, es, ep, ho, r⟩, _⟩ := id I.loc
  obtain ⟨sl, hL⟩ := u.any ho I.free fun z => (hch _ z).2.1 rfl
  exact I.step (ch := ch) hch (fun b o hL hb hc e n => u.keep b o e n (fun z => (List.mem_cons.mp (I.stkSub b z)).elim hL hb) hc) (fun b o _ _ hc e n => u.any e n hc) (fun b o hc e n => u.free b o e n hc) (fun b o hc e => u.there b o e hc) u.tups u.frzs u.tbls (fun m' hm => by
    obtain ⟨o', es', ep', ho', r'⟩ := hm
    rw [ho] at ho'; cases ho'
    exact ⟨_, es', ep', hL, r'⟩) hok hg
/-- an untracked record of ours (an iterator) has turned -/
theorem Inv.turned {t' : Nat} {it : Addr} (I : Inv X pins σ H s) (k : ∀ b o, b ≠ it → s.heap.get? b = some o → h'.get? b = some o) (hn : H it = none) (hL : it ≠ X.env.locals)
    (h1 : it ∈ X.ex ∨ X.s₀.heap.objs.size ≤ it) (h2 : ∀ x c, X.env.cells.lookup x = some c → c ≠ it) (h3 : ∀ p ∈ X.pn ++ pins, p.1 ≠ it) : Inv X pins σ H { s with heap := h', toks := t' } := by
  have nit : ∀ b u, H b = some u → b ≠ it := fun b u e z => by rw [z, hn] at e; cases e
  refine I.step (g' := s.gens) (d' := s.drawn) (ch := [it]) (fun b hb => ?_) (fun b o _ _ hc e _ => k b o (fun z => hc (by simp [z])) e) (fun b o _ _ hc e _ => ⟨o.slots, k b o (fun z => hc (by simp [z])) e⟩) (fun _ _ _ _ n => n)
    (fun b o hc e => ⟨o, k b o (fun z => hc (by simp [z])) e⟩) (fun _ _ e => e) (fun _ _ _ e => e) (fun b ps e => ⟨#[], by rw [e]; simp⟩) (fun m hm => ?_) (fun b u e => ?_) I.bare
  · have e : b = it := by simpa using hb
    subst e
    exact ⟨h1, hL, h2, h3⟩
  · obtain ⟨o, es, ep, ho, r⟩ := hm
    exact ⟨o, es, ep, k _ o (Ne.symm hL) ho, r⟩
  · refine (I.hok b u e).stay (fun c v hc q => k c v ?_ q) (fun _ q => q) fun _ _ q => q
    rcases hc with z | z
    · rw [z]; exact nit b u e
    · exact nit c _ z
theorem Inv.tok (I : Inv X pins σ H s) (t : Nat) : Inv X pins σ H { s with toks := t } := I.un (h' := s.heap) (t' := t) Un.refl I.hok
/-- all objects kept -/
theorem Inv.kept {t' : Nat} (I : Inv X pins σ H s) (k : ∀ b u, s.heap.get? b = some u → h'.get? b = some u) : Inv X pins σ H { s with heap := h', toks := t' } := I.un (Un.kept k) (I.hok.kept k)
/-- a new object laid and tracked -/
theorem Inv.laid {a : Addr} {o : HO} {t' : Nat} (I : Inv X pins σ H s) (k : ∀ b u, s.heap.get? b = some u → h'.get? b = some u) (hp : s.heap.objs.size ≤ a) (new : ObjOk X.prog X.w (upd H a o) h' a o) :
    Inv X pins σ (upd H a o) { s with heap := h', toks := t' } := I.un (Un.laid k hp (I.hok.fresh hp)) (I.hok.laid k hp new)
/-- an object written -/
theorem Inv.write {x e : Addr} {o : HO} {t' : Nat} (I : Inv X pins σ H s) (mu : Mut (H x)) (he : e = x ∨ H e = some (.own x)) (k : ∀ b u, b ≠ e → s.heap.get? b = some u → h'.get? b = some u) (heo : ∃ u, h'.get? e = some u)
    (new : ObjOk X.prog X.w (upd H x o) h' x o) : Inv X pins σ (upd H x o) { s with heap := h', toks := t' } := I.un (Un.write mu he k heo) (I.hok.write mu he k heo new)
/-- forgetting slots, pins -/
theorem Inv.weak {σ' : List (Option V)} (I : Inv X pins σ H s) (hl : σ'.length = σ.length) (w : ∀ (i : Nat) v, σ'[i]? = some (some v) → σ[i]? = some (some v)) : Inv X pins σ' H s :=
  ⟨I.ok, I.os, I.bare, I.base, let ⟨m, hn, hl'⟩ := I.loc; ⟨m, hn, fun i x v e1 e2 e3 => hl' i x v e1 (w i v e2) e3⟩, I.cell, I.free, I.freeC, I.pin, I.hok, hl.trans I.len⟩
theorem Inv.pins_of {pins' : List (Addr × Obj)} (I : Inv X pins σ H s) (h : ∀ p ∈ pins', s.heap.get? p.1 = some p.2 ∧ H p.1 = none ∧ p.1 ≠ X.env.locals ∧ p.1 ∉ X.fs ∧ ∀ v, p.2.data ≠ .cell v) : Inv X pins' σ H s :=
  ⟨I.ok, I.os, I.bare, I.base, I.loc, I.cell, I.free, I.freeC, fun p hp => (List.mem_append.mp hp).elim (fun z => I.pin p (List.mem_append_left _ z)) (h p), I.hok, I.len⟩
theorem nodup_ix {N : List Str} (hN : N.Nodup) {i j : Nat} {x : Str} (a : N[i]? = some x) (b : N[j]? = some x) : i = j := by
  obtain ⟨h1, e1⟩ := List.getElem?_eq_some_iff.mp a
  obtain ⟨h2, e2⟩ := List.getElem?_eq_some_iff.mp b
  exact (List.getElem_inj hN).mp (e1.trans e2.symm)
/-- a name is stored; what changed -/
theorem store_ok2 {M : Model} {A : Around} {E : Value → Shared → Prop} {i : Nat} {x : Str} {v : V} {u : Value} {Q : Unit → Shared → Prop} (I : Inv X pins σ H s) (hN : X.N.Nodup) (hi : X.N[i]? = some x) (hx : Loc X.env.scope x) (r : RelV v u)
    (h : ∀ s', Inv X pins (σ.set i (some v)) H s' → (∃ a, Heap.SameBut a s.heap s'.heap ∧ (a = X.env.locals ∨ X.env.cells.lookup x = some a)) → Q () s') (hf : X.fn x = true ∨ X.env.scope.names.lookup x = some .local := by first | exact .inl rfl | exact .inr rfl | assumption) : wpAny M A (storeName X.env x u) Q E s := by
  obtain ⟨m, hn, hl⟩ := id I.loc
  have hcls : (X.env.scope.kind == .class || (X.env.scope.kind == .module && X.env.locals != X.env.globals)) = false := by rw [I.ok.kind]; rfl
  have hiσ : i < σ.length := by rw [I.len]; exact (List.getElem?_eq_some_iff.mp hi).1
  have cne := I.cne
  have tracked : ∀ {a : Addr} {h' : Heap}, (∃ o, s.heap.get? a = some o ∧ H a = none) → Heap.SameBut a s.heap h' → HOk X.prog X.w H h' := fun {a h'} ha hs b ob e => by
    obtain ⟨_, _, hfree⟩ := ha
    refine (I.hok b ob e).stay (fun c w' hc q => (hs.2 c ?_).trans q) (fun _ q => q) fun _ _ q => q
    rintro rfl
    rcases hc with rfl | hc
    · rw [hfree] at e; cases e
    · rw [hfree] at hc; cases hc
  rcases hx with hk | hk
  · refine wpAny_storeName_local hk hn (fun h' hn' hs => ?_) hcls
    obtain ⟨oL, _, _, hoL, _⟩ := id hn
    refine h _ ⟨I.ok, I.os, I.bare, ⟨fun b o e n hb hx => ?_, fun b o e n hb hx => ?_, I.base.free, fun b o e hx => ?_, I.base.tups, I.base.frzs, I.base.tbls⟩, ⟨_, hn', fun j y v' e1 e2 e3 => ?_⟩, fun y c e => ?_, I.free, I.freeC, fun p hp => ?_, tracked ⟨oL, hoL, I.free⟩ hs, by simpa using I.len⟩ ⟨_, hs, .inl rfl⟩
    · exact (hs.2 b (Nat.ne_of_lt (Nat.lt_of_lt_of_le (Heap.lt_size e) I.ok.above))).trans (I.base.keep b o e n hb hx)
    · obtain ⟨sl, e1⟩ := I.base.slot b o e n hb hx
      exact ⟨sl, (hs.2 b (Nat.ne_of_lt (Nat.lt_of_lt_of_le (Heap.lt_size e) I.ok.above))).trans e1⟩
    · obtain ⟨o', e1⟩ := I.base.there b o e hx
      exact ⟨o', (hs.2 b (Nat.ne_of_lt (Nat.lt_of_lt_of_le (Heap.lt_size e) I.ok.above))).trans e1⟩
    · by_cases hj : j = i
      · subst hj
        rw [hi] at e1; cases e1
        rw [List.getElem?_set_self hiσ] at e2
        cases e2
        exact ⟨u, r, .inl ⟨hk, by simp⟩⟩
      · rw [List.getElem?_set_ne (Ne.symm hj)] at e2
        obtain ⟨u', r', q⟩ := hl j y v' e1 e2 e3
        refine ⟨u', r', ?_⟩
        rcases q with ⟨k, e⟩ | ⟨k, c, e, z⟩
        · refine .inl ⟨k, ?_⟩
          have : y ≠ x := fun e => hj (nodup_ix hN e1 (e ▸ hi))
          simp [this, e]
        · exact .inr ⟨k, c, e, z.sameBut hs (cne y c e)⟩
    · obtain ⟨w', z⟩ := I.cell y c e
      exact ⟨w', z.sameBut hs (cne y c e)⟩
    · obtain ⟨e, n, ne, nf, d⟩ := I.pin p hp
      exact ⟨(hs.2 p.1 ne).trans e, n, ne, nf, d⟩
  · have hfn : X.fn x = true := by
      rcases hf with z | z
      · exact z
      · rw [z] at hk; cases hk
    obtain ⟨c, hc⟩ := I.ok.has x (.inl hk)
    obtain ⟨w', z⟩ := I.cell x c hc
    refine wpAny_storeName_cell I.ok.kind hk hc z (fun h' hc' hs => ?_)
    obtain ⟨oc, hoc, hocd⟩ := id z
    refine h { s with heap := h' } ⟨I.ok, I.os, I.bare, ⟨fun b o e n hb hx => ?_, fun b o e n hb hx => ?_, I.base.free, fun b o e hx => ?_, I.base.tups, I.base.frzs, I.base.tbls⟩, ⟨m, hn.sameBut hs (Ne.symm (cne x c hc)), fun j y v' e1 e2 e3 => ?_⟩, fun y c' e => ?_, I.free, I.freeC, fun p hp => ?_, tracked ⟨oc, hoc, I.freeC x c hc⟩ hs, by simpa using I.len⟩ ⟨c, hs, .inr hc⟩
    · exact (hs.2 b (Nat.ne_of_lt (Nat.lt_of_lt_of_le (Heap.lt_size e) (I.ok.cab x c hfn hc)))).trans (I.base.keep b o e n hb hx)
    · obtain ⟨sl, e1⟩ := I.base.slot b o e n hb hx
      exact ⟨sl, (hs.2 b (Nat.ne_of_lt (Nat.lt_of_lt_of_le (Heap.lt_size e) (I.ok.cab x c hfn hc)))).trans e1⟩
    · obtain ⟨o', e1⟩ := I.base.there b o e hx
      exact ⟨o', (hs.2 b (Nat.ne_of_lt (Nat.lt_of_lt_of_le (Heap.lt_size e) (I.ok.cab x c hfn hc)))).trans e1⟩
    · by_cases hj : j = i
      · subst hj
        rw [hi] at e1; cases e1
        rw [List.getElem?_set_self hiσ] at e2
        cases e2
        exact ⟨u, r, .inr ⟨.inl hk, c, hc, hc'⟩⟩
      · rw [List.getElem?_set_ne (Ne.symm hj)] at e2
        obtain ⟨u', r', q⟩ := hl j y v' e1 e2 e3
        refine ⟨u', r', ?_⟩
        rcases q with q | ⟨k, c', e, z'⟩
        · exact .inl q
        · refine .inr ⟨k, c', e, z'.sameBut hs ?_⟩
          rintro rfl
          exact hj (nodup_ix hN e1 (I.ok.inj _ _ _ e hc ▸ hi))
    · by_cases hcc : c' = c
      · subst hcc; exact ⟨_, hc'⟩
      · obtain ⟨w2, z2⟩ := I.cell y c' e
        exact ⟨w2, z2.sameBut hs hcc⟩
    · obtain ⟨e, n, ne, nf, d⟩ := I.pin p hp
      refine ⟨(hs.2 p.1 ?_).trans e, n, ne, nf, d⟩
      intro q
      rw [q, hoc] at e
      have q' : oc = p.2 := Option.some.inj e
      exact d w' (by rw [← q']; exact hocd)
theorem store_ok {M : Model} {A : Around} {E : Value → Shared → Prop} {i : Nat} {x : Str} {v : V} {u : Value} {Q : Unit → Shared → Prop} (I : Inv X pins σ H s) (hN : X.N.Nodup) (hi : X.N[i]? = some x) (hx : Loc X.env.scope x) (r : RelV v u)
    (h : ∀ s', Inv X pins (σ.set i (some v)) H s' → Q () s') (hf : X.fn x = true ∨ X.env.scope.names.lookup x = some .local := by first | exact .inl rfl | exact .inr rfl | assumption) : wpAny M A (storeName X.env x u) Q E s :=
  store_ok2 I hN hi hx r (fun s' I' _ => h s' I') hf
/-- behind a call or a block, the state as it is -/
theorem Inv.call' {s' : Shared} {ch : List Addr} (I : Inv X pins σ H s) (ho : s'.os = s.os) (u : Un (frs X.stack) ch H H' s.heap s'.heap) (hok : HOk X.prog X.w H' s'.heap) (hg : AllBare s'.gens)
    (hch : ∀ b ∈ ch, (b ∈ X.ex ∨ X.s₀.heap.objs.size ≤ b) ∧ b ≠ X.env.locals ∧ (∀ x c, X.env.cells.lookup x = some c → c ≠ b) ∧ ∀ p ∈ X.pn ++ pins, p.1 ≠ b) : Inv X pins σ H' s' := by
  obtain ⟨h', g', d', t', o'⟩ := s'
  have e : o' = s.os := ho
  subst e
  exact I.call (g' := g') (t' := t') (d' := d') u hok hg hch
end
/-- an exception: its class, its own dict's address (where it has one), the abstract heap behind it -/
abbrev XK := Value → Option Addr → Hp → Prop
abbrev St := List (Option V)
abbrev VK := V → Hp → Prop
/-- an expression's reading; a test's; an argument list's -/
abbrev TE := St → Hp → VK → Prop
abbrev TT := St → Hp → (Bool → Hp → Prop) → Prop
abbrev TA := St → Hp → (List V → Hp → Prop) → Prop
/-- what is wanted behind a statement -/
structure Ends where
  nx : St → Hp → Prop
  rt : VK
  bk : St → Hp → Prop := fun _ _ => False
  ct : St → Hp → Prop := fun _ _ => False
abbrev TS := Ends → St → Hp → Prop
def EP (X : Cx) (pins : List (Addr × Obj)) (σ : St) (Q : VK) (u : Value) (s' : Shared) : Prop := ∃ v H', Inv X pins σ H' s' ∧ RelV v u ∧ Q v H'
def TP (X : Cx) (pins : List (Addr × Obj)) (σ : St) (Q : Bool → Hp → Prop) (b : Bool) (s' : Shared) : Prop := ∃ H', Inv X pins σ H' s' ∧ Q b H'
def AP (X : Cx) (pins : List (Addr × Obj)) (σ : St) (Q : List V → Hp → Prop) (us : List Value) (s' : Shared) : Prop := ∃ vs H', Inv X pins σ H' s' ∧ Vals vs us ∧ Q vs H'
def SP (X : Cx) (pins : List (Addr × Obj)) (D : Ends) (f : Flow) (s' : Shared) : Prop :=
  match f with
  | .next => ∃ σ' H', Inv X pins σ' H' s' ∧ D.nx σ' H'
  | .brk => ∃ σ' H', Inv X pins σ' H' s' ∧ D.bk σ' H'
  | .cont => ∃ σ' H', Inv X pins σ' H' s' ∧ D.ct σ' H'
  | .ret u => ∃ v σ' H', Inv X pins σ' H' s' ∧ RelV v u ∧ D.rt v H'
def PE (X : Cx) (e : Expr) (t : TE) : Prop :=
  ∀ (pins : List (Addr × Obj)) (s : Shared) (σ : St) (H : Hp) (Q : VK), Inv X pins σ H s → t σ H Q → wpAny (model X.prog X.w) X.A (eval e X.env) (EP X pins σ Q) X.xe s
def PT (X : Cx) (e : Expr) (t : TT) : Prop :=
  ∀ (pins : List (Addr × Obj)) (s : Shared) (σ : St) (H : Hp) (Q : Bool → Hp → Prop), Inv X pins σ H s → t σ H Q → wpAny (model X.prog X.w) X.A (isTrue e X.env (eval e X.env)) (TP X pins σ Q) X.xe s
/-- a test whatever its 'whole' is (and, or) -/
def PW (X : Cx) (e : Expr) (t : TT) : Prop :=
  ∀ (whole : Sem Value) (pins : List (Addr × Obj)) (s : Shared) (σ : St) (H : Hp) (Q : Bool → Hp → Prop), Inv X pins σ H s → t σ H Q → wpAny (model X.prog X.w) X.A (isTrue e X.env whole) (TP X pins σ Q) X.xe s
theorem PW.pt {X : Cx} {e : Expr} {t : TT} (h : PW X e t) : PT X e t := h _
/-- an argument list (no star), from the left -/
def PA (X : Cx) (es : List Expr) (t : TA) : Prop :=
  ∀ (pos : Pos) (pins : List (Addr × Obj)) (s : Shared) (σ : St) (H : Hp) (Q : List V → Hp → Prop), Inv X pins σ H s → t σ H Q → wpAny (model X.prog X.w) X.A (spliced (backTo pos (starEach es X.env))) (AP X pins σ Q) X.xe s
def PS (X : Cx) (st : Stmt) (t : TS) : Prop :=
  ∀ (pins : List (Addr × Obj)) (s : Shared) (σ : St) (H : Hp) (D : Ends), Inv X pins σ H s → t D σ H → wpAny (model X.prog X.w) X.A (exec st X.env) (SP X pins D) X.xe s
def PSs (X : Cx) (st : List Stmt) (t : TS) : Prop :=
  ∀ (pins : List (Addr × Obj)) (s : Shared) (σ : St) (H : Hp) (D : Ends), Inv X pins σ H s → t D σ H → wpAny (model X.prog X.w) X.A (execs st X.env) (SP X pins D) X.xe s
/-- weaken the end -/
theorem thn {α : Type} {t : Sem α} {Q Q' : α → Shared → Prop} {M : Model} {A : Around} {E : Value → Shared → Prop} {s : Shared} (h : wpAny M A t Q E s) (hQ : ∀ a s, Q a s → Q' a s) : wpAny M A t Q' E s := wpAny_mono h hQ fun _ _ x => x
end L2
namespace L2
open PySem PySem.Spec PyProof.Rows
section
variable {X : Cx}
def tVar (i : Nat) : TE := fun σ H Q => ∃ v, σ[i]? = some (some v) ∧ Q v H
def tC (v : V) : TE := fun _ H Q => Q v H
theorem pe_var {i : Nat} {x : Str} {pos : Pos} (hN : X.N[i]? = some x) (hv : Vis X.env.scope x) (hd : (x == ("__debug__" : Str)) = false := by decide) (hcd : (x == ("__classdict__" : Str)) = false := by decide) : PE X (.Name x pos) (tVar i) := by
  intro pins s σ H Q I h
  obtain ⟨v, e, h⟩ := h
  obtain ⟨m, hn, hl⟩ := I.loc
  obtain ⟨u, r, l⟩ := hl i x v hN e hv
  have fin : EP X pins σ Q u s := ⟨v, H, I, r, h⟩
  rcases l with ⟨hk, hm⟩ | ⟨hk, c, hc, hcell⟩
  · exact wpAny_Name (wpAny_loadName_local I.ok.kind hk hn hm fin) hd
  · rcases hk with hk | hk
    · exact wpAny_Name (wpAny_loadName_cell I.ok.kind hk hc hcell fin) hd
    · exact wpAny_Name (wpAny_loadName_free I.ok.kind hk hc hcell fin hcd) hd
theorem pe_int {i j pos} : PE X (.Constant (.int i) j pos) (tC (.int i)) := fun _ _ _ H _ I h => wpAny_Constant_int ⟨.int i, H, I.tok _, ⟨_, rfl⟩, h⟩
theorem pe_bl {b j pos} : PE X (.Constant (.bool b) j pos) (tC (.bl b)) := fun _ _ _ H _ I h => Constant_bool ⟨.bl b, H, I, rfl, h⟩
theorem pe_str {x j pos} : PE X (.Constant (.str x) j pos) (tC (.str x)) := fun _ _ _ H _ I h => Calls.Constant_str ⟨.str x, H, I.tok _, ⟨_, rfl⟩, h⟩
/-- a global name of the def -/
def Gl (X : Cx) (x : Str) : Prop := X.env.kindOf x = some .globalImplicit
theorem ld_glob {E : Value → Shared → Prop} {pins : List (Addr × Obj)} {s : Shared} {σ : St} {H : Hp} {x : Str} {u : Value} {pos : Pos} {Q : Value → Shared → Prop} (I : Inv X pins σ H s) (hg : Gl X x) (hm : X.mg x = some u) (h : Q u s)
    (hd : (x == ("__debug__" : Str)) = false := by decide) : wpAny (model X.prog X.w) X.A (eval (.Name x pos) X.env) Q E s :=
  Calls.Name_function_global I.ok.kind hg (Calls.loadGlobal_global (by rw [I.ok.glob]; exact I.mod.glob.keeps I.bk) hm h) hd
theorem ld_blt {E : Value → Shared → Prop} {pins : List (Addr × Obj)} {s : Shared} {σ : St} {H : Hp} {x : Str} {u : Value} {pos : Pos} {Q : Value → Shared → Prop} (I : Inv X pins σ H s) (hg : Gl X x) (hm : X.mg x = none) (hv : bootBuiltins x = some u) (h : Q u s)
    (hn : x ≠ "__name__" := by decide) (hd : (x == ("__debug__" : Str)) = false := by decide) : wpAny (model X.prog X.w) X.A (eval (.Name x pos) X.env) Q E s := by
  obtain ⟨mb, h1, h2⟩ := I.mod.blt
  exact Calls.Name_function_global I.ok.kind hg (Calls.loadGlobal_builtin (by rw [I.ok.glob]; exact I.mod.glob.keeps I.bk) hm (by rw [I.ok.blt]; exact h1.keeps I.bk) ((h2 x hn).trans hv) h) hd
/-- a module's constant, a class, a function, as a value -/
theorem pe_glob {x : Str} {v : V} {u : Value} {pos : Pos} (hg : Gl X x) (hm : X.mg x = some u) (r : RelV v u) (hd : (x == ("__debug__" : Str)) = false := by decide) : PE X (.Name x pos) (tC v) :=
  fun _ _ _ H _ I h => ld_glob I hg hm ⟨v, H, I, r, h⟩ hd
theorem pe_bltn {x : Str} {v : V} {u : Value} {pos : Pos} (hg : Gl X x) (hm : X.mg x = none) (hv : bootBuiltins x = some u) (r : RelV v u) (hn : x ≠ "__name__" := by decide) (hd : (x == ("__debug__" : Str)) = false := by decide) : PE X (.Name x pos) (tC v) :=
  fun _ _ _ H _ I h => ld_blt I hg hm hv ⟨v, H, I, r, h⟩ hn hd
variable {a b : Expr} {ta tb : TE} {pos : Pos}
/-- a comparison as a value, as a test -/
def tB (t : TE) : TT := fun σ H Q => t σ H fun x H1 => ∃ c, x = .bl c ∧ Q c H1
/-- an expression whose value is a bool, as a test -/
theorem pt_val {e : Expr} {t : TE} (h : PE X e t) (he : ∀ whole, isTrue e X.env whole = (do let v ← whole; standAt e.pos; holding [v] (truthy v)) := by intro _; rfl) : PT X e (tB t) := by
  intro pins s σ H Q I hw
  refine isTrue_plain (thn (h pins s σ H _ I hw) fun v s1 ⟨x, H1, I1, r1, q1⟩ => ?_) (he _)
  obtain ⟨d, rfl, q⟩ := q1
  cases r1
  exact wpAny_truthy_bool ⟨H1, I1, q⟩
variable {tA tB' : TT} {rest : List Expr}
def tAnd (t u : TT) : TT := fun σ H Q => t σ H fun c H1 => if c = true then u σ H1 Q else Q false H1
def tOr (t u : TT) : TT := fun σ H Q => t σ H fun c H1 => if c = true then Q true H1 else u σ H1 Q
def tNot (t : TT) : TT := fun σ H Q => t σ H fun c H1 => Q (!c) H1
theorem pw_and1 (ha : PT X a tA) : PW X (.BoolOp .And [a] pos) tA := by
  intro wh pins s σ H Q I h
  refine isTrue_and (thn (ha pins s σ H Q I h) fun c s1 e => ?_)
  cases c with
  | true => exact isTrue_and_nil e
  | false => exact e
theorem pw_or1 (ha : PT X a tA) : PW X (.BoolOp .Or [a] pos) tA := by
  intro wh pins s σ H Q I h
  refine isTrue_or (thn (ha pins s σ H Q I h) fun c s1 e => ?_)
  cases c with
  | false => exact isTrue_or_nil e
  | true => exact e
theorem pw_and (ha : PT X a tA) (hb : PW X (.BoolOp .And (b :: rest) pos) tB') : PW X (.BoolOp .And (a :: b :: rest) pos) (tAnd tA tB') := by
  intro wh pins s σ H Q I h
  refine isTrue_and (thn (ha pins s σ H _ I h) fun c s1 ⟨H1, I1, q1⟩ => ?_)
  cases c with
  | true => exact hb wh pins s1 σ H1 Q I1 q1
  | false => exact ⟨H1, I1, q1⟩
theorem pw_or (ha : PT X a tA) (hb : PW X (.BoolOp .Or (b :: rest) pos) tB') : PW X (.BoolOp .Or (a :: b :: rest) pos) (tOr tA tB') := by
  intro wh pins s σ H Q I h
  refine isTrue_or (thn (ha pins s σ H _ I h) fun c s1 ⟨H1, I1, q1⟩ => ?_)
  cases c with
  | true => exact ⟨H1, I1, q1⟩
  | false => exact hb wh pins s1 σ H1 Q I1 q1
theorem pt_not (ha : PT X a tA) : PT X (.UnaryOp .Not a pos) (tNot tA) := by
  intro pins s σ H Q I h
  exact isTrue_not (ha pins s σ H (fun c H1 => Q (!c) H1) I h)
/-- .. as values (bools) -/
def tAndV (ta tb : TE) : TE := fun σ H Q => ta σ H fun x H1 => ∃ c, x = .bl c ∧ if c = true then tb σ H1 Q else Q (.bl false) H1
def tNotV (ta : TE) : TE := fun σ H Q => ta σ H fun x H1 => ∃ c, x = .bl c ∧ Q (.bl (!c)) H1
theorem pe_one {op} {t : TE} (h : PE X a t) : PE X (.BoolOp op [a] pos) t := fun pins s σ H Q I hw => BoolOp_one (h pins s σ H Q I hw)
theorem pe_and (ha : PE X a ta) (hb : PE X (.BoolOp .And (b :: rest) pos) tb) : PE X (.BoolOp .And (a :: b :: rest) pos) (tAndV ta tb) := by
  intro pins s σ H Q I h
  refine BoolOp_and (thn (ha pins s σ H _ I h) fun v s1 ⟨x, H1, I1, r1, q1⟩ => ?_)
  obtain ⟨c, rfl, q1⟩ := q1
  cases r1
  refine wpAny_truthy_bool ?_
  cases c with
  | true => exact hb pins s1 σ H1 Q I1 q1
  | false => exact ⟨.bl false, H1, I1, rfl, q1⟩
theorem pe_not (ha : PE X a ta) : PE X (.UnaryOp .Not a pos) (tNotV ta) := by
  intro pins s σ H Q I h
  refine UnaryOp_ (thn (ha pins s σ H _ I h) fun v s1 ⟨x, H1, I1, r1, q1⟩ => ?_)
  obtain ⟨c, rfl, q1⟩ := q1
  cases r1
  exact not_of (wpAny_truthy_bool ⟨.bl (!c), H1, I1, rfl, q1⟩)
/-- a if t else b -/
def tIf (t : TT) (ta tb : TE) : TE := fun σ H Q => t σ H fun c H1 => if c = true then ta σ H1 Q else tb σ H1 Q
theorem pe_ifExp {c : Expr} (hc : PT X c tA) (ha : PE X a ta) (hb : PE X b tb) : PE X (.IfExp c a b pos) (tIf tA ta tb) := by
  intro pins s σ H Q I h
  refine wpAny_IfExp (thn (hc pins s σ H _ I h) fun d s1 ⟨H1, I1, q1⟩ => ?_)
  cases d with
  | true => exact ha pins s1 σ H1 Q I1 q1
  | false => exact hb pins s1 σ H1 Q I1 q1
end
end L2
namespace L2
open PySem PySem.Spec PyProof.Rows
def SqL (K : PySem.W.Frag) (H : Hp) (a : Addr) (xs : List V) : Prop :=
  Rd H a (.lst xs) ∨
    ∃ (o : Obj) (its : Array Value) (n : Nat), K.lookup a = some o ∧ o.cls = .type "list" ∧ o.dict = none ∧ o.data = .seq its n ∧ its.size ≤ sizeLine ∧ Vals xs its.toList
def SqT (K : PySem.W.Frag) (H : Hp) (a : Addr) (xs : List V) : Prop :=
  Rd H a (.tup xs) ∨
    ∃ (o : Obj) (its : Array Value) (n : Nat), K.lookup a = some o ∧ o.cls = .type "tuple" ∧ o.data = .seq its n ∧ its.size ≤ sizeLine ∧ Vals xs its.toList
def absV : Value → Option V
  | .none => some .non
  | .bool b => some (.bl b)
  | .int i _ => some (.int i)
  | .str x _ => some (.str x)
  | .bytes b _ => some (.byt b)
  | .float b _ => some (.flt b)
  | .ref a => some (.ref a)
  | .type n => some (.ty n)
  | _ => none
theorem RelV.abs {x : V} {u : Value} (r : RelV x u) : absV u = some x := by
  cases x with
  | non => cases r; rfl
  | bl _ => cases r; rfl
  | int _ => obtain ⟨t, rfl⟩ := r; rfl
  | str _ => obtain ⟨t, rfl⟩ := r; rfl
  | byt _ => obtain ⟨t, rfl⟩ := r; rfl
  | flt _ => obtain ⟨t, rfl⟩ := r; rfl
  | ref _ => cases r; rfl
  | ty _ => cases r; rfl
theorem RelV.inj {x y : V} {u : Value} (r : RelV x u) (q : RelV y u) : x = y := Option.some.inj (r.abs.symm.trans q.abs)
theorem Vals.inj : ∀ {xs ys : List V} {us : List Value}, Vals xs us → Vals ys us → xs = ys
  | _, _, _, .nil, .nil => rfl
  | _, _, _, .cons r t, .cons r' t' => by rw [r.inj r', Vals.inj t t']
section
variable {X : Cx} {pins : List (Addr × Obj)} {σ : St} {H : Hp} {s : Shared} {a : Addr} {xs ys : List V}
theorem SqL.of {K : PySem.W.Frag} (h : H a = some (.lst xs)) : SqL K H a xs := .inl (.inl h)
theorem SqT.of {K : PySem.W.Frag} (h : H a = some (.tup xs)) : SqT K H a xs := .inl (.inl h)
theorem Inv.list (I : Inv X pins σ H s) (h : SqL X.K H a xs) : ∃ its : List Value, Vals xs its ∧ PlainL s.heap a its.toArray ∧ xs.length ≤ sizeLine := by
  rcases h with h | ⟨o, its, n, hk, hc, hd, hs, hz, r⟩
  · obtain ⟨z, its, n, r, e⟩ := h.ok I.hok
    exact ⟨its, r, ⟨_, n, e, rfl, rfl, rfl⟩, z⟩
  · refine ⟨its.toList, r, ⟨o, n, I.kIn a o hk, hc, hd, by simpa using hs⟩, ?_⟩
    have e := r.length
    simp only [Array.length_toList] at e
    omega
theorem Inv.tuple (I : Inv X pins σ H s) (h : SqT X.K H a xs) : ∃ its : List Value, Vals xs its ∧ IsTup s.heap a its.toArray ∧ xs.length ≤ sizeLine := by
  rcases h with h | ⟨o, its, n, hk, hc, hs, hz, r⟩
  · obtain ⟨z, its, r, p⟩ := h.ok I.hok
    exact ⟨its, r, p, z⟩
  · refine ⟨its.toList, r, ⟨o, I.kIn a o hk, hc, n, by simpa using hs⟩, ?_⟩
    have e := r.length
    simp only [Array.length_toList] at e
    omega
theorem Inv.list_inj (I : Inv X pins σ H s) (h : SqL X.K H a xs) (h' : SqL X.K H a ys) : xs = ys := by
  obtain ⟨its, r, ⟨o, n, e, _, _, d⟩, _⟩ := I.list h
  obtain ⟨its', r', ⟨o', n', e', _, _, d'⟩, _⟩ := I.list h'
  rw [e] at e'; cases e'
  rw [d] at d'
  injection d' with d1 _
  have : its = its' := by simpa using congrArg Array.toList d1
  subst this
  exact r.inj r'
theorem Inv.tuple_inj (I : Inv X pins σ H s) (h : SqT X.K H a xs) (h' : SqT X.K H a ys) : xs = ys := by
  obtain ⟨its, r, ⟨o, e, _, n, d⟩, _⟩ := I.tuple h
  obtain ⟨its', r', ⟨o', e', _, n', d'⟩, _⟩ := I.tuple h'
  rw [e] at e'; cases e'
  rw [d] at d'
  injection d' with d1 _
  have : its = its' := by simpa using congrArg Array.toList d1
  subst this
  exact r.inj r'
end
abbrev Cx.wish (X : Cx) (E : Value → Shared → Prop) : Cx := { X with xe := E }
/-- no exception leaves -/
abbrev Cx.nox (X : Cx) : Cx := X.wish fun _ _ => False
theorem Cx.Ok.wish {X : Cx} (ok : X.Ok) (E : Value → Shared → Prop) : (X.wish E).Ok :=
  ⟨ok.mod, ok.kind, ok.glob, ok.blt, ok.above, ok.inj, ok.has, ok.cab, ok.hd, ok.frames, ok.stk, ok.exf, ok.bs, ok.bsz, ok.noex, ok.exfs, ok.funs, ok.frf⟩
theorem Cx.Ok.unwish {X : Cx} {E : Value → Shared → Prop} (ok : (X.wish E).Ok) : X.Ok :=
  ⟨ok.mod, ok.kind, ok.glob, ok.blt, ok.above, ok.inj, ok.has, ok.cab, ok.hd, ok.frames, ok.stk, ok.exf, ok.bs, ok.bsz, ok.noex, ok.exfs, ok.funs, ok.frf⟩
section
variable {X : Cx} {pins : List (Addr × Obj)} {σ : St} {H : Hp} {s : Shared} {E : Value → Shared → Prop}
theorem Inv.wish (I : Inv X pins σ H s) (E : Value → Shared → Prop) : Inv (X.wish E) pins σ H s := ⟨I.ok.wish E, I.os, I.bare, I.base, I.loc, I.cell, I.free, I.freeC, I.pin, I.hok, I.len⟩
theorem Inv.unwish (I : Inv (X.wish E) pins σ H s) : Inv X pins σ H s := ⟨I.ok.unwish, I.os, I.bare, I.base, I.loc, I.cell, I.free, I.freeC, I.pin, I.hok, I.len⟩
theorem SP.unwish {D : Ends} {f : Flow} {s' : Shared} (h : SP (X.wish E) pins D f s') : SP X pins D f s' := by
  cases f with
  | next => obtain ⟨σ', H', I, q⟩ := h; exact ⟨σ', H', I.unwish, q⟩
  | brk => obtain ⟨σ', H', I, q⟩ := h; exact ⟨σ', H', I.unwish, q⟩
  | cont => obtain ⟨σ', H', I, q⟩ := h; exact ⟨σ', H', I.unwish, q⟩
  | ret u => obtain ⟨v, σ', H', I, r, q⟩ := h; exact ⟨v, σ', H', I.unwish, r, q⟩
theorem PSs.nox {st : List Stmt} {t : TS} (h : PSs X.nox st t) : PSs X st t := fun pins s σ H D I hw =>
  wpAny_mono (h pins s σ H D (I.wish _) hw) (fun _ _ q => q.unwish) fun _ _ z => False.elim z
end
section
variable {X : Cx} {st : Stmt} {rest : List Stmt} {t u : TS} {e : Expr} {te : TE} {pos : Pos}
def tNext : TS := fun D σ H => D.nx σ H
def tSeq (t u : TS) : TS := fun D σ H => t { D with nx := u D } σ H
theorem pss_nil : PSs X [] tNext := fun _ _ σ H _ I h => wpAny_execs_nil ⟨σ, H, I, h⟩
theorem pss_cons (h1 : PS X st t) (h2 : PSs X rest u) : PSs X (st :: rest) (tSeq t u) := by
  intro pins s σ H D I h
  refine wpAny_execs_cons (thn (h1 pins s σ H { D with nx := u D } I h) fun f s1 q => ?_)
  cases f with
  | next =>
    obtain ⟨σ', H', I', q⟩ := q
    exact h2 pins s1 σ' H' D I' q
  | ret v => exact q
  | brk => exact q
  | cont => exact q
theorem pss_one (h1 : PS X st t) : PSs X [st] t := by
  intro pins s σ H D I h
  refine wpAny_execs_cons (thn (h1 pins s σ H D I h) fun f s1 q => ?_)
  cases f with
  | next => exact wpAny_execs_nil q
  | ret v => exact q
  | brk => exact q
  | cont => exact q
/-- in a def's body nothing is shown -/
theorem Inv.quiet {pins : List (Addr × Obj)} {σ : St} {H : Hp} {s : Shared} (I : Inv X pins σ H s) : interactive X.env = false := by simp [interactive, I.ok.kind]
/-- an expression whose value is dropped -/
def tDrop (te : TE) : TS := fun D σ H => te σ H fun _ H1 => D.nx σ H1
theorem ps_expr (he : PE X e te) (hs : swapsWith e none pos.line X.env = pure false := by rfl) : PS X (.Expr e pos) (tDrop te) := by
  intro pins s σ H D I h
  exact wpAny_Expr_any (thn (he pins s σ H _ I h) fun v s1 ⟨x, H1, I1, r1, q1⟩ => ⟨σ, H1, I1, q1⟩) I.quiet hs
def tRet (te : TE) : TS := fun D σ H => te σ H D.rt
theorem ps_ret (he : PE X e te) : PS X (.Return (some e) pos) (tRet te) := by
  intro pins s σ H D I h
  exact wpAny_Return_some (thn (he pins s σ H _ I h) fun v s1 ⟨x, H1, I1, r1, q1⟩ => ⟨x, σ, H1, I1, r1, q1⟩)
def tIfS (c : TT) (t u : TS) : TS := fun D σ H => c σ H fun b H1 => if b = true then t D σ H1 else u D σ H1
theorem ps_if {c : Expr} {a b : List Stmt} {tc : TT} (hc : PT X c tc) (ha : PSs X a t) (hb : PSs X b u) : PS X (.If c a b pos) (tIfS tc t u) := by
  intro pins s σ H D I h
  refine wpAny_If (thn (hc pins s σ H _ I h) fun d s1 ⟨H1, I1, q1⟩ => ?_)
  cases d with
  | true => exact ha pins s1 σ H1 D I1 q1
  | false => exact hb pins s1 σ H1 D I1 q1
end
abbrev TG := V → St → Hp → (St → Hp → Prop) → Prop
abbrev TGs := List V → St → Hp → (St → Hp → Prop) → Prop
def PG (X : Cx) (target : Expr) (t : TG) : Prop :=
  ∀ (pins : List (Addr × Obj)) (s : Shared) (σ : St) (H : Hp) (v : V) (u : Value) (Q : St → Hp → Prop), Inv X pins σ H s → RelV v u → t v σ H Q →
    wpAny (model X.prog X.w) X.A (assign target X.env u) (fun _ s' => ∃ σ' H', Inv X pins σ' H' s' ∧ Q σ' H') X.xe s
/-- several targets, one after another -/
def PGs (X : Cx) (ts : List Expr) (t : TGs) : Prop :=
  ∀ (pins : List (Addr × Obj)) (s : Shared) (σ : St) (H : Hp) (vs : List V) (us : List Value) (Q : St → Hp → Prop), Inv X pins σ H s → Vals vs us → t vs σ H Q →
    wpAny (model X.prog X.w) X.A (assignInOrder ((assignEach ts X.env).map (·.2)) us) (fun _ s' => ∃ σ' H', Inv X pins σ' H' s' ∧ Q σ' H') X.xe s
section
variable {X : Cx} {pos : Pos}
def gName (i : Nat) : TG := fun v σ H Q => Q (σ.set i (some v)) H
theorem pg_name {i : Nat} {x : Str} (hN : X.N.Nodup) (hi : X.N[i]? = some x) (hx : Loc X.env.scope x) (hf : X.fn x = true ∨ X.env.scope.names.lookup x = some .local := by first | exact .inl rfl | exact .inr rfl | assumption) : PG X (.Name x pos) (gName i) := by
  intro pins s σ H v u Q I r h
  exact wpAny_assign_Name (store_ok I hN hi hx r (fun s' I' => ⟨_, H, I', h⟩) hf)
def gNil : TGs := fun vs σ H Q => vs = [] ∧ Q σ H
def gCons (t : TG) (u : TGs) : TGs := fun vs σ H Q => ∃ v r, vs = v :: r ∧ t v σ H fun σ' H' => u r σ' H' Q
theorem pgs_nil : PGs X [] gNil := by
  intro pins s σ H vs us Q I r h
  obtain ⟨e, h⟩ := h
  subst e
  cases r
  exact assignInOrder_nil ⟨σ, H, I, h⟩
theorem pgs_cons {e : Expr} {es : List Expr} {t : TG} {u : TGs} (h1 : PG X e t) (h2 : PGs X es u)
    (hs : (assignEach (e :: es) X.env).map (·.2) = assign e X.env :: (assignEach es X.env).map (·.2) := by rfl) : PGs X (e :: es) (gCons t u) := by
  intro pins s σ H vs us Q I r h
  obtain ⟨v, vr, e1, h⟩ := h
  subst e1
  cases r with
  | cons r rr =>
    rw [hs]
    refine assignInOrder_cons (thn (h1 pins s σ H _ _ _ I r h) fun _ s1 ⟨σ1, H1, I1, q1⟩ => ?_)
    exact h2 pins s1 σ1 H1 _ _ Q I1 rr q1
/-- (a, b, ..) = a tuple of that length -/
def gTup (K : PySem.W.Frag) (n : Nat) (t : TGs) : TG := fun v σ H Q => ∃ a xs, v = .ref a ∧ SqT K H a xs ∧ xs.length = n ∧ t xs σ H Q
theorem pg_tup {es : List Expr} {k : Nat} {t : TGs} {n : Nat} (hc : X.calm = true) (h : PGs X es t)
    (hn : (assignEach es X.env).length = n := by rfl) (hst : (assignEach es X.env).findIdx? (·.1) = none := by rfl) : PG X (.Tuple es k pos) (gTup X.K n t) := by
  intro pins s σ H v u Q I r hw
  obtain ⟨a, xs, e1, hq, hl, hw⟩ := hw
  subst e1
  cases r
  obtain ⟨its, rv, ht, hz⟩ := I.tuple hq
  refine assign_Tuple_tuple (I.ok.hd hc) ht (by simp [hn, ← hl, rv.length]) hst fun h' hx => ?_
  have I1 : Inv X pins σ H { s with heap := h' } := I.kept (t' := s.toks) fun b o e => hx b o (Nat.ne_of_lt (Heap.lt_size e)) e
  exact h pins _ σ H xs _ Q I1 (by simpa using rv) hw
/-- target = value -/
def tAsg (te : TE) (g : TG) : TS := fun D σ H => te σ H fun x H1 => g x σ H1 D.nx
/-- name = value -/
theorem ps_set {i : Nat} {x : Str} {e : Expr} {te : TE} {pos' : Pos} (hN : X.N.Nodup) (hi : X.N[i]? = some x) (hx : Loc X.env.scope x) (he : PE X e te) (hs : swapsWith e (some (.Name x pos')) pos.line X.env = pure false := by rfl) (hf : X.fn x = true ∨ X.env.scope.names.lookup x = some .local := by first | exact .inl rfl | exact .inr rfl | assumption) :
    PS X (.Assign [.Name x pos'] e pos) (tAsg te (gName i)) := by
  intro pins s σ H D I h
  refine wpAny_Assign_Name (thn (he pins s σ H _ I h) fun v s1 ⟨y, H1, I1, r1, q1⟩ => ?_) hs
  exact store_ok I1 hN hi hx r1 (fun s2 I2 => ⟨_, H1, I2, q1⟩) hf
end
section
variable {X : Cx} {pos : Pos}
end
/-- at turn i: it yields x (the heap may grow), or it stops -/
structure It where
  go : Nat → Hp → Prop
  yld : Nat → Hp → V → Hp → Prop
  stop : Nat → Hp → Prop
/-- the iterator's own objects may turn: they are not the frame's, not pinned, younger than the entry (or a comprehension's own) -/
def FpOk (X : Cx) (pins : List (Addr × Obj)) (H : Hp) (b : Addr) : Prop :=
  H b = none ∧ b ≠ X.env.locals ∧ b ∉ X.fs ∧ (b ∈ X.ex ∨ X.s₀.heap.objs.size ≤ b) ∧ (∀ x c, X.env.cells.lookup x = some c → c ≠ b) ∧ ∀ p ∈ X.pn ++ pins, p.1 ≠ b
theorem Inv.fpOk {X : Cx} {pins : List (Addr × Obj)} {σ : St} {H H' : Hp} {s : Shared} {b : Addr} (I : Inv X pins σ H s) (hb : s.heap.objs.size ≤ b) (hn : H' b = none) : FpOk X pins H' b := by
  refine ⟨hn, Nat.ne_of_gt (Nat.lt_of_lt_of_le I.lt hb), I.nofs hb, .inr (Nat.le_trans I.sz hb), fun x c e z => ?_, fun p hp z => ?_⟩
  · obtain ⟨v, q⟩ := I.cell x c e
    exact absurd (Nat.lt_of_lt_of_le q.lt (by rw [z]; exact hb)) (Nat.lt_irrefl _)
  · exact absurd (Nat.lt_of_lt_of_le (Heap.lt_size (I.pin p hp).1) (by rw [z]; exact hb)) (Nat.lt_irrefl _)
structure Turn (P : Program) (w : World) (K : PySem.W.Frag) (tg : Expr) (J : It) (fp : List Addr) (it : Addr) (tn : Nat → Heap → Prop) : Prop where
  mem : it ∈ fp
  obj : ∀ i h, tn i h → ∀ b ∈ fp, ∃ o, h.get? b = some o ∧ ∀ v, o.data ≠ .cell v
  keep : ∀ i h h', tn i h → (∀ b ∈ fp, ∀ o, h.get? b = some o → h'.get? b = some o) → tn i h'
  item : ∀ (X : Cx), X.prog = P → X.w = w → X.K = K → X.calm = true → ∀ (i : Nat) (pins : List (Addr × Obj)) (s : Shared) (σ : St) (H : Hp) (E : Value → Shared → Prop), Inv X pins σ H s → (∀ b ∈ fp, FpOk X pins H b) → tn i s.heap → J.go i H →
    wpAny (model P w) X.A (pyNext (.ref it)) (fun r s1 => ∃ u, r = some u ∧
      wpAny (model P w) X.A (letOwnedTupleGo tg (.ref it) u) (fun _ s2 => ∃ x H', Inv X pins σ H' s2 ∧ RelV x u ∧ J.yld i H x H' ∧ tn (i + 1) s2.heap ∧ ∀ b ∈ fp, H' b = none) E s1) E s
  done : ∀ (X : Cx), X.prog = P → X.w = w → X.K = K → X.calm = true → ∀ (i : Nat) (pins : List (Addr × Obj)) (s : Shared) (σ : St) (H : Hp) (E : Value → Shared → Prop), Inv X pins σ H s → (∀ b ∈ fp, FpOk X pins H b) → tn i s.heap → J.stop i H →
    wpAny (model P w) X.A (pyNext (.ref it)) (fun r s1 => r = none ∧ Inv X pins σ H s1) E s
  self : ∀ (A : Around) (i : Nat) (s : Shared) (Q : Value → Shared → Prop) (E : Value → Shared → Prop), tn i s.heap → Q (.ref it) s → wpAny (model P w) A (pyIter (.ref it)) Q E s
abbrev TI := St → Hp → (It → Hp → Prop) → Prop
/-- an iterator has come -/
def PIE (X : Cx) (pins : List (Addr × Obj)) (σ : St) (tg : Expr) (R : It → Hp → Prop) (itv : Value) (s2 : Shared) : Prop :=
  ∃ (it : Addr) (fp : List Addr) (tn : Nat → Heap → Prop) (J : It) (H' : Hp), itv = .ref it ∧ Inv X pins σ H' s2 ∧ Turn X.prog X.w X.K tg J fp it tn ∧ tn 0 s2.heap ∧ (∀ b ∈ fp, FpOk X pins H' b) ∧ R J H'
def PI (X : Cx) (tg iter : Expr) (wi : TI) : Prop :=
  ∀ (pins : List (Addr × Obj)) (s : Shared) (σ : St) (H : Hp) (R : It → Hp → Prop), Inv X pins σ H s → wi σ H R →
    wpAny (model X.prog X.w) X.A (eval iter X.env) (fun v s1 => wpAny (model X.prog X.w) X.A (pyIter v) (PIE X pins σ tg R) X.xe s1) X.xe s
/-- the step ahead of the store is nothing for an iterator that keeps no tuple -/
theorem go_of {M : Model} {A : Around} {E : Value → Shared → Prop} {s : Shared} {tg : Expr} {it : Addr} {u : Value} {o : Obj} {n : String} {vs : Array Value} {Q : Unit → Shared → Prop} (ho : s.heap.get? it = some o) (hc : o.cls = .type n) (hd : o.data = .fields vs)
    (hn : ["enumerate", "zip", "dict_itemiterator", "dict_reverseitemiterator", "odict_iterator", "itertools.zip_longest", "itertools.pairwise"].contains n = false) (hQ : Q () s) : wpAny M A (letOwnedTupleGo tg (.ref it) u) Q E s := by
  unfold letOwnedTupleGo
  cases tg <;> first
    | exact wpAny_pure hQ
    | (cases u <;> first
        | exact wpAny_pure hQ
        | (refine wpAny_bind (wpAny_load ho ?_)
           rw [hc, hd]
           show wpAny M A (if (["enumerate", "zip", "dict_itemiterator", "dict_reverseitemiterator", "odict_iterator", "itertools.zip_longest", "itertools.pairwise"].contains n && vs[0]? == some (rawInt _)) = true then _ else _) Q E s
           rw [if_neg (by intro h; rw [hn, Bool.false_and] at h; cases h)]
           exact wpAny_pure hQ))
/-- the list at a, as it stands at each turn (a loop may append to it) -/
def Itl (K : PySem.W.Frag) (a : Addr) : It :=
  ⟨fun i H => ∃ xs x, SqL K H a xs ∧ xs[i]? = some x, fun i H x H' => H' = H ∧ ∀ xs, SqL K H a xs → xs[i]? = some x, fun i H => ∃ xs, SqL K H a xs ∧ xs.length ≤ i⟩
def Itt (K : PySem.W.Frag) (a : Addr) : It :=
  ⟨fun i H => ∃ xs x, SqT K H a xs ∧ xs[i]? = some x, fun i H x H' => H' = H ∧ ∀ xs, SqT K H a xs → xs[i]? = some x, fun i H => ∃ xs, SqT K H a xs ∧ xs.length ≤ i⟩
/-- lo, lo + 1, .. (n of them) -/
def Itr (lo : Int) (n : Nat) : It := ⟨fun i _ => i < n, fun i H x H' => H' = H ∧ x = .int (lo + i), fun i _ => n ≤ i⟩
theorem turn_list {P : Program} {w : World} {K : PySem.W.Frag} {tg : Expr} (a it : Addr) : Turn P w K tg (Itl K a) [it] it (fun i h => h.IsListIter it a i) where
  mem := by simp
  obj := fun i h st b hb => by
    have e : b = it := by simpa using hb
    subst e
    obtain ⟨o, e, c, d⟩ := st
    exact ⟨o, e, fun v z => by rw [d] at z; cases z⟩
  keep := fun i h h' st k => st.at fun o e => k it (by simp) o e
  item := by
    intro X hP hw hK hc i pins s σ H E I hf st hg
    subst hP hw hK
    obtain ⟨xs, x, hq, hx⟩ := hg
    obtain ⟨its, rv, p, hz⟩ := I.list hq
    obtain ⟨u, hu, ru⟩ := rv.get hx
    obtain ⟨f0, f1, f2, f3, f4, f5⟩ := hf it (by simp)
    refine wpAny_pyNext_list_item st p.isList (x := u) (by simpa using hu) fun h' st' sb => ?_
    have I1 : Inv X pins σ H { s with heap := h' } := I.turned (t' := s.toks) (fun b o hb e => (sb.2 b hb).trans e) f0 f1 f3 f4 f5
    obtain ⟨o, e, c, d⟩ := id st'
    exact ⟨u, rfl, go_of (s := { s with heap := h' }) e c d (by decide) ⟨x, H, I1, ru, ⟨rfl, fun ys hy => by rw [I.list_inj hy hq]; exact hx⟩, st', fun b hb => (hf b hb).1⟩⟩
  done := by
    intro X hP hw hK hc i pins s σ H E I hf st hg
    subst hP hw hK
    obtain ⟨xs, hq, hx⟩ := hg
    obtain ⟨its, rv, p, hz⟩ := I.list hq
    obtain ⟨f0, f1, f2, f3, f4, f5⟩ := hf it (by simp)
    have hl := rv.length
    exact wpAny_pyNext_list_end (I.ok.hd hc) st p.isList (by simp; omega) fun h' eb => ⟨rfl, I.turned (t' := s.toks) (fun b o hb e => eb b o hb e) f0 f1 f3 f4 f5⟩
  self := fun _ _ _ _ _ st h => wpAny_pyIter_listiter st h
theorem turn_tuple {P : Program} {w : World} {K : PySem.W.Frag} {tg : Expr} (a it : Addr) : Turn P w K tg (Itt K a) [it] it (fun i h => h.IsTupleIter it a i) where
  mem := by simp
  obj := fun i h st b hb => by
    have e : b = it := by simpa using hb
    subst e
    obtain ⟨o, e, c, d⟩ := st
    exact ⟨o, e, fun v z => by rw [d] at z; cases z⟩
  keep := fun i h h' st k => st.at fun o e => k it (by simp) o e
  item := by
    intro X hP hw hK hc i pins s σ H E I hf st hg
    subst hP hw hK
    obtain ⟨xs, x, hq, hx⟩ := hg
    obtain ⟨its, rv, p, hz⟩ := I.tuple hq
    obtain ⟨u, hu, ru⟩ := rv.get hx
    obtain ⟨f0, f1, f2, f3, f4, f5⟩ := hf it (by simp)
    refine wpAny_pyNext_tuple_item st (show s.heap.IsTuple a its.toArray from p) (x := u) (by simpa using hu) fun h' st' sb => ?_
    have I1 : Inv X pins σ H { s with heap := h' } := I.turned (t' := s.toks) (fun b o hb e => (sb.2 b hb).trans e) f0 f1 f3 f4 f5
    obtain ⟨o, e, c, d⟩ := id st'
    exact ⟨u, rfl, go_of (s := { s with heap := h' }) e c d (by decide) ⟨x, H, I1, ru, ⟨rfl, fun ys hy => by rw [I.tuple_inj hy hq]; exact hx⟩, st', fun b hb => (hf b hb).1⟩⟩
  done := by
    intro X hP hw hK hc i pins s σ H E I hf st hg
    subst hP hw hK
    obtain ⟨xs, hq, hx⟩ := hg
    obtain ⟨its, rv, p, hz⟩ := I.tuple hq
    obtain ⟨f0, f1, f2, f3, f4, f5⟩ := hf it (by simp)
    have hl := rv.length
    exact wpAny_pyNext_tuple_end (I.ok.hd hc) st (show s.heap.IsTuple a its.toArray from p) (by simp; omega) fun h' eb => ⟨rfl, I.turned (t' := s.toks) (fun b o hb e => eb b o hb e) f0 f1 f3 f4 f5⟩
  self := fun _ _ _ _ _ st h => wpAny_pyIter_tupleiter st h
theorem turn_range {P : Program} {w : World} {K : PySem.W.Frag} {tg : Expr} (it : Addr) (lo : Int) (n : Nat) : Turn P w K tg (Itr lo n) [it] it (fun i h => IsRangeIter h it (lo + (i : Nat) * 1) ((n : Int) - (i : Nat)) 1) where
  mem := by simp
  obj := fun i h st b hb => by
    have e : b = it := by simpa using hb
    subst e
    exact ⟨_, st, fun v z => by
      have z' : Data.fields _ = Data.cell v := z
      cases z'⟩
  keep := fun i h h' st k => k it (by simp) _ st
  item := by
    intro X hP hw hK hc i pins s σ H E I hf st hg
    subst hP hw hK
    obtain ⟨f0, f1, f2, f3, f4, f5⟩ := hf it (by simp)
    have W := Walks.range (prog := X.prog) (w := X.w) (I.ok.hd hc) it lo 1 n
    refine W.item i s _ _ hg st fun v h' tk hv st' kk => ?_
    obtain ⟨t, rfl⟩ := hv
    have I1 : Inv X pins σ H { s with heap := h', toks := tk } := I.turned (fun b o hb e => kk b o (by simpa using hb) e) f0 f1 f3 f4 f5
    refine ⟨_, rfl, go_of (s := { s with heap := h', toks := tk }) (n := "range_iterator") st' rfl rfl (by decide) ⟨.int (lo + i), H, I1, ⟨t, ?_⟩, ⟨rfl, rfl⟩, st', fun b hb => (hf b hb).1⟩⟩
    rw [Int.mul_one]
  done := by
    intro X hP hw hK hc i pins s σ H E I hf st hg
    subst hP hw hK
    obtain ⟨f0, f1, f2, f3, f4, f5⟩ := hf it (by simp)
    exact wpAny_pyNext_range_end (I.ok.hd hc) st (by have : n ≤ i := hg; omega) fun h' eb => ⟨rfl, I.turned (t' := s.toks) (fun b o hb e => eb b o hb e) f0 f1 f3 f4 f5⟩
  self := fun _ _ _ _ _ st h => wpAny_pyIter_rangeiter st h
end L2
namespace L2
open PySem PySem.Spec PyProof.Rows
section
variable {X : Cx} {tg : Expr}
def iList (K : PySem.W.Frag) (tl : TE) : TI := fun σ H R => tl σ H fun x H1 => ∃ a, x = .ref a ∧ (∃ xs, SqL K H1 a xs) ∧ R (Itl K a) H1
def iTup (K : PySem.W.Frag) (tl : TE) : TI := fun σ H R => tl σ H fun x H1 => ∃ a, x = .ref a ∧ (∃ xs, SqT K H1 a xs) ∧ R (Itt K a) H1
theorem pi_list {l : Expr} {tl : TE} (hl : PE X l tl) : PI X tg l (iList X.K tl) := by
  intro pins s σ H R I h
  refine thn (hl pins s σ H _ I h) fun v s1 ⟨x, H1, I1, r1, q1⟩ => ?_
  obtain ⟨a, e, ⟨xs, hq⟩, q⟩ := q1
  subst e
  cases r1
  obtain ⟨its, rv, p, hz⟩ := I1.list hq
  refine wpAny_pyIter_list p.isList ?_
  refine ⟨s1.heap.objs.size, [s1.heap.objs.size], _, _, H1, rfl, I1.kept (t' := s1.toks) fun b o e => Heap.get?_push_of_some _ e, turn_list a _, ⟨_, Heap.get?_push_size _ rfl, rfl, rfl⟩, fun b hb => ?_, q⟩
  have e : b = s1.heap.objs.size := by simpa using hb
  subst e
  exact I1.fpOk (Nat.le_refl _) (I1.hok.fresh (Nat.le_refl _))
theorem pi_tup {l : Expr} {tl : TE} (hl : PE X l tl) : PI X tg l (iTup X.K tl) := by
  intro pins s σ H R I h
  refine thn (hl pins s σ H _ I h) fun v s1 ⟨x, H1, I1, r1, q1⟩ => ?_
  obtain ⟨a, e, ⟨xs, hq⟩, q⟩ := q1
  subst e
  cases r1
  obtain ⟨its, rv, p, hz⟩ := I1.tuple hq
  refine wpAny_pyIter_tuple (show s1.heap.IsTuple a its.toArray from p) ?_
  refine ⟨s1.heap.objs.size, [s1.heap.objs.size], _, _, H1, rfl, I1.kept (t' := s1.toks) fun b o e => Heap.get?_push_of_some _ e, turn_tuple a _, ⟨_, Heap.get?_push_size _ rfl, rfl, rfl⟩, fun b hb => ?_, q⟩
  have e : b = s1.heap.objs.size := by simpa using hb
  subst e
  exact I1.fpOk (Nat.le_refl _) (I1.hok.fresh (Nat.le_refl _))
/-- a range object just made, walked -/
theorem range_it {pins : List (Addr × Obj)} {σ : St} {H : Hp} {s : Shared} {R : It → Hp → Prop} {E : Value → Shared → Prop} {lo hi : Int} {t u v : Tok} {tk : Nat} (I : Inv X pins σ H s) (h1 : -(2 ^ 62) ≤ lo) (h2 : lo < 2 ^ 62) (h3 : -(2 ^ 62) ≤ hi) (h4 : hi < 2 ^ 62)
    (q : R (Itr lo (hi - lo).toNat) H) : wpAny (model X.prog X.w) X.A (pyIter (.ref s.heap.objs.size)) (PIE X pins σ tg R) E { s with heap := s.heap.push { cls := .type "range", data := .fields #[.int lo t, .int hi u, .int 1 v] }, toks := tk } := by
  refine wpAny_pyIter_range (IsRange.new ..) (small_one h1 h2 h3 h4) ?_
  have I1 : Inv X pins σ H { s with heap := s.heap.push { cls := .type "range", data := .fields #[.int lo t, .int hi u, .int 1 v] }, toks := tk } := I.kept fun b o e => Heap.get?_push_of_some _ e
  refine ⟨(s.heap.push { cls := .type "range", data := .fields #[.int lo t, .int hi u, .int 1 v] }).objs.size, [(s.heap.push { cls := .type "range", data := .fields #[.int lo t, .int hi u, .int 1 v] }).objs.size], _, _, H, rfl,
    I1.kept (t' := tk) fun b o e => Heap.get?_push_of_some _ e, turn_range _ lo (hi - lo).toNat, ?_, fun b hb => ?_, q⟩
  · have e1 : lo + ((0 : Nat) : Int) * 1 = lo := by simp
    have e2 : (((hi - lo).toNat : Nat) : Int) - ((0 : Nat) : Int) = Builtin.Range.rangeSize lo hi 1 := by rw [rangeSize_one]; split <;> omega
    show IsRangeIter _ _ (lo + ((0 : Nat) : Int) * 1) ((((hi - lo).toNat : Nat) : Int) - ((0 : Nat) : Int)) 1
    rw [e1, e2]
    exact Heap.get?_push_size _ rfl
  · have e : b = (s.heap.push { cls := .type "range", data := .fields #[.int lo t, .int hi u, .int 1 v] }).objs.size := by simpa using hb
    subst e
    exact I1.fpOk (Nat.le_refl _) (I1.hok.fresh (Nat.le_refl _))
def iRng1 (ta : TA) : TI := fun σ H R => ta σ H fun vs H1 => ∃ j : Int, vs = [.int j] ∧ -(2 ^ 62) ≤ j ∧ j < 2 ^ 62 ∧ R (Itr 0 j.toNat) H1
theorem pi_range1 {a : Expr} {ta : TA} {p pos : Pos} (hg : Gl X "range") (hm : X.mg "range" = none) (ha : PA X [a] ta) (hs : starEach [a] X.env = [(false, eval a X.env)] := by rfl) : PI X tg (.Call (.Name "range" p) [a] [] pos) (iRng1 ta) := by
  intro pins s σ H R I h
  refine Call_ (ld_blt I hg hm boot_range (PyProof.Rows.callWith_type1 (thn (ha pos pins s σ H _ I h) fun us s1 ⟨vs, H1, I1, r1, q1⟩ => ?_) hs rfl))
  obtain ⟨j, e, q1, q2, q⟩ := q1
  subst e
  cases r1 with
  | cons r rr =>
    cases rr
    obtain ⟨t, rfl⟩ := r
    exact call_range_1 (range_it I1 (by omega) (by omega) q1 q2 (by simpa using q))
/-- W: the invariant by the turn and a measure; N: what the body is to reach -/
def tFor (wi : TI) (g : TG) (tb : TS) : TS := fun D σ H => wi σ H fun J H1 => ∃ W : Nat → Nat → St → Hp → Prop, (∃ m, W 0 m σ H1) ∧ ∀ i m σ H, W i m σ H →
  (J.stop i H ∧ D.nx σ H) ∨ (J.go i H ∧ ∃ N : St → Hp → Prop, (∀ σ' H', N σ' H' → ∃ m', m' < m ∧ W (i + 1) m' σ' H') ∧ ∀ x H', J.yld i H x H' → g x σ H' fun σ2 H2 => tb { D with nx := N, ct := N, bk := D.nx } σ2 H2)
/-- the records at fp as they stand -/
def pinsAt (fp : List Addr) (h : Heap) : List (Addr × Obj) := fp.filterMap fun b => (h.get? b).map fun o => (b, o)
theorem mem_pinsAt {fp : List Addr} {h : Heap} {b : Addr} {o : Obj} (hb : b ∈ fp) (e : h.get? b = some o) : (b, o) ∈ pinsAt fp h := List.mem_filterMap.mpr ⟨b, hb, by rw [e]; rfl⟩
theorem of_pinsAt {fp : List Addr} {h : Heap} {p : Addr × Obj} (hp : p ∈ pinsAt fp h) : p.1 ∈ fp ∧ h.get? p.1 = some p.2 := by
  obtain ⟨b, hb, e⟩ := List.mem_filterMap.mp hp
  cases q : h.get? b with
  | none => rw [q] at e; cases e
  | some o =>
    rw [q] at e
    have e' : (b, o) = p := Option.some.inj e
    subst e'
    exact ⟨hb, q⟩
theorem Inv.pinned {pins : List (Addr × Obj)} {σ : St} {H : Hp} {s : Shared} {fp : List Addr} (I : Inv X pins σ H s) (hf : ∀ b ∈ fp, FpOk X pins H b) (ho : ∀ b ∈ fp, ∃ o, s.heap.get? b = some o ∧ ∀ v, o.data ≠ .cell v) : Inv X (pins ++ pinsAt fp s.heap) σ H s :=
  I.pins_of fun p hp => (List.mem_append.mp hp).elim (fun z => I.pin p (List.mem_append_right _ z)) fun z => by
    obtain ⟨hb, e⟩ := of_pinsAt z
    obtain ⟨f0, f1, f2, _⟩ := hf p.1 hb
    obtain ⟨o, e', d⟩ := ho p.1 hb
    rw [e] at e'; cases e'
    exact ⟨e, f0, f1, f2, d⟩
theorem Inv.unpinned {pins pl : List (Addr × Obj)} {σ : St} {H : Hp} {s : Shared} (I : Inv X (pins ++ pl) σ H s) : Inv X pins σ H s := I.pins_of fun p hp => I.pin p (List.mem_append_right _ (List.mem_append_left _ hp))
theorem ps_for {iter : Expr} {body : List Stmt} {wi : TI} {g : TG} {tb : TS} {pos : Pos} (hp : PassesOwn (model X.prog X.w) X.A X.env X.xe) (hc : X.calm = true) (hi : PI X tg iter wi) (hg : PG X tg g) (hb : PSs X body tb)
    (hs : ∀ x, foldedSetIterable iter X.env x = pure x := by intro _; rfl) : PS X (.For tg iter body [] pos) (tFor wi g tb) := by
  intro pins s σ H D I h
  refine wpAny_For (thn (hi pins s σ H _ I h) fun v s1 h1 => thn h1 fun itv s2 h2 => ?_) hs
  obtain ⟨it, fp, tn, J, H2, e, I2, T, st2, f2, W, ⟨m0, w0⟩, turn⟩ := h2
  subst e
  -- what stays true of the iterator's objects through the loop
  have stat : ∀ {H' : Hp}, (∀ b ∈ fp, H' b = none) → ∀ b ∈ fp, FpOk X pins H' b := fun hn b hb => ⟨hn b hb, (f2 b hb).2⟩
  refine codeAny_forLoop_any (fun n s' => ∃ i σ' H', Inv X pins σ' H' s' ∧ tn i s'.heap ∧ (∀ b ∈ fp, H' b = none) ∧ W i n σ' H') ?_ m0 ⟨0, σ, H2, I2, st2, fun b hb => (f2 b hb).1, w0⟩
  rintro n s3 ⟨i, σ3, H3, I3, st3, fr3, w3⟩
  rcases turn i n σ3 H3 w3 with ⟨stop, qn⟩ | ⟨go, N, hN, step⟩
  · refine wpAny_passesOwn hp (thn (T.done X rfl rfl rfl hc i pins s3 σ3 H3 X.xe I3 (stat fr3) st3 stop) fun r s4 ⟨hr, I4⟩ => ?_)
    subst hr
    exact wpAny_execs_nil ⟨σ3, H3, I4, qn⟩
  · refine wpAny_passesOwn hp (thn (T.item X rfl rfl rfl hc i pins s3 σ3 H3 X.xe I3 (stat fr3) st3 go) fun r s4 ⟨u, hr, h4⟩ => ?_)
    subst hr
    refine wpAny_passesOwn hp (thn h4 fun _ s5 ⟨x, H5, I5, r5, y5, st5, fr5⟩ => ?_)
    have I5' := I5.pinned (stat fr5) (T.obj _ _ st5)
    refine wpAny_passesOwn hp (thn (hg _ s5 σ3 H5 x u _ I5' r5 (step x H5 y5)) fun _ s6 ⟨σ6, H6, I6, q6⟩ => ?_)
    refine wpAny_passesOwn hp (thn (hb _ s6 σ6 H6 _ I6 q6) fun f s7 q7 => ?_)
    have again : ∀ {σ7 : St} {H7 : Hp}, Inv X (pins ++ pinsAt fp s5.heap) σ7 H7 s7 → N σ7 H7 → ∃ m, m < n ∧ ∃ i σ' H', Inv X pins σ' H' s7 ∧ tn i s7.heap ∧ (∀ b ∈ fp, H' b = none) ∧ W i m σ' H' := fun {σ7 H7} I7 n7 => by
      obtain ⟨m', hm, w7⟩ := hN σ7 H7 n7
      refine ⟨m', hm, i + 1, σ7, H7, I7.unpinned, T.keep _ _ _ st5 fun b hb o e => (I7.pin (b, o) (List.mem_append_right _ (List.mem_append_right _ (mem_pinsAt hb e)))).1, fun b hb => ?_, w7⟩
      obtain ⟨o, e, d⟩ := T.obj _ _ st5 b hb
      exact (I7.pin (b, o) (List.mem_append_right _ (List.mem_append_right _ (mem_pinsAt hb e)))).2.1
    cases f with
    | next => obtain ⟨σ7, H7, I7, n7⟩ := q7; exact again I7 n7
    | cont => obtain ⟨σ7, H7, I7, n7⟩ := q7; exact again I7 n7
    | brk => obtain ⟨σ7, H7, I7, q7⟩ := q7; exact ⟨σ7, H7, I7.unpinned, q7⟩
    | ret v => obtain ⟨x7, σ7, H7, I7, r7, q7⟩ := q7; exact ⟨x7, σ7, H7, I7.unpinned, r7, q7⟩
end
/-- over a list that the body leaves as it is -/
theorem for_list {K : PySem.W.Frag} {a : Addr} {xs : List V} {g : TG} {tb : TS} {D : Ends} {σ : St} {H : Hp} (Pv : Nat → St → Hp → Prop) (h0 : Pv 0 σ H) (hl : ∀ i σ H, i ≤ xs.length → Pv i σ H → SqL K H a xs)
    (hs : ∀ i x σ H, xs[i]? = some x → Pv i σ H → g x σ H fun σ2 H2 => tb { D with nx := Pv (i + 1), ct := Pv (i + 1), bk := D.nx } σ2 H2) (hd : ∀ σ H, Pv xs.length σ H → D.nx σ H) :
    ∃ W : Nat → Nat → St → Hp → Prop, (∃ m, W 0 m σ H) ∧ ∀ i m σ H, W i m σ H →
      ((Itl K a).stop i H ∧ D.nx σ H) ∨ ((Itl K a).go i H ∧ ∃ N : St → Hp → Prop, (∀ σ' H', N σ' H' → ∃ m', m' < m ∧ W (i + 1) m' σ' H') ∧ ∀ x H', (Itl K a).yld i H x H' → g x σ H' fun σ2 H2 => tb { D with nx := N, ct := N, bk := D.nx } σ2 H2) := by
  refine ⟨fun i m σ H => m = xs.length - i ∧ i ≤ xs.length ∧ Pv i σ H, ⟨xs.length, by simp, Nat.zero_le _, h0⟩, ?_⟩
  rintro i m σ H ⟨rfl, hi, p⟩
  have q := hl i σ H hi p
  by_cases hlt : i < xs.length
  · refine .inr ⟨⟨xs, xs[i], q, by simp [hlt]⟩, Pv (i + 1), fun σ' H' p' => ⟨xs.length - (i + 1), by omega, rfl, hlt, p'⟩, fun x H' y => ?_⟩
    obtain ⟨e, y⟩ := y
    subst e
    exact hs i x σ _ (y xs q) p
  · have e : i = xs.length := by omega
    subst e
    exact .inl ⟨⟨xs, q, Nat.le_refl _⟩, hd σ H p⟩
theorem for_range {lo : Int} {n : Nat} {g : TG} {tb : TS} {D : Ends} {σ : St} {H : Hp} (Pv : Nat → St → Hp → Prop) (h0 : Pv 0 σ H)
    (hs : ∀ i σ H, i < n → Pv i σ H → g (.int (lo + i)) σ H fun σ2 H2 => tb { D with nx := Pv (i + 1), ct := Pv (i + 1), bk := D.nx } σ2 H2) (hd : ∀ σ H, Pv n σ H → D.nx σ H) :
    ∃ W : Nat → Nat → St → Hp → Prop, (∃ m, W 0 m σ H) ∧ ∀ i m σ H, W i m σ H →
      ((Itr lo n).stop i H ∧ D.nx σ H) ∨ ((Itr lo n).go i H ∧ ∃ N : St → Hp → Prop, (∀ σ' H', N σ' H' → ∃ m', m' < m ∧ W (i + 1) m' σ' H') ∧ ∀ x H', (Itr lo n).yld i H x H' → g x σ H' fun σ2 H2 => tb { D with nx := N, ct := N, bk := D.nx } σ2 H2) := by
  refine ⟨fun i m σ H => m = n - i ∧ i ≤ n ∧ Pv i σ H, ⟨n, by simp, Nat.zero_le _, h0⟩, ?_⟩
  rintro i m σ H ⟨rfl, hi, p⟩
  by_cases hlt : i < n
  · refine .inr ⟨hlt, Pv (i + 1), fun σ' H' p' => ⟨n - (i + 1), by omega, rfl, hlt, p'⟩, fun x H' y => ?_⟩
    obtain ⟨e, y⟩ := y
    subst e y
    exact hs i σ _ hlt p
  · have e : i = n := by omega
    subst e
    exact .inl ⟨Nat.le_refl _, hd σ H p⟩
end L2
namespace L2
open PySem PySem.Spec PyProof.Rows
abbrev R2 := V → V → Hp → VK → Prop
/-- a two-place operation on values: f is binaryOp op, inplaceOp op or compareOp op -/
def OpR (X : Cx) (f : Value → Value → Sem Value) (r : R2) : Prop :=
  ∀ (pins : List (Addr × Obj)) (s : Shared) (σ : St) (H : Hp) (x y : V) (v u : Value) (Q : VK), Inv X pins σ H s → RelV x v → RelV y u → r x y H Q →
    wpAny (model X.prog X.w) X.A (f v u) (EP X pins σ Q) X.xe s
/-- a one-place operation -/
def UnR (X : Cx) (f : Value → Sem Value) (r : V → Hp → VK → Prop) : Prop :=
  ∀ (pins : List (Addr × Obj)) (s : Shared) (σ : St) (H : Hp) (x : V) (v : Value) (Q : VK), Inv X pins σ H s → RelV x v → r x H Q →
    wpAny (model X.prog X.w) X.A (f v) (EP X pins σ Q) X.xe s
/-- a call of a value that is known (a builtin, a type) with values -/
def CallR (X : Cx) (f : Value) (r : List V → Hp → VK → Prop) : Prop :=
  ∀ (pins : List (Addr × Obj)) (s : Shared) (σ : St) (H : Hp) (xs : List V) (us : List Value) (Q : VK), Inv X pins σ H s → Vals xs us → r xs H Q →
    wpAny (model X.prog X.w) X.A (call f us) (EP X pins σ Q) X.xe s
def tOp (r : R2) (ta tb : TE) : TE := fun σ H Q => ta σ H fun x H1 => tb σ H1 fun y H2 => r x y H2 Q
def tUn (r : V → Hp → VK → Prop) (ta : TE) : TE := fun σ H Q => ta σ H fun x H1 => r x H1 Q
/-- ints in, under C, and a value out -/
def rI (C : Int → Int → Prop) (g : Int → Int → V) : R2 := fun x y H Q => ∃ i j, x = .int i ∧ y = .int j ∧ C i j ∧ Q (g i j) H
def rI0 (g : Int → Int → V) : R2 := fun x y H Q => ∃ i j, x = .int i ∧ y = .int j ∧ Q (g i j) H
def rU (g : Int → V) : V → Hp → VK → Prop := fun x H Q => ∃ i, x = .int i ∧ Q (g i) H
section
variable {X : Cx} {a b c : Expr} {ta tb tc : TE} {pos : Pos}
theorem binT (ha : PE X a ta) (hb : PE X b tb) {pins : List (Addr × Obj)} {s : Shared} {σ : St} {H : Hp} {R : V → V → Hp → Prop} (I : Inv X pins σ H s)
    (h : ta σ H fun x H1 => tb σ H1 fun y H2 => R x y H2) {Q : Value → Shared → Prop} {f : Value → Value → Sem Value}
    (hf : ∀ v u s2 x y H2, Inv X pins σ H2 s2 → RelV x v → RelV y u → R x y H2 → wpAny (model X.prog X.w) X.A (f v u) Q X.xe s2) :
    wpAny (model X.prog X.w) X.A (eval a X.env) (fun v s₁ => wpAny (model X.prog X.w) X.A (eval b X.env) (fun u s₂ => wpAny (model X.prog X.w) X.A (f v u) Q X.xe s₂) X.xe s₁) X.xe s := by
  refine thn (ha pins s σ H _ I h) fun v s1 ⟨x, H1, I1, r1, q1⟩ => ?_
  refine thn (hb pins s1 σ H1 _ I1 q1) fun u s2 ⟨y, H2, I2, r2, q2⟩ => ?_
  exact hf v u s2 x y H2 I2 r1 r2 q2
theorem pe_op {op : Operator} {r : R2} (ho : OpR X (binaryOp op) r) (ha : PE X a ta) (hb : PE X b tb) : PE X (.BinOp a op b pos) (tOp r ta tb) := by
  intro pins s σ H Q I h
  exact wpAny_BinOp (binT ha hb I h fun v u s2 x y H2 I2 rx ry q => ho pins s2 σ H2 x y v u Q I2 rx ry q)
theorem pe_un {op : UnaryOp} {r : V → Hp → VK → Prop} (ho : UnR X (unaryOp op) r) (ha : PE X a ta) : PE X (.UnaryOp op a pos) (tUn r ta) := by
  intro pins s σ H Q I h
  exact UnaryOp_ (thn (ha pins s σ H _ I h) fun v s1 ⟨x, H1, I1, r1, q1⟩ => ho pins s1 σ H1 x v Q I1 r1 q1)
theorem opI {f : Value → Value → Sem Value} {C : Int → Int → Prop} {g : Int → Int → Int}
    (rule : ∀ (i j : Int) (t u : Tok) (s : Shared) (Q : Value → Shared → Prop) (E : Value → Shared → Prop), C i j → Q (.int (g i j) s.toks) { s with toks := s.toks + 1 } → wpAny (model X.prog X.w) X.A (f (.int i t) (.int j u)) Q E s) :
    OpR X f (rI C fun i j => .int (g i j)) := by
  intro pins s σ H x y v u Q I rx ry h
  obtain ⟨i, j, rfl, rfl, hc, q⟩ := h
  obtain ⟨t, rfl⟩ := rx
  obtain ⟨t', rfl⟩ := ry
  exact rule i j t t' s _ _ hc ⟨.int (g i j), H, I.tok _, ⟨_, rfl⟩, q⟩
theorem opI0 {f : Value → Value → Sem Value} {g : Int → Int → Int}
    (rule : ∀ (i j : Int) (t u : Tok) (s : Shared) (Q : Value → Shared → Prop) (E : Value → Shared → Prop), Q (.int (g i j) s.toks) { s with toks := s.toks + 1 } → wpAny (model X.prog X.w) X.A (f (.int i t) (.int j u)) Q E s) :
    OpR X f (rI0 fun i j => .int (g i j)) := by
  intro pins s σ H x y v u Q I rx ry h
  obtain ⟨i, j, rfl, rfl, q⟩ := h
  obtain ⟨t, rfl⟩ := rx
  obtain ⟨t', rfl⟩ := ry
  exact rule i j t t' s _ _ ⟨.int (g i j), H, I.tok _, ⟨_, rfl⟩, q⟩
theorem opB0 {f : Value → Value → Sem Value} {g : Int → Int → Bool}
    (rule : ∀ (i j : Int) (t u : Tok) (s : Shared) (Q : Value → Shared → Prop) (E : Value → Shared → Prop), Q (.bool (g i j)) s → wpAny (model X.prog X.w) X.A (f (.int i t) (.int j u)) Q E s) :
    OpR X f (rI0 fun i j => .bl (g i j)) := by
  intro pins s σ H x y v u Q I rx ry h
  obtain ⟨i, j, rfl, rfl, q⟩ := h
  obtain ⟨t, rfl⟩ := rx
  obtain ⟨t', rfl⟩ := ry
  exact rule i j t t' s _ _ ⟨.bl (g i j), H, I, rfl, q⟩
def CMul (i j : Int) : Prop := (-(2 ^ 64) < i ∧ i < 2 ^ 64) ∨ (-(2 ^ 64) < j ∧ j < 2 ^ 64)
theorem CMul.ok {i j : Int} (h : CMul i j) : IntMulOk i j := by
  rcases h with ⟨h1, h2⟩ | ⟨h1, h2⟩
  · exact .of_left (intBits_le_64 h1 h2)
  · exact .of_right (intBits_le_64 h1 h2)
theorem op_add : OpR X (binaryOp .Add) (rI0 fun i j => .int (i + j)) := opI0 fun _ _ _ _ _ _ _ q => add_int q
theorem op_sub : OpR X (binaryOp .Sub) (rI0 fun i j => .int (i - j)) := opI0 fun _ _ _ _ _ _ _ q => sub_int q
theorem op_mul : OpR X (binaryOp .Mult) (rI CMul fun i j => .int (i * j)) := opI fun _ _ _ _ _ _ _ hc q => mul_int q hc.ok
/-- % by a positive divisor of any size -/
theorem op_mod : OpR X (binaryOp .Mod) (rI (fun _ j => 0 < j) fun i j => .int (i % j)) := opI fun i j _ _ _ _ _ hc q => by
  have h1 : (0 : Int) < j := hc
  exact mod_int' (by omega) (by rw [Int.fmod_eq_emod_of_nonneg i (by omega)]; exact q)
theorem unI {f : Value → Sem Value} {g : Int → Int}
    (rule : ∀ (i : Int) (t : Tok) (s : Shared) (Q : Value → Shared → Prop) (E : Value → Shared → Prop), Q (.int (g i) s.toks) { s with toks := s.toks + 1 } → wpAny (model X.prog X.w) X.A (f (.int i t)) Q E s) :
    UnR X f (rU fun i => .int (g i)) := by
  intro pins s σ H x v Q I rx h
  obtain ⟨i, rfl, q⟩ := h
  obtain ⟨t, rfl⟩ := rx
  exact rule i t s _ _ ⟨.int (g i), H, I.tok _, ⟨_, rfl⟩, q⟩
theorem un_neg : UnR X (unaryOp .USub) (rU fun i => .int (-i)) := unI fun _ _ _ _ _ q => neg_int q
end
/-- the scalars that == tells apart as data does -/
def scal : V → V → Bool
  | .non, .non => true | .non, .int _ => true | .int _, .non => true | .non, .bl _ => true | .bl _, .non => true | .non, .str _ => true | .str _, .non => true
  | .int _, .int _ => true | .bl _, .bl _ => true | .str _, .str _ => true | .byt _, .byt _ => true
  | .int _, .str _ => true | .str _, .int _ => true | .bl _, .str _ => true | .str _, .bl _ => true
  | _, _ => false
def rEq : R2 := fun x y H Q => scal x y = true ∧ Q (.bl (decide (x = y))) H
def rNe : R2 := fun x y H Q => scal x y = true ∧ Q (.bl (!decide (x = y))) H
theorem dec_int {i j : Int} : decide (V.int i = V.int j) = (i == j) := by
  rw [Bool.eq_iff_iff]
  simp
theorem dec_bl {i j : Bool} : decide (V.bl i = V.bl j) = (i == j) := by
  rw [Bool.eq_iff_iff]
  simp
theorem dec_str {i j : Str} : decide (V.str i = V.str j) = (i == j) := by
  rw [Bool.eq_iff_iff]
  simp
theorem dec_byt {i j : Array UInt8} : decide (V.byt i = V.byt j) = (i.toList == j.toList) := by
  rw [Bool.eq_iff_iff]
  cases i
  cases j
  simp
section
variable {X : Cx} {a b c : Expr} {ta tb tc : TE} {pos : Pos}
theorem fin_bl {pins : List (Addr × Obj)} {σ : St} {H : Hp} {s : Shared} {Q : VK} {k k' : Bool} (I : Inv X pins σ H s) (q : Q (.bl k) H) (e : k = k') : EP X pins σ Q (.bool k') s := by
  subst e
  exact ⟨.bl k, H, I, rfl, q⟩
theorem op_eq : OpR X (compareOp .Eq) rEq := by
  intro pins s σ H x y v u Q I rx ry h
  obtain ⟨hs, q⟩ := h
  cases x with
  | non =>
    cases rx
    cases y with
    | non => cases ry; exact PySem.EqNone.eq_none_none (fin_bl I q (by simp))
    | bl j => cases ry; exact PySem.EqNone.eq_none_bool (fin_bl I q (by simp))
    | int j => obtain ⟨t', rfl⟩ := ry; exact PySem.EqNone.eq_none_int (fin_bl I q (by simp))
    | str j => obtain ⟨t', rfl⟩ := ry; exact PySem.EqNone.eq_none_str (fin_bl I q (by simp))
    | _ => exact absurd (show false = true from hs) Bool.false_ne_true
  | bl i =>
    cases rx
    cases y with
    | non => cases ry; exact PySem.EqNone.eq_bool_none (fin_bl I q (by simp))
    | bl j => cases ry; exact eq_bool (fin_bl I q dec_bl)
    | str j => obtain ⟨t', rfl⟩ := ry; exact PySem.EqMixed.eq_bool_str (fin_bl I q (by simp))
    | _ => exact absurd (show false = true from hs) Bool.false_ne_true
  | int i =>
    obtain ⟨t, rfl⟩ := rx
    cases y with
    | non => cases ry; exact PySem.EqNone.eq_int_none (fin_bl I q (by simp))
    | int j => obtain ⟨t', rfl⟩ := ry; exact eq_int (fin_bl I q dec_int)
    | str j => obtain ⟨t', rfl⟩ := ry; exact PySem.EqMixed.eq_int_str (fin_bl I q (by simp))
    | _ => exact absurd (show false = true from hs) Bool.false_ne_true
  | str i =>
    obtain ⟨t, rfl⟩ := rx
    cases y with
    | non => cases ry; exact PySem.EqNone.eq_str_none (fin_bl I q (by simp))
    | bl j => cases ry; exact PySem.EqMixed.eq_str_bool (fin_bl I q (by simp))
    | int j => obtain ⟨t', rfl⟩ := ry; exact PySem.EqMixed.eq_str_int (fin_bl I q (by simp))
    | str j => obtain ⟨t', rfl⟩ := ry; exact eq_str (fin_bl I q dec_str)
    | _ => exact absurd (show false = true from hs) Bool.false_ne_true
  | byt i =>
    obtain ⟨t, rfl⟩ := rx
    cases y with
    | byt j => obtain ⟨t', rfl⟩ := ry; exact PySem.W.eq_bytes (fin_bl I q dec_byt)
    | _ => exact absurd (show false = true from hs) Bool.false_ne_true
  | _ => cases y <;> exact absurd (show false = true from hs) Bool.false_ne_true
theorem op_ne : OpR X (compareOp .NotEq) rNe := by
  intro pins s σ H x y v u Q I rx ry h
  obtain ⟨hs, q⟩ := h
  cases x with
  | non =>
    cases rx
    cases y with
    | non => cases ry; exact PySem.EqNone.ne_none_none (fin_bl I q (by simp))
    | bl j => cases ry; exact PySem.EqNone.ne_none_bool (fin_bl I q (by simp))
    | int j => obtain ⟨t', rfl⟩ := ry; exact PySem.EqNone.ne_none_int (fin_bl I q (by simp))
    | str j => obtain ⟨t', rfl⟩ := ry; exact PySem.EqNone.ne_none_str (fin_bl I q (by simp))
    | _ => exact absurd (show false = true from hs) Bool.false_ne_true
  | bl i =>
    cases rx
    cases y with
    | non => cases ry; exact PySem.EqNone.ne_bool_none (fin_bl I q (by simp))
    | bl j => cases ry; exact ne_bool (fin_bl I q (congrArg not dec_bl))
    | str j => obtain ⟨t', rfl⟩ := ry; exact PySem.EqMixed.ne_bool_str (fin_bl I q (by simp))
    | _ => exact absurd (show false = true from hs) Bool.false_ne_true
  | int i =>
    obtain ⟨t, rfl⟩ := rx
    cases y with
    | non => cases ry; exact PySem.EqNone.ne_int_none (fin_bl I q (by simp))
    | int j => obtain ⟨t', rfl⟩ := ry; exact ne_int (fin_bl I q (congrArg not dec_int))
    | str j => obtain ⟨t', rfl⟩ := ry; exact PySem.EqMixed.ne_int_str (fin_bl I q (by simp))
    | _ => exact absurd (show false = true from hs) Bool.false_ne_true
  | str i =>
    obtain ⟨t, rfl⟩ := rx
    cases y with
    | non => cases ry; exact PySem.EqNone.ne_str_none (fin_bl I q (by simp))
    | bl j => cases ry; exact PySem.EqMixed.ne_str_bool (fin_bl I q (by simp))
    | int j => obtain ⟨t', rfl⟩ := ry; exact PySem.EqMixed.ne_str_int (fin_bl I q (by simp))
    | str j => obtain ⟨t', rfl⟩ := ry; exact ne_str (fin_bl I q (congrArg not dec_str))
    | _ => exact absurd (show false = true from hs) Bool.false_ne_true
  | byt i =>
    obtain ⟨t, rfl⟩ := rx
    cases y with
    | byt j => obtain ⟨t', rfl⟩ := ry; exact PySem.W.ne_bytes (fin_bl I q (congrArg not dec_byt))
    | _ => exact absurd (show false = true from hs) Bool.false_ne_true
  | _ => cases y <;> exact absurd (show false = true from hs) Bool.false_ne_true
theorem op_lt : OpR X (compareOp .Lt) (rI0 fun i j => .bl (decide (i < j))) := opB0 fun _ _ _ _ _ _ _ q => lt_int q
theorem op_gt : OpR X (compareOp .Gt) (rI0 fun i j => .bl (decide (j < i))) := opB0 fun _ _ _ _ _ _ _ q => gt_int q
/-- the one string within the other -/
theorem op_in_str : OpR X (compareOp .In) (fun x y H Q => ∃ i j, x = .str i ∧ y = .str j ∧ Q (.bl (!(Builtin.Str.occurrences j i 0 j.length 1).isEmpty)) H) := by
  intro pins s σ H x y v u Q I rx ry h
  obtain ⟨i, j, rfl, rfl, q⟩ := h
  obtain ⟨t, rfl⟩ := rx
  obtain ⟨t', rfl⟩ := ry
  exact in_str (fin_bl I q rfl)
theorem nomark (b : Expr) {op : CmpOp} (h : op ≠ .In := by decide) (h2 : op ≠ .NotIn := by decide) : behindInMarks op b = false := by
  have e1 : (op == CmpOp.In) = false := by cases op <;> first | rfl | exact absurd rfl h
  have e2 : (op == CmpOp.NotIn) = false := by cases op <;> first | rfl | exact absurd rfl h2
  cases b <;> simp [behindInMarks, e1, e2]
/-- a comparison as a value; hm: nomark b, or (for in, not in) by with_unfolding_all rfl -/
theorem pe_cmpR {op : CmpOp} {r : R2} (ho : OpR X (compareOp op) r) (ha : PE X a ta) (hb : PE X b tb) (hm : behindInMarks op b = false) : PE X (.Compare a [op] [b] pos) (tOp r ta tb) := by
  intro pins s σ H Q I h
  exact wpAny_Compare1 (binT ha hb I h fun v u s2 x y H2 I2 rx ry q => ho pins s2 σ H2 x y v u Q I2 rx ry q) hm
/-- a reading of a value as a test -/
def tTest (t : TE) : TT := fun σ H Q => t σ H fun x H' => ∃ k, x = .bl k ∧ Q k H'
theorem pt_cmpR {op : CmpOp} {r : R2} (ho : OpR X (compareOp op) r) (ha : PE X a ta) (hb : PE X b tb) (hm : behindInMarks op b = false) : PT X (.Compare a [op] [b] pos) (tTest (tOp r ta tb)) := by
  intro pins s σ H Q I h
  refine wpAny_isTrue_Compare1 (thn (ha pins s σ H _ I h) fun v s1 ⟨x, H1, I1, r1, q1⟩ => thn (hb pins s1 σ H1 _ I1 q1) fun u s2 ⟨y, H2, I2, r2, q2⟩ =>
    thn (ho pins s2 σ H2 x y v u _ I2 r1 r2 q2) fun c s3 ⟨z, H3, I3, r3, k, e, q3⟩ => ?_) hm
  subst e
  cases r3
  exact wpAny_truthy_bool ⟨H3, I3, q3⟩
theorem line63 : (sizeLine : Nat) < 2 ^ 63 := by rw [sizeLine_eq]; decide
theorem op_add_str : OpR X (binaryOp .Add) (fun x y H Q => ∃ i j, x = .str i ∧ y = .str j ∧ i.length + j.length ≤ sizeLine ∧ Q (.str (i ++ j)) H) := by
  intro pins s σ H x y v u Q I rx ry h
  obtain ⟨i, j, rfl, rfl, hz, q⟩ := h
  obtain ⟨t, rfl⟩ := rx
  obtain ⟨t', rfl⟩ := ry
  exact add_str (fun t' tk => ⟨.str (i ++ j), H, I.tok _, ⟨_, rfl⟩, q⟩) hz
theorem vals1 {x : V} {us : List Value} (r : Vals [x] us) : ∃ u, us = [u] ∧ RelV x u := by
  cases r with
  | cons r1 r2 => cases r2; exact ⟨_, rfl, r1⟩
theorem vals2 {x y : V} {us : List Value} (r : Vals [x, y] us) : ∃ u w', us = [u, w'] ∧ RelV x u ∧ RelV y w' := by
  cases r with
  | cons r1 r2 =>
    cases r2 with
    | cons r3 r4 => cases r4; exact ⟨_, _, rfl, r1, r3⟩
theorem call_min2 (hc : X.calm = true) : CallR X (.builtin "min") (fun xs H Q => ∃ i j, xs = [.int i, .int j] ∧ Q (.int (if j < i then j else i)) H) := by
  intro pins s σ H xs us Q I r h
  obtain ⟨i, j, rfl, q⟩ := h
  obtain ⟨u, w', rfl, ⟨t, rfl⟩, ⟨t', rfl⟩⟩ := vals2 r
  refine min_two_ints (I.ok.hd hc) fun h' tk k => ⟨_, H, I.kept k, ?_, q⟩
  by_cases hj : j < i
  · rw [if_pos hj, if_pos hj]; exact ⟨_, rfl⟩
  · rw [if_neg hj, if_neg hj]; exact ⟨_, rfl⟩
theorem call_str_int : CallR X (.type "str") (fun xs H Q => ∃ i, xs = [.int i] ∧ i.natAbs.log2 < 1920 ∧ Q (.str (toString i)) H) := by
  intro pins s σ H xs us Q I r h
  obtain ⟨i, rfl, hz, q⟩ := h
  obtain ⟨u, rfl, t, rfl⟩ := vals1 r
  exact PySem.P.str_of_int hz ⟨.str _, H, I.tok _, ⟨_, rfl⟩, q⟩
end
end L2
namespace L2
open PySem PySem.Spec PyProof.Rows
structure ObjM (h : Heap) (x dx C : Addr) (mA : Str → Option Value) : Prop where
  obj : h.get? x = some (PySem.W.instObj C dx)
  ns : h.Ns1 dx mA
  ne : dx ≠ x
theorem lookIn_ns {h : Heap} {dx : Addr} {mA : Str → Option Value} (n : h.Ns1 dx mA) : ∃ od, h.get? dx = some od ∧ ∀ name, PySem.W.lookIn name od = some (mA name) := by
  obtain ⟨o, es, ep, ho, hd, hk, _, hm⟩ := n
  refine ⟨o, ho, fun name => ?_⟩
  have e := hm name
  unfold nsFind findBy at e
  rw [← Array.find?_toList] at e
  unfold PySem.W.lookIn
  rw [hd]
  dsimp only
  split
  · rename_i y q
    rw [q] at e
    exact congrArg some e
  · rename_i q
    rw [q] at e
    have a : es.toList.any (·.refKey) = false := by
      rw [List.any_eq_false]
      intro y hy
      obtain ⟨z, t, hkey⟩ := hk y (Array.mem_toList_iff.mp hy)
      simp [DictEntry.refKey, hkey]
    have a' : ¬ es.toList.any (·.refKey) = true := by rw [a]; exact Bool.false_ne_true
    rw [if_neg a']
    exact congrArg some e
theorem ObjM.look {h : Heap} {x dx C : Addr} {mA : Str → Option Value} (I : ObjM h x dx C mA) : ∃ od, PySem.W.InstAt h x (PySem.W.instObj C dx) C (some od) ∧ ∀ name, PySem.W.lookIn name od = some (mA name) :=
  let ⟨od, ho, hl⟩ := lookIn_ns I.ns
  ⟨od, ⟨I.obj, rfl, rfl, ho⟩, hl⟩
section
variable {prog : Program} {w : World} {A : Around} {E : Value → Shared → Prop} {s : Shared} {K : PySem.W.Frag} {x dx C f : Addr} {mA : Str → Option Value} {name : Str} {v : Value}
end
section
variable {P : Program} {w : World} {H H' : Hp} {h h' : Heap} {a C dx : Addr} {fs fs' : List (Str × V)}
theorem ins_get (hok : HOk P w H h) (e : H a = some (.ins C dx fs)) : ∃ mA, ObjM h a dx C mA ∧ (∀ f, RelO (fs.lookup f) (mA f)) ∧ PySem.Within mA (fs.map (·.1)) ∧ fs.length ≤ 1000 ∧ H dx = some (.own a) := by
  obtain ⟨d, z, ne, ob, mA, n, r, q⟩ := (show ObjOk P w H h a (.ins C dx fs) from hok a _ e)
  exact ⟨mA, ⟨ob, n, ne⟩, r, q, z, d⟩
end
structure Cls (K : PySem.W.Frag) (C : Addr) : Prop where
  pg : PySem.W.plainGet K C Str.empty = true
  hd : PySem.W.hasDictIn K C = true
  po : PySem.W.plainOver K C = true
  sa : PySem.W.findIn K (.ref C) "__setattr__" = some (some (.builtin "object.__setattr__"))
theorem Cls.get {K : PySem.W.Frag} {C : Addr} (c : Cls K C) (f : Str) : PySem.W.plainGet K C f = true := c.pg
section
variable {X : Cx} {pins : List (Addr × Obj)} {σ : St} {H : Hp} {s : Shared} {a C dx : Addr} {fs : List (Str × V)} {f : Str} {v : V} {A : Around} {E : Value → Shared → Prop}
end
section
variable {X : Cx} {o e value : Expr} {f : Str} {pos pos' tpos : Pos} {ta tv : TE}
end
section
variable {X : Cx} {pins : List (Addr × Obj)} {σ : St} {H : Hp} {s : Shared} {A : Around} {E : Value → Shared → Prop} {Q : Value → Shared → Prop} {c : Value} {b : Bool}
/-- the type of a value, as the fragment's deciders take it; for an instance its class -/
inductive TyOf (K : PySem.W.Frag) (H : Hp) : V → Value → Prop where
  | non : TyOf K H .non (.type "NoneType")
  | bl (x : Bool) : TyOf K H (.bl x) (.type "bool")
  | int (i : Int) : TyOf K H (.int i) (.type "int")
  | str (x : Str) : TyOf K H (.str x) (.type "str")
  | flt (x : UInt64) : TyOf K H (.flt x) (.type "float")
  | lst {a : Addr} {xs : List V} (e : H a = some (.lst xs)) : TyOf K H (.ref a) (.type "list")
  | frz {a : Addr} {o : Obj} {xs : List V} (e : H a = some (.frz o (.lst xs))) : TyOf K H (.ref a) (.type "list")
  | tup {a : Addr} {xs : List V} (e : H a = some (.tup xs)) : TyOf K H (.ref a) (.type "tuple")
  | dK {a : Addr} {kvs : List (Key × V)} (e : H a = some (.dK kvs)) : TyOf K H (.ref a) (.type "dict")
  | dT {a : Addr} {kvs : List (List Key × V)} (e : H a = some (.dT kvs)) : TyOf K H (.ref a) (.type "dict")
  | ins {a C dx : Addr} {fs : List (Str × V)} (e : H a = some (.ins C dx fs)) (cl : Cls K C) (ha : PySem.W.findIn K (.ref C) "__class__" = some (some (.builtin "object.__class__")))
      (hn : PySem.W.specialIn K (.builtin "object.__class__") "__get__" = some (some (.builtin "getset_descriptor.__get__"))) (htk : PySem.W.takesIn K (.builtin "object.__class__") = some true)
      (hm : PySem.W.mroIn K C (.type "object") = some true) : TyOf K H (.ref a) (.ref C)
/-- isinstance(x, c) for one class c, a built-in or an own one: kitOne's answer -/
theorem isinst_ok {x : V} {u t : Value} (I : Inv X pins σ H s) (rx : RelV x u) (ty : TyOf X.K H x t) (e : PySem.W.kitOne X.K t c = some b) (h : ∀ tk, Q (.bool b) { s with toks := tk }) :
    wpAny (model X.prog X.w) A (call (.builtin "isinstance") [u, c]) Q E s := by
  cases ty with
  | non => cases (show u = Value.none from rx); exact PySem.W.kia_one PySem.W.kitx_none I.kIn True.intro e (fun z => nomatch z) h
  | bl y => cases (show u = Value.bool y from rx); exact PySem.W.kia_one PySem.W.kitx_bool I.kIn True.intro e (fun z => nomatch z) h
  | int i => obtain ⟨t, q⟩ := (show ∃ t, u = Value.int i t from rx); cases q; exact PySem.W.kia_one PySem.W.kitx_int I.kIn True.intro e (fun z => nomatch z) h
  | str y => obtain ⟨t, q⟩ := (show ∃ t, u = Value.str y t from rx); cases q; exact PySem.W.kia_one PySem.W.kitx_str I.kIn True.intro e (fun z => nomatch z) h
  | flt y => obtain ⟨t, q⟩ := (show ∃ t, u = Value.float y t from rx); cases q; exact PySem.W.kia_one PySem.W.kitx_float I.kIn True.intro e (fun z => nomatch z) h
  | @lst a xs ea =>
    cases (show u = Value.ref a from rx)
    obtain ⟨_, _, n, _, h1⟩ := (show ObjOk X.prog X.w H s.heap a (.lst xs) from I.hok a _ ea)
    exact PySem.W.kia_one PySem.W.kitx_list I.kIn ⟨_, h1, rfl⟩ e (fun z => nomatch z) h
  | @frz a ob xs ea =>
    cases (show u = Value.ref a from rx)
    obtain ⟨_, _, _, n, _, h1⟩ := (show ObjOk X.prog X.w H s.heap a (.frz ob (.lst xs)) from I.hok a _ ea)
    exact PySem.W.kia_one PySem.W.kitx_list I.kIn ⟨_, h1, rfl⟩ e (fun z => nomatch z) h
  | @tup a xs ea =>
    cases (show u = Value.ref a from rx)
    obtain ⟨_, _, _, p⟩ := (show ObjOk X.prog X.w H s.heap a (.tup xs) from I.hok a _ ea)
    obtain ⟨o, h1, h2, _⟩ := p
    exact PySem.W.kia_one PySem.W.kitx_tuple I.kIn ⟨o, h1, h2⟩ e (fun z => nomatch z) h
  | @dK a kvs ea =>
    cases (show u = Value.ref a from rx)
    obtain ⟨_, _, vs, _, p⟩ := (show ObjOk X.prog X.w H s.heap a (.dK kvs) from I.hok a _ ea)
    obtain ⟨o, es, ep, h1, h2, _⟩ := p
    exact PySem.W.kia_one PySem.W.kitx_dict I.kIn ⟨o, h1, h2.1⟩ e (fun z => nomatch z) h
  | @dT a kvs ea =>
    cases (show u = Value.ref a from rx)
    obtain ⟨_, _, xs, _, o, es, ep, h1, h2, _⟩ := (show ObjOk X.prog X.w H s.heap a (.dT kvs) from I.hok a _ ea)
    exact PySem.W.kia_one PySem.W.kitx_dict I.kIn ⟨o, h1, h2.1⟩ e (fun z => nomatch z) h
  | @ins a C dx fs ea cl ha hn htk hm =>
    cases (show u = Value.ref a from rx)
    obtain ⟨mA, O, _⟩ := ins_get I.hok ea
    obtain ⟨od, J, _⟩ := O.look
    exact PySem.W.kia_one (PySem.W.kitx_own (cl.get _) cl.hd ha hn htk hm) I.kIn J e (fun z => nomatch z) h
end
end L2
namespace L2
open PySem PySem.Spec PyProof.Rows
structure Room (k : Nat) (A : Around) : Prop where
  hd : A.handled = none
  dp : A.depth + 3 * k + 5 < recursionLimit
  un : A.units + 16 * k + 200 < cLine
theorem Room.mono {j k : Nat} {A : Around} (r : Room k A) (h : j ≤ k) : Room j A := ⟨r.hd, by have := r.dp; omega, by have := r.un; omega⟩
theorem Room.deeper {k : Nat} {A : Around} (r : Room (k + 1) A) (env : Env) : Room k (A.deeper env) :=
  ⟨r.hd, by have := r.dp; show A.depth + 1 + 3 * k + 5 < _; omega, by have := r.un; show A.units + 3 + 16 * k + 200 < _; omega⟩
theorem Room.depth {k : Nat} {A : Around} (r : Room k A) : A.depth < recursionLimit := by have := r.dp; omega
def tNil : TA := fun _ H Q => Q [] H
def tCons (ta : TE) (tr : TA) : TA := fun σ H Q => ta σ H fun x H1 => tr σ H1 fun xs H2 => Q (x :: xs) H2
section
variable {X : Cx} {e : Expr} {es : List Expr} {te : TE} {t : TA} {pos : Pos}
theorem pa_nil : PA X [] tNil := fun _ _ _ _ H Q I h => Calls.spliced_nil ⟨[], H, I, .nil, h⟩
theorem pa_cons (ha : PE X e te) (hr : PA X es t) (hs : starEach (e :: es) X.env = (false, eval e X.env) :: starEach es X.env := by rfl) : PA X (e :: es) (tCons te t) := by
  intro pos pins s σ H Q I h
  rw [hs]
  show wpAny _ _ (spliced ((false, eval e X.env) :: backTo pos (starEach es X.env))) _ _ s
  refine Calls.spliced_cons (thn (ha pins s σ H _ I h) fun u s1 ⟨x, H1, I1, r1, q1⟩ => ?_)
  exact thn (hr pos pins s1 σ H1 _ I1 q1) fun us s2 ⟨xs, H2, I2, r2, q2⟩ => ⟨x :: xs, H2, I2, .cons r1 r2, q2⟩
/-- a tuple, a list of written items -/
def tTup (t : TA) : TE := fun σ H Q => t σ H fun xs H1 => xs.length ≤ sizeLine ∧ ∀ p, H1 p = none → Q (.ref p) (upd H1 p (.tup xs))
def tLst (t : TA) : TE := fun σ H Q => t σ H fun xs H1 => xs.length ≤ sizeLine ∧ ∀ p, H1 p = none → Q (.ref p) (upd H1 p (.lst xs))
theorem pe_tup {x1} (h : PA X es t) : PE X (.Tuple es x1 pos) (tTup t) := by
  intro pins s σ H Q I hq
  refine wpAny_Tuple_spliced (thn (h pos pins s σ H _ I hq) fun us s1 ⟨xs, H1, I1, r, z, q⟩ => ⟨by rw [← r.length]; exact z, ?_⟩)
  have hf : H1 s1.heap.objs.size = none := I1.hok.fresh (Nat.le_refl _)
  refine ⟨.ref s1.heap.objs.size, upd H1 s1.heap.objs.size (.tup xs), I1.laid (t' := s1.toks) (fun b u e => Heap.get?_push_of_some _ e) (Nat.le_refl _) ?_, rfl, q _ hf⟩
  exact ⟨z, us, r, ⟨_, Heap.get?_push_size _ rfl, rfl, _, rfl⟩⟩
theorem pe_lst (h : PA X es t) : PE X (.List es pos) (tLst t) := by
  intro pins s σ H Q I hq
  refine wpAny_List_spliced (thn (h pos pins s σ H _ I hq) fun us s1 ⟨xs, H1, I1, r, z, q⟩ => ⟨by rw [← r.length]; exact z, ?_⟩)
  have hf : H1 s1.heap.objs.size = none := I1.hok.fresh (Nat.le_refl _)
  refine ⟨.ref s1.heap.objs.size, upd H1 s1.heap.objs.size (.lst xs), I1.laid (t' := s1.toks) (fun b u e => Heap.get?_push_of_some _ e) (Nat.le_refl _) ?_, rfl, q _ hf⟩
  exact ⟨z, us, 0, r, Heap.get?_push_size _ rfl⟩
end
/-- a def's promise: the bound arguments in the parameters' order, the heap, the wanted end, the wanted exception -/
abbrev Sp := List V → Hp → VK → XK → Prop
/-- how an exception lies behind a call (file 08 gives it): the callers' frames, abstract heap and state ahead of the call, the wish, the exception, the state -/
abbrev CXT := List Env → Hp → Shared → XK → Value → Shared → Prop
/-- the state at a call -/
structure Env0 (P : Program) (w : World) (K : PySem.W.Frag) (mg : Str → Option Value) (base : Heap) (A : Around) (outer : List Env) (s : Shared) (H : Hp) : Prop where
  frames : A.frames = some outer
  mod : Mod K mg base
  bs : ∀ b o, base.get? b = some o → s.heap.get? b = some o ∧ H b = none
  bsz : base.objs.size ≤ s.heap.objs.size
  funs : s.heap.FunFrames base outer
  frf : ∀ b ∈ frs outer, H b = none
  hok : HOk P w H s.heap
  bare : AllBare s.gens
/-- a call's end -/
def CE (outer : List Env) (P : Program) (w : World) (H : Hp) (s : Shared) (Q : VK) (u : Value) (s' : Shared) : Prop :=
  ∃ v H', s'.os = s.os ∧ AllBare s'.gens ∧ Un (frs outer) [] H H' s.heap s'.heap ∧ HOk P w H' s'.heap ∧ RelV v u ∧ Q v H'
def CR (CX : CXT) (outer : List Env) (P : Program) (w : World) (H : Hp) (s : Shared) (Q : VK) (E : XK) (r : Result) (s' : Shared) : Prop :=
  match r with
  | .ok (.ret u) => CE outer P w H s Q u s'
  | .ok _ => False
  | .error e => CX outer H s E e s'
structure FnOk (P : Program) (w : World) (K : PySem.W.Frag) (mg : Str → Option Value) (base : Heap) (CX : CXT) (k : Nat) (f : Addr) (fd : FuncData) (ps : List Str) (sp : Sp) : Prop where
  len : ∀ vs H Q E, sp vs H Q E → vs.length = ps.length
  run : ∀ (A : Around) (outer : List Env) (s : Shared) (H : Hp) (args : Args) (us : List Value) (vs : List V) (Q : VK) (E : XK), Room k A → Env0 P w K mg base A outer s H → BindsTo s fd args (ps.zip us) → Vals vs us → sp vs H Q E →
    codeAny (model P w) A (.call (.ref f) args) (CR CX outer P w H s Q E) s
section
variable {X : Cx} {pins : List (Addr × Obj)} {σ : St} {H : Hp} {s s' : Shared}
/-- from a body: what a callee wants -/
theorem Inv.env0 (I : Inv X pins σ H s) : Env0 X.prog X.w X.K X.mg X.base X.A X.stack s H :=
  ⟨I.ok.frames, I.ok.mod, I.bs, Nat.le_trans I.ok.bsz I.sz, I.stack, I.stkFree, I.hok, I.bare⟩
/-- behind a call -/
theorem Inv.after {Q : VK} {u : Value} (I : Inv X pins σ H s) (h : CE X.stack X.prog X.w H s Q u s') : EP X pins σ Q u s' := by
  obtain ⟨v, H', os, bare, un, hok, r, q⟩ := h
  obtain ⟨hh, g, d, t, os'⟩ := s'
  obtain rfl : os' = s.os := os
  exact ⟨v, H', I.call (h' := hh) (g' := g) (d' := d) (t' := t) (ch := []) un hok bare (fun b z => absurd z (by simp)), r, q⟩
end
/-- f(..): the written arguments, then the defaults dvs; E: what is wanted of an exception -/
def tCall (sp : Sp) (dvs : List V) (E : XK) (t : TA) : TE := fun σ H Q => t σ H fun vs H1 => sp (vs ++ dvs) H1 Q E
/-- how the parameters are bound: us the positional arguments, kw the keywords' values by name, ds the defaults that fill up -/
def Binds (K : PySem.W.Frag) (fd : FuncData) (ps : List Str) (ds : List Value) : Prop :=
  ∀ (s : Shared) (us : List Value), K.In s.heap → (us ++ ds).length = ps.length → BindsTo s fd ⟨us, []⟩ (ps.zip (us ++ ds))
/-- every parameter is given -/
theorem Binds.all {K : PySem.W.Frag} {fd : FuncData} {ps : List Str} (h : ∀ us : List Value, us.length = ps.length → bindArgs fd ⟨us, []⟩ = pure (ps.zip us)) : Binds K fd ps [] := fun s us _ hl => by
  rw [List.append_nil] at hl ⊢
  exact .of_eq (h us hl)
/-- an exception of a callee reaches what this body wants of exceptions -/
def Passes (CX : CXT) (X : Cx) (E : XK) : Prop := ∀ (pins : List (Addr × Obj)) (σ : St) (H : Hp) (s : Shared) (e : Value) (s' : Shared), Inv X pins σ H s → CX X.stack H s E e s' → X.xe e s'
section
variable {X : Cx} {CX : CXT} {k : Nat} {f C : Addr} {fd : FuncData} {ps : List Str} {sp : Sp} {dvs : List V} {ds : List Value} {E : XK} {x m : Str} {p pos apos : Pos} {e o : Expr} {es : List Expr} {ta : TE} {t : TA}
/-- the callee runs -/
theorem run_fn {pins : List (Addr × Obj)} {σ : St} {H : Hp} {s : Shared} {Q : VK} {us : List Value} {vs : List V} (F : FnOk X.prog X.w X.K X.mg X.base CX k f fd ps sp) (hr : Room k X.A) (hb : Binds X.K fd ps ds) (hd : Vals dvs ds) (hx : Passes CX X E)
    (I : Inv X pins σ H s) (r : Vals vs us) (h : sp (vs ++ dvs) H Q E) : wpAny (model X.prog X.w) X.A (call (.ref f) us) (EP X pins σ Q) X.xe s := by
  have r2 : Vals (vs ++ dvs) (us ++ ds) := r.append hd
  have hl : (us ++ ds).length = ps.length := by rw [← r2.length]; exact F.len _ _ _ _ h
  refine wpAny_call (codeAny_mono (F.run X.A X.stack s H ⟨us, []⟩ (us ++ ds) (vs ++ dvs) Q E hr I.env0 (hb s us I.kIn hl) r2 h) fun r s' hq => ?_)
  cases r with
  | error e => exact hx pins σ H s e s' I hq
  | ok fl =>
    cases fl with
    | ret u => exact I.after hq
    | next => exact False.elim hq
    | brk => exact False.elim hq
    | cont => exact False.elim hq
theorem pe_call (F : FnOk X.prog X.w X.K X.mg X.base CX k f fd ps sp) (hr : Room k X.A) (hg : Gl X x) (hm : X.mg x = some (.ref f)) (hk : PySem.W.keepIn X.K (.ref f) = true) (hb : Binds X.K fd ps ds) (hd : Vals dvs ds) (hx : Passes CX X E)
    (ha : PA X (e :: es) t) (hdb : (x == ("__debug__" : Str)) = false := by decide) (he : starEach (e :: es) X.env = (false, eval e X.env) :: starEach es X.env := by rfl) (hpl : (backTo pos (starEach es X.env)).any (·.1) = false := by rfl) :
    PE X (.Call (.Name x p) (e :: es) [] pos) (tCall sp dvs E t) := by
  intro pins s σ H Q I h
  refine wpAny_Call_Name_kw (ld_glob I hg hm ?_ hdb)
  refine PySem.W.callWith_K (h₀ := X.base) I.ok.mod.kin hk (thn (ha pos pins s σ H _ I h) fun us s1 ⟨vs, H1, I1, r, q⟩ => ⟨I1.kIn, ?_⟩) he hpl
  exact run_fn F hr hb hd hx I1 r q
theorem pe_call0 (F : FnOk X.prog X.w X.K X.mg X.base CX k f fd ps sp) (hr : Room k X.A) (hg : Gl X x) (hm : X.mg x = some (.ref f)) (hk : PySem.W.keepIn X.K (.ref f) = true) (hb : Binds X.K fd ps ds) (hd : Vals dvs ds) (hx : Passes CX X E)
    (hdb : (x == ("__debug__" : Str)) = false := by decide) : PE X (.Call (.Name x p) [] [] pos) (tCall sp dvs E tNil) := by
  intro pins s σ H Q I h
  refine wpAny_Call_Name_kw (ld_glob I hg hm ?_ hdb)
  exact PySem.W.callWith_K0 I.kIn hk (run_fn (us := []) F hr hb hd hx I .nil h)
end
section
variable {X : Cx} {CX : CXT} {k : Nat} {f C : Addr} {fd : FuncData} {ps ks : List Str} {sp : Sp} {E : XK} {x m : Str} {p pos apos kpos : Pos} {e o : Expr} {es : List Expr} {kws : List Keyword} {te ta : TE} {t tk : TA} {nm : Option Str}
variable {g : List Value → List Value → List Value} {gV : List V → List V → List V}
end
/-- names: the parameters first -/
structure FnScope (N P : List Str) (sc : Scope) : Prop where
  kind : sc.kind = .function
  co : sc.isCoroutine = false
  gen : sc.isGenerator = false
  nd : N.Nodup
  pre : N.take P.length = P
  par : ∀ x ∈ P, sc.names.lookup x = some .local ∨ sc.names.lookup x = some .cell
  nofree : ∀ y ∈ sc.names, y.2 ≠ .free
theorem bindL_out {kindOf : Str → Option NameKind} {x : Str} : ∀ {binds : List (Str × Value)} {m : Str → Option Value}, (∀ v, (x, v) ∉ binds) → bindL kindOf binds m x = m x
  | [], _, _ => rfl
  | (n, v) :: r, m, h => by
    unfold bindL
    rw [bindL_out fun w hw => h w (List.mem_cons_of_mem _ hw)]
    split
    · have : x ≠ n := by rintro rfl; exact h v List.mem_cons_self
      simp [this]
    · rfl
theorem bindC_out {kindOf : Str → Option NameKind} {x : Str} : ∀ {binds : List (Str × Value)} {m : Str → Option Value}, (∀ v, (x, v) ∉ binds) → bindC kindOf binds m x = m x
  | [], _, _ => rfl
  | (n, v) :: r, m, h => by
    unfold bindC
    rw [bindC_out fun w hw => h w (List.mem_cons_of_mem _ hw)]
    split
    · rfl
    · have : x ≠ n := by rintro rfl; exact h v List.mem_cons_self
      simp [this]
theorem bindL_get {kindOf : Str → Option NameKind} {x : Str} {v : Value} : ∀ {P : List Str} {vs : List Value} {i : Nat} {m : Str → Option Value}, P.Nodup → P[i]? = some x → vs[i]? = some v → kindOf x = some .local →
    bindL kindOf (P.zip vs) m x = some v
  | [], _, _, _, _, h, _, _ => by simp at h
  | _ :: _, [], _, _, _, _, h, _ => by simp at h
  | p :: P, w :: vs, 0, m, nd, h1, h2, hk => by
    simp at h1 h2; subst h1; subst h2
    show bindL kindOf ((p, w) :: P.zip vs) m p = _
    unfold bindL
    rw [bindL_out fun v hv => (List.nodup_cons.mp nd).1 (List.of_mem_zip hv).1, if_pos hk]
    simp
  | p :: P, w :: vs, i + 1, m, nd, h1, h2, hk => by
    show bindL kindOf ((p, w) :: P.zip vs) m x = _
    unfold bindL
    exact bindL_get (i := i) (List.nodup_cons.mp nd).2 (by simpa using h1) (by simpa using h2) hk
theorem bindC_get {kindOf : Str → Option NameKind} {x : Str} {v : Value} : ∀ {P : List Str} {vs : List Value} {i : Nat} {m : Str → Option Value}, P.Nodup → P[i]? = some x → vs[i]? = some v → kindOf x ≠ some .local →
    bindC kindOf (P.zip vs) m x = some v
  | [], _, _, _, _, h, _, _ => by simp at h
  | _ :: _, [], _, _, _, _, h, _ => by simp at h
  | p :: P, w :: vs, 0, m, nd, h1, h2, hk => by
    simp at h1 h2; subst h1; subst h2
    show bindC kindOf ((p, w) :: P.zip vs) m p = _
    unfold bindC
    rw [bindC_out fun v hv => (List.nodup_cons.mp nd).1 (List.of_mem_zip hv).1, if_neg hk]
    simp
  | p :: P, w :: vs, i + 1, m, nd, h1, h2, hk => by
    show bindC kindOf ((p, w) :: P.zip vs) m x = _
    unfold bindC
    exact bindC_get (i := i) (List.nodup_cons.mp nd).2 (by simpa using h1) (by simpa using h2) hk
/-- the names' values at the entry -/
def start (N : List Str) (vs : List V) : St := vs.map some ++ List.replicate (N.length - vs.length) none
/-- the context of a def's body, at its entry; an exception leaves the frame, then lies as CX says -/
def cxOf (CX : CXT) (P : Program) (w : World) (K : PySem.W.Frag) (mg : Str → Option Value) (base : Heap) (N : List Str) (qual : Str) (scope : Scope) (f : Addr) (cd : Value) (A : Around) (outer : List Env) (s : Shared) (H : Hp) (E : XK) : Cx where
  prog := P
  w := w
  K := K
  mg := mg
  base := base
  A := A.deeper (envOfC qual scope s.heap.objs.size f cd)
  N := N
  s₀ := s
  H₀ := H
  env := envOfC qual scope s.heap.objs.size f cd
  outer := outer
  stack := envOfC qual scope s.heap.objs.size f cd :: outer
  ex := []
  calm := true
  fn := fun _ => true
  pn := []
  xe := fun e s' => wpAny (model P w) (A.deeper (envOfC qual scope s.heap.objs.size f cd)) (leaving (envOfC qual scope s.heap.objs.size f cd) e) (fun _ s'' => CX outer H s E e s'') (fun e' s'' => CX outer H s E e' s'') s'
theorem cell_has {sc : Scope} {n : Nat} {x : Str} (h : sc.names.lookup x = some .cell) : ∃ c, (cellsFrom n sc.names []).lookup x = some c := by
  have q := PySem.W.cellsFrom_some sc.names n [] (.inl h)
  exact Option.isSome_iff_exists.mp q
theorem inv_start {CX : CXT} {P : Program} {w : World} {K : PySem.W.Frag} {mg : Str → Option Value} {base : Heap} {N ps : List Str} {qual : Str} {scope : Scope} {f : Addr} {cd : Value} {A : Around} {outer : List Env} {s s1 : Shared} {H : Hp} {E : XK} {us : List Value} {vs : List V}
    (S : FnScope N ps scope) (hd : A.handled = none) (e0 : Env0 P w K mg base A outer s H) (hl : vs.length = ps.length) (r : Vals vs us)
    (x : InCallC s s.heap.objs.size (bindL (envOfC qual scope s.heap.objs.size f cd).kindOf (ps.zip us) fun _ => none) (cellsFrom (s.heap.objs.size + 1) scope.names []) (bindC (envOfC qual scope s.heap.objs.size f cd).kindOf (ps.zip us) fun _ => none) s1) :
    Inv (cxOf CX P w K mg base N qual scope f cd A outer s H E) [] (start N vs) H s1 := by
  have hpl : ps.length ≤ N.length := by have := congrArg List.length S.pre; rw [List.length_take] at this; omega
  obtain ⟨h1, tk, rfl, hk⟩ := x.done
  have noA : ∀ b : Addr, b ∉ (cxOf CX P w K mg base N qual scope f cd A outer s H E).ex := fun b z => absurd (show b ∈ ([] : List Addr) from z) (by simp)
  refine ⟨⟨e0.mod, S.kind, rfl, rfl, Nat.le_refl _, fun y z c h1 h2 => ?_, fun y hy => ?_, fun y c _ h => ?_, fun _ => hd, Around.frames_deeper e0.frames, .inr ⟨rfl, rfl⟩, fun b z => absurd z (noA b), e0.bs, e0.bsz, fun b _ _ => noA b, fun b z => absurd z (noA b), e0.funs, e0.frf⟩,
    rfl, e0.bare, Un.kept hk, ⟨_, x.toInCall.ns, fun i y v h1 h2 h3 => ?_⟩, fun y c h => ⟨_, x.cell y c h⟩, e0.hok.fresh (Nat.le_refl _), fun y c h => ?_, fun p hp => absurd (show p ∈ ([] : List (Addr × Obj)) from hp) (by simp), e0.hok.kept hk, ?_⟩
  · exact name_of_addr x.apart (PySem.mem_of_lookup h1) (PySem.mem_of_lookup h2)
  · have hy : scope.names.lookup y = some .cell ∨ scope.names.lookup y = some .free := hy
    rcases hy with hy | hy
    · exact cell_has hy
    · exact absurd rfl (S.nofree _ (PySem.mem_of_lookup hy))
  · exact Nat.le_of_lt (x.above y c (PySem.mem_of_lookup h))
  · have hi : i < vs.length := by
      unfold start at h2
      by_cases hi : i < vs.length
      · exact hi
      · rw [List.getElem?_append_right (by simpa using hi)] at h2
        rw [List.getElem?_replicate] at h2
        split at h2 <;> cases h2
    have ha : vs[i]? = some v := by
      unfold start at h2
      rw [List.getElem?_append_left (by simpa using hi), List.getElem?_map] at h2
      cases e : vs[i]? with
      | none => rw [e] at h2; cases h2
      | some a => rw [e] at h2; cases h2; rfl
    obtain ⟨u, hu, rv⟩ := r.get ha
    have hp : ps[i]? = some y := by
      rw [← S.pre, List.getElem?_take_of_lt (by omega)]; exact h1
    have ndP : ps.Nodup := by rw [← S.pre]; exact S.nd.sublist (List.take_sublist _ _)
    refine ⟨u, rv, ?_⟩
    rcases S.par y (List.mem_of_getElem? hp) with k | k
    · exact .inl ⟨k, bindL_get ndP hp hu k⟩
    · obtain ⟨c, e⟩ := cell_has (n := s.heap.objs.size + 1) k
      refine .inr ⟨.inl k, c, e, ?_⟩
      have q := x.cell y c e
      rw [bindC_get ndP hp hu (by show scope.names.lookup y ≠ _; rw [k]; decide)] at q
      exact q
  · exact e0.hok.fresh (Nat.le_of_lt (x.above y c (PySem.mem_of_lookup h)))
  · unfold start
    show _ = N.length
    rw [List.length_append, List.length_map, List.length_replicate]
    omega
/-- THE RULE: a def (or a method) of the text, by its body. The body's reading t is chosen for each entry; it is run at the parameters' values -/
theorem fn_of {CX : CXT} {P : Program} {w : World} {K : PySem.W.Frag} {mg : Str → Option Value} {base : Heap} {k : Nat} {f : Addr} {name qual : Str} {params : Arguments} {body : List Stmt} {scope : Scope} {dV kV doc pm cdv ct oc : Value} {an od : Option Addr}
    {osl : Array (Option Value)} {N ps : List Str} {sp : Sp} (lk : K.lookup f = some ⟨oc, od, .func (PySem.W.fnOf name qual params body scope dV kV doc pm an cdv ct), osl⟩) (hcd : PySem.W.codeIn K cdv qual = true) (S : FnScope N ps scope)
    (len : ∀ vs H Q E, sp vs H Q E → vs.length = ps.length)
    (hbody : ∀ (A : Around) (outer : List Env) (s : Shared) (H : Hp) (vs : List V) (Q : VK) (E : XK), Room k (A.deeper (envOfC qual scope s.heap.objs.size f cdv)) → sp vs H Q E →
      ∃ t, PSs (cxOf CX P w K mg base N qual scope f cdv A outer s H E) body t ∧ t { nx := fun _ H' => Q .non H', rt := Q } (start N vs) H) :
    FnOk P w K mg base CX (k + 1) f (PySem.W.fnOf name qual params body scope dV kV doc pm an cdv ct) ps sp := by
  refine ⟨len, fun A outer s H args us vs Q E hr e0 hb r hsp => ?_⟩
  have hl := len _ _ _ _ hsp
  have KX : K.In s.heap := e0.mod.kin.keeps fun b o e => (e0.bs b o e).1
  have lim : s.heap.NoLimit := e0.mod.nolimit.keeps fun b o e => (e0.bs b o e).1
  have hkind : ∀ y ∈ ps.zip us, scope.names.lookup y.1 = some .local ∨ (scope.names.lookup y.1 = some .cell ∧ ((cellsFrom (s.heap.objs.size + 1) scope.names []).lookup y.1).isSome = true) := fun ⟨n, v⟩ hy => by
    rcases S.par n (List.of_mem_zip hy).1 with q | q
    · exact .inl q
    · exact .inr ⟨q, PySem.W.cellsFrom_some _ _ _ (.inl q)⟩
  refine codeAny_call_function hr.depth (KX _ _ lk) rfl S.co S.gen rfl (PySem.W.codeRec_of KX hcd) (hb _ _ _ _ ?_)
  refine wpAny_newFunctionEnv_cells S.kind hkind fun env he s1 x => ?_
  subst he
  refine ⟨lim.keeps x.toInCall.keep, codeAny_func ?_⟩
  obtain ⟨t, ht, hq⟩ := hbody A outer s H vs Q E (hr.deeper _) hsp
  have I : Inv (cxOf CX P w K mg base N qual scope f cdv A outer s H E) [] (start N vs) H s1 := inv_start S hr.hd e0 hl r x
  refine wpAny_mono (ht [] s1 (start N vs) H _ I hq) (fun fl s' hs => ?_) fun e s' hs => hs
  have fin : ∀ {σ' : St} {H' : Hp} {v : V} {u : Value}, Inv (cxOf CX P w K mg base N qual scope f cdv A outer s H E) [] σ' H' s' → RelV v u → Q v H' → CE outer P w H s Q u s' :=
    fun {σ' H' v u} J rv q => ⟨v, H', J.os, J.bare, J.base, J.hok, rv, q⟩
  cases fl with
  | ret u =>
    obtain ⟨v, σ', H', J, rv, q⟩ := hs
    exact fin J rv q
  | next =>
    obtain ⟨σ', H', J, q⟩ := hs
    exact fin (v := V.non) (u := Value.none) J rfl q
  | brk =>
    obtain ⟨_, _, _, q⟩ := hs
    exact False.elim q
  | cont =>
    obtain ⟨_, _, _, q⟩ := hs
    exact False.elim q
end L2
namespace L2
open PySem PySem.Spec PyProof.Rows
section
variable {X : Cx} {x : Str} {p pos : Pos} {e : Expr} {es : List Expr} {t : TA} {id T : String} {r : List V → Hp → VK → Prop}
def tCB (r : List V → Hp → VK → Prop) (t : TA) : TE := fun σ H Q => t σ H fun vs H1 => r vs H1 Q
/-- f(e, ..), f a built-in function -/
theorem pe_callB (hc : CallR X (.builtin id) r) (hg : Gl X x) (hm : X.mg x = none) (hv : bootBuiltins x = some (.builtin id)) (ha : PA X (e :: es) t) (hn : x ≠ "__name__" := by decide) (hdb : (x == ("__debug__" : Str)) = false := by decide)
    (he : starEach (e :: es) X.env = (false, eval e X.env) :: starEach es X.env := by rfl) (hpl : (backTo pos (starEach es X.env)).any (·.1) = false := by rfl) : PE X (.Call (.Name x p) (e :: es) [] pos) (tCB r t) := by
  intro pins s σ H Q I h
  refine wpAny_Call_Name_kw (ld_blt I hg hm hv ?_ hn hdb)
  exact PyProof.Rows.callWith_builtin1 (thn (ha pos pins s σ H _ I h) fun us s1 ⟨vs, H1, I1, r1, q1⟩ => hc pins s1 σ H1 vs us Q I1 r1 q1) he hpl
/-- T(e, ..), T a built-in type -/
theorem pe_callTy (hc : CallR X (.type T) r) (hg : Gl X x) (hm : X.mg x = none) (hv : bootBuiltins x = some (.type T)) (ha : PA X (e :: es) t) (hn : x ≠ "__name__" := by decide) (hdb : (x == ("__debug__" : Str)) = false := by decide)
    (he : starEach (e :: es) X.env = (false, eval e X.env) :: starEach es X.env := by rfl) (hpl : (backTo pos (starEach es X.env)).any (·.1) = false := by rfl) : PE X (.Call (.Name x p) (e :: es) [] pos) (tCB r t) := by
  intro pins s σ H Q I h
  refine wpAny_Call_Name_kw (ld_blt I hg hm hv ?_ hn hdb)
  exact PyProof.Rows.callWith_type1 (thn (ha pos pins s σ H _ I h) fun us s1 ⟨vs, H1, I1, r1, q1⟩ => hc pins s1 σ H1 vs us Q I1 r1 q1) he hpl
end
end L2
namespace HT
open PySem PyProof.Rows
section
open PySem.SeqAt
open PySem.AutoSeq1 (wpAny_loadPart')
open PySem.MeetsSeq PySem.MeetsSeq2 PySem.MeetsSeq3
end
section
variable {prog : Program} {w : World} {A : Around} {E : Value → Shared → Prop} {s : Shared}
/-- a slice's bound as a place among n (d where it is left out) -/
def sIx (n d : Nat) : Option Int → Nat
  | none => d
  | some v => if v < 0 then (v + (n : Int)).toNat else min v.toNat n
end
end HT
namespace L2
open PySem PySem.Spec PyProof.Rows
abbrev TO := St → Hp → (Option Int → Hp → Prop) → Prop
/-- a slice's part (left out, or an int) -/
def PO (X : Cx) (e : Option Expr) (t : TO) : Prop :=
  ∀ (pins : List (Addr × Obj)) (s : Shared) (σ : St) (H : Hp) (Q : Option Int → Hp → Prop), Inv X pins σ H s → t σ H Q →
    wpAny (model X.prog X.w) X.A (evalPart e X.env) (fun u s' => ∃ o H', Inv X pins σ H' s' ∧ IsPart u o ∧ Q o H') X.xe s
def tNoPart : TO := fun _ H Q => Q none H
def tPart (t : TE) : TO := fun σ H Q => t σ H fun x H1 => ∃ i, x = .int i ∧ Q (some i) H1
section
variable {X : Cx} {e : Expr} {te : TE} {lo hi : Option Expr} {tl th : TO} {pos p2 : Pos}
theorem po_none : PO X none tNoPart := by
  intro pins s σ H Q I h
  rw [evalPart_none]
  exact wpAny_pure ⟨none, H, I, .none, h⟩
theorem po_some (h : PE X e te) : PO X (some e) (tPart te) := by
  intro pins s σ H Q I hw
  rw [evalPart_some]
  refine thn (h pins s σ H _ I hw) fun u s1 ⟨x, H1, I1, r1, q1⟩ => ?_
  obtain ⟨i, rfl, q⟩ := q1
  obtain ⟨t, rfl⟩ := r1
  exact ⟨some i, H1, I1, .int i t, q⟩
/-- what a slice of a value is, by values: the slice object stands at sl -/
def SlR (X : Cx) (r : V → Option Int → Option Int → Hp → VK → Prop) : Prop :=
  ∀ (pins : List (Addr × Obj)) (s : Shared) (σ : St) (H : Hp) (x : V) (v vl vu : Value) (lo hi : Option Int) (sl : Addr) (Q : VK), Inv X pins σ H s → RelV x v → s.heap.IsSliceOf sl vl vu .none → IsPart vl lo → IsPart vu hi → r x lo hi H Q →
    ∃ T id, typeLookup (.type T) "__getitem__" = pure (some (.builtin id)) ∧ s.TypeIs v T ∧ wpAny (model X.prog X.w) X.A (getItem v (.ref sl)) (EP X pins σ Q) X.xe s
def tSl (r : V → Option Int → Option Int → Hp → VK → Prop) (te : TE) (tl th : TO) : TE := fun σ H Q => te σ H fun x H1 => tl σ H1 fun l H2 => th σ H2 fun u H3 => r x l u H3 Q
/-- a[lo:hi], any a -/
theorem pe_slice {r : V → Option Int → Option Int → Hp → VK → Prop} (hr : SlR X r) (he : PE X e te) (hl : PO X lo tl) (hu : PO X hi th) : PE X (.Subscript e (.Slice lo hi none p2) pos) (tSl r te tl th) := by
  intro pins s σ H Q I h
  refine Subscript_ (thn (he pins s σ H _ I h) fun v s1 ⟨x, H1, I1, r1, q1⟩ => ?_)
  refine wpAny_Slice (thn (hl pins s1 σ H1 _ I1 q1) fun vl s2 ⟨l, H2, I2, pl, q2⟩ => thn (hu pins s2 σ H2 _ I2 q2) fun vu s3 ⟨u, H3, I3, pu, q3⟩ => ?_)
  rw [evalPart_none]
  refine wpAny_pure ?_
  have I4 : Inv X pins σ H3 { s3 with heap := s3.heap.push { cls := .type "slice", data := .fields #[vl, vu, .none] } } := I3.kept (t' := s3.toks) fun b ob q => Heap.get?_push_of_some _ q
  obtain ⟨T, id, hT, ht, hg⟩ := hr pins { s3 with heap := s3.heap.push { cls := .type "slice", data := .fields #[vl, vu, .none] } } σ H3 x v vl vu l u s3.heap.objs.size Q I4 r1 (Heap.IsSliceOf.new ..) pl pu q3
  show wpAny (model X.prog X.w) X.A (subscriptTail e (.Slice lo hi none p2) v (.ref s3.heap.objs.size)) (EP X pins σ Q) X.xe { s3 with heap := s3.heap.push { cls := .type "slice", data := .fields #[vl, vu, .none] } }
  exact tail_any (ops := [.ref s3.heap.objs.size, v]) ht hT hg (by with_unfolding_all rfl)
/-- the items of xs[lo:hi] -/
def cutV (xs : List V) (lo hi : Option Int) : List V := (xs.drop (HT.sIx xs.length 0 lo)).take (HT.sIx xs.length xs.length hi - HT.sIx xs.length 0 lo)
theorem cutV_length (xs : List V) (lo hi : Option Int) : (cutV xs lo hi).length ≤ xs.length := by
  unfold cutV
  rw [List.length_take, List.length_drop]
  omega
end
end L2
namespace L2
open PySem PySem.Spec PyProof.Rows
/-- the place that an index of any sign means -/
def ixN (n : Nat) (i : Int) : Option Nat := if 0 ≤ i then (if i < n then some i.toNat else none) else if -(n : Int) ≤ i then some (i + n).toNat else none
def atI {α : Type} (xs : List α) (i : Int) : Option α := (ixN xs.length i).bind fun j => xs[j]?
theorem ixN_seq {n : Nat} {i : Int} {j : Nat} (h : ixN n i = some j) : seqIndex? i n = some j ∧ j < n ∧ -(n : Int) ≤ i ∧ i < n := by
  unfold ixN at h
  by_cases h0 : 0 ≤ i
  · rw [if_pos h0] at h
    by_cases h1 : i < n
    · rw [if_pos h1] at h
      have e : i.toNat = j := Option.some.inj h
      exact ⟨by rw [seqIndex_of h0 h1, e], by omega, by omega, h1⟩
    · rw [if_neg h1] at h; cases h
  · rw [if_neg h0] at h
    by_cases h1 : -(n : Int) ≤ i
    · rw [if_pos h1] at h
      have e : (i + n).toNat = j := Option.some.inj h
      exact ⟨by rw [seqIndex_neg (by omega) h1, e], by omega, h1, by omega⟩
    · rw [if_neg h1] at h; cases h
theorem atI_get {α : Type} {xs : List α} {i : Int} {v : α} (h : atI xs i = some v) : ∃ j, seqIndex? i xs.length = some j ∧ xs[j]? = some v ∧ j < xs.length ∧ -(xs.length : Int) ≤ i ∧ i < xs.length := by
  unfold atI at h
  cases e : ixN xs.length i with
  | none => rw [e] at h; cases h
  | some j =>
    rw [e] at h
    obtain ⟨h1, h2, h3, h4⟩ := ixN_seq e
    exact ⟨j, h1, h, h2, h3, h4⟩
theorem atI_nat {α : Type} {xs : List α} {j : Nat} {v : α} (h : xs[j]? = some v) : atI xs (j : Int) = some v := by
  have hj : j < xs.length := (List.getElem?_eq_some_iff.mp h).1
  have e : ixN xs.length (j : Int) = some j := by
    unfold ixN
    rw [if_pos (by omega), if_pos (by omega)]; simp
  unfold atI; rw [e]; exact h
/-- what stands as an index of a plain subscript -/
def PlainIx (b : Expr) : Prop := ∀ o i, subscripted b false o i = operate [o, i] (getItem o i)
/-- a subscript by values -/
def IxR (X : Cx) (r : R2) : Prop :=
  ∀ (value slice : Expr) (pins : List (Addr × Obj)) (s : Shared) (σ : St) (H : Hp) (x y : V) (v u : Value) (Q : VK), Inv X pins σ H s → RelV x v → RelV y u → r x y H Q →
    subscripted slice false v u = operate [v, u] (getItem v u) → wpAny (model X.prog X.w) X.A (subscriptTail value slice v u) (EP X pins σ Q) X.xe s
/-- a call of a builtin's method by values: the receiver, the arguments -/
def MtR (X : Cx) (id : String) (r : V → List V → Hp → VK → Prop) : Prop :=
  ∀ (pins : List (Addr × Obj)) (s : Shared) (σ : St) (H : Hp) (x : V) (xs : List V) (v : Value) (us : List Value) (Q : VK), Inv X pins σ H s → RelV x v → Vals xs us → r x xs H Q →
    wpAny (model X.prog X.w) X.A (call (.builtin id) (v :: us)) (EP X pins σ Q) X.xe s
section
variable {X : Cx} {a b : Expr} {ta tb : TE} {pos : Pos}
/-- a[b] -/
theorem pe_ix {r : R2} (hr : IxR X r) (ha : PE X a ta) (hb : PE X b tb) (hs : PlainIx b) : PE X (.Subscript a b pos) (tOp r ta tb) := by
  intro pins s σ H Q I h
  exact Subscript_ (binT ha hb I h fun v u s2 x y H2 I2 rx ry q => hr a b pins s2 σ H2 x y v u Q I2 rx ry q (hs _ _))
def rIxL (K : PySem.W.Frag) : R2 := fun x y H Q => ∃ p xs i v, x = .ref p ∧ y = .int i ∧ SqL K H p xs ∧ atI xs i = some v ∧ Q v H
def rIxT (K : PySem.W.Frag) : R2 := fun x y H Q => ∃ p xs i v, x = .ref p ∧ y = .int i ∧ SqT K H p xs ∧ atI xs i = some v ∧ Q v H
def rIxS : R2 := fun x y H Q => ∃ z i c, x = .str z ∧ y = .int i ∧ z.length ≤ sizeLine ∧ atI z.cps.toList i = some c ∧ Q (.str ⟨#[c]⟩) H
theorem ix_list : IxR X (rIxL X.K) := by
  intro value slice pins s σ H x y v u Q I rx ry h hs
  obtain ⟨p, xs, i, z, rfl, rfl, hq, he, q⟩ := h
  cases rx
  obtain ⟨t, rfl⟩ := ry
  obtain ⟨its, r, pl, hz⟩ := I.list hq
  obtain ⟨j, h1, h2, h3, h4, h5⟩ := atI_get he
  obtain ⟨w, ew, rw'⟩ := r.get h2
  have hl := r.length
  have hn := line63
  have fin : EP X pins σ Q w s := ⟨z, H, I, rw', q⟩
  by_cases h0 : 0 ≤ i
  · have hj : i.toNat = j := by
      rw [seqIndex_of h0 h5] at h1
      exact Option.some.inj h1
    exact item_listR pl.isList h0 (by omega) (by rw [hj]; simpa using ew) fin hs
  · have hj : (i + (its.toArray.size : Int)).toNat = j := by
      rw [seqIndex_neg (by omega) h4] at h1
      rw [List.size_toArray, ← hl]
      exact Option.some.inj h1
    exact subscriptTail_builtinR (x := w) pl.isList.typeIs slot_list_getitem.lookup
      (wpAny_getItem_list_neg (Q := fun r s' => r = w ∧ EP X pins σ Q r s') pl.isList (by omega) (by rw [List.size_toArray] <;> omega) (by omega) (by rw [hj]; simpa using ew) ⟨rfl, fin⟩) hs
theorem ix_tup : IxR X (rIxT X.K) := by
  intro value slice pins s σ H x y v u Q I rx ry h hs
  obtain ⟨p, xs, i, z, rfl, rfl, hq, he, q⟩ := h
  cases rx
  obtain ⟨t, rfl⟩ := ry
  obtain ⟨its, r, pl, hz⟩ := I.tuple hq
  obtain ⟨j, h1, h2, h3, h4, h5⟩ := atI_get he
  obtain ⟨w, ew, rw'⟩ := r.get h2
  have hl := r.length
  have hn := line63
  have fin : EP X pins σ Q w s := ⟨z, H, I, rw', q⟩
  exact subscriptTail_builtinR (x := w) pl.typeIs slot_tuple_getitem.lookup
    (getItem_tuple (j := j) (Q := fun r s' => r = w ∧ EP X pins σ Q r s') pl (by omega) (by omega) (by rw [List.size_toArray, ← hl]; exact h1) (by simpa using ew) ⟨rfl, fin⟩) hs
theorem ix_str : IxR X rIxS := by
  intro value slice pins s σ H x y v u Q I rx ry h hs
  obtain ⟨z, i, c, rfl, rfl, hz, he, q⟩ := h
  obtain ⟨t, rfl⟩ := rx
  obtain ⟨t', rfl⟩ := ry
  obtain ⟨j, h1, h2, h3, h4, h5⟩ := atI_get he
  have hl : z.cps.toList.length = z.length := by simp [Str.length]
  rw [hl] at h1 h4 h5
  have hn := line63
  exact tail_any (typeIs_str s z t) slot_str_getitem.lookup (getItem_str (c := c) (by
    have e1 : decide (i < -(2 ^ 63 : Int)) = false := decide_eq_false (by omega)
    have e2 : decide (i ≥ 2 ^ 63) = false := decide_eq_false (by omega)
    rw [e1, e2, Bool.or_false]) (by rw [h1]; simpa using h2) ⟨.str ⟨#[c]⟩, H, I.tok _, ⟨_, rfl⟩, q⟩) hs
theorem slice_bounds (lo hi : Option Int) (n : Nat) : (sliceBounds lo hi none n).1 = ((HT.sIx n 0 lo : Nat) : Int) ∧ (sliceBounds lo hi none n).2.1 = ((HT.sIx n n hi : Nat) : Int) ∧ (sliceBounds lo hi none n).2.2 = 1 := by
  refine ⟨?_, ?_, rfl⟩
  · cases lo with
    | none => simp [sliceBounds, HT.sIx]
    | some i =>
      simp only [sliceBounds, HT.sIx, Option.getD_none, show (1 : Int) > 0 by decide, if_true]
      by_cases h : i < 0
      · simp only [h, if_true] <;> omega
      · simp only [h, if_false] <;> omega
  · cases hi with
    | none => simp [sliceBounds, HT.sIx]
    | some i =>
      simp only [sliceBounds, HT.sIx, Option.getD_none, show (1 : Int) > 0 by decide, if_true]
      by_cases h : i < 0
      · simp only [h, if_true] <;> omega
      · simp only [h, if_false] <;> omega
theorem slicePick_cut (its : List Value) (lo hi : Option Int) : slicePick its.toArray lo hi none = ((its.drop (HT.sIx its.length 0 lo)).take (HT.sIx its.length its.length hi - HT.sIx its.length 0 lo)).toArray := by
  obtain ⟨h1, h2, h3⟩ := slice_bounds lo hi its.toArray.size
  unfold slicePick
  rw [h1, h2, h3]
  simp only [sliceRange_one, pick_run, List.size_toArray] <;> rfl
/-- xs[lo:hi] of a list: a new list -/
def rSlL (K : PySem.W.Frag) : V → Option Int → Option Int → Hp → VK → Prop := fun x lo hi H Q => ∃ a xs, x = .ref a ∧ SqL K H a xs ∧ ∀ p, H p = none → Q (.ref p) (upd H p (.lst (cutV xs lo hi)))
theorem sl_list : SlR X (rSlL X.K) := by
  intro pins s σ H x v vl vu lo hi sl Q I rx hs pl pu h
  obtain ⟨a, xs, rfl, hx, q⟩ := h
  cases rx
  obtain ⟨its, r, ht, hz⟩ := I.list hx
  have hlen := r.length
  refine ⟨"list", _, slot_list_getitem.lookup, ht.isList.typeIs, ?_⟩
  refine wpAny_getItem_list_slice ht.isList hs pl pu .none (by simp) ?_ (by rw [List.size_toArray] <;> omega)
  rw [slicePick_cut, ← hlen]
  refine ⟨.ref s.heap.objs.size, _, I.laid (t' := s.toks) (o := .lst (cutV xs lo hi)) (fun b ob q => Heap.get?_push_of_some _ q) (Nat.le_refl _) ?_, rfl, q _ (I.hok.fresh (Nat.le_refl _))⟩
  exact ⟨Nat.le_trans (cutV_length xs lo hi) hz, _, 0, (r.drop (HT.sIx xs.length 0 lo)).take (HT.sIx xs.length xs.length hi - HT.sIx xs.length 0 lo), Heap.get?_push_size _ rfl⟩
theorem call_len_seq : CallR X (.builtin "len") (fun xs H Q => ∃ p ys, xs = [.ref p] ∧ (SqL X.K H p ys ∨ SqT X.K H p ys) ∧ Q (.int ys.length) H) := by
  intro pins s σ H xs us Q I r h
  obtain ⟨p, ys, rfl, hq, q⟩ := h
  obtain ⟨u, rfl, rx⟩ := vals1 r
  cases rx
  have hn := line63
  rcases hq with hq | hq
  · obtain ⟨its, r', pl, hz⟩ := I.list hq
    have hlen := r'.length
    exact Calls.call_len_list pl.isList (by simp only [List.size_toArray] <;> omega) ⟨.int ys.length, H, I.tok _, ⟨s.toks + 1, by rw [List.size_toArray, hlen]⟩, q⟩
  · obtain ⟨its, r', pl, hz⟩ := I.tuple hq
    have hlen := r'.length
    exact len_tuple pl (by simp only [List.size_toArray] <;> omega) ⟨.int ys.length, H, I.tok _, ⟨s.toks + 1, by rw [List.size_toArray, hlen]⟩, q⟩
theorem call_list_of : CallR X (.type "list") (fun xs H Q => ∃ p ys, xs = [.ref p] ∧ (SqL X.K H p ys ∨ SqT X.K H p ys) ∧ ∀ l, H l = none → Q (.ref l) (upd H l (.lst ys))) := by
  intro pins s σ H xs us Q I r h
  obtain ⟨p, ys, rfl, hq, q⟩ := h
  obtain ⟨u, rfl, rx⟩ := vals1 r
  cases rx
  have fin : ∀ (its : List Value), Vals ys its → ys.length ≤ sizeLine → ∀ (h' : Heap) (c' : Nat), (∀ b o', s.heap.get? b = some o' → h'.get? b = some o') →
      h'.get? s.heap.objs.size = some { cls := .type "list", dict := none, data := .seq its.toArray c', slots := #[] } → EP X pins σ Q (.ref s.heap.objs.size) { s with heap := h' } := fun its r' hz h' c' kp e =>
    ⟨.ref s.heap.objs.size, _, I.laid (t' := s.toks) kp (Nat.le_refl _) (show ObjOk X.prog X.w _ h' _ (.lst ys) from ⟨hz, its, c', r', e⟩), rfl, q _ (I.hok.fresh (Nat.le_refl _))⟩
  rcases hq with hq | hq
  · obtain ⟨its, r', pl, hz⟩ := I.list hq
    have hlen := r'.length
    obtain ⟨o, ho, hc, n, hd⟩ := pl.isList
    exact call_list_seq p (.inl rfl) ho hc hd (fun h' c' kp e => fin its r' hz h' c' kp e) (by simp only [List.size_toArray] <;> omega)
  · obtain ⟨its, r', pl, hz⟩ := I.tuple hq
    have hlen := r'.length
    obtain ⟨o, ho, hc, n, hd⟩ := pl
    exact call_list_seq p (.inr rfl) ho hc hd (fun h' c' kp e => fin its r' hz h' c' kp e) (by simp only [List.size_toArray] <;> omega)
theorem call_tuple_of : CallR X (.type "tuple") (fun xs H Q => ∃ p ys, xs = [.ref p] ∧ ((SqL X.K H p ys ∧ ∀ l, H l = none → Q (.ref l) (upd H l (.tup ys))) ∨ (SqT X.K H p ys ∧ Q (.ref p) H))) := by
  intro pins s σ H xs us Q I r h
  obtain ⟨p, ys, rfl, h⟩ := h
  obtain ⟨u, rfl, rx⟩ := vals1 r
  cases rx
  rcases h with ⟨hq, q⟩ | ⟨hq, q⟩
  · obtain ⟨its, r', pl, hz⟩ := I.list hq
    have hlen := r'.length
    refine call_tuple_list pl.isList (fun h' kp => ?_) (by simp only [List.size_toArray] <;> omega)
    have I1 : Inv X pins σ H { s with heap := h' } := I.kept (t' := s.toks) kp
    have I2 : Inv X pins σ (upd H h'.objs.size (.tup ys)) { s with heap := h'.push { cls := .type "tuple", data := .seq its.toArray } } :=
      I1.laid (t' := s.toks) (fun b o e => Heap.get?_push_of_some _ e) (Nat.le_refl _) (show ObjOk X.prog X.w _ _ _ (.tup ys) from ⟨hz, its, r', IsTup.new _ _⟩)
    exact ⟨.ref h'.objs.size, _, I2, rfl, q _ (I1.hok.fresh (Nat.le_refl _))⟩
  · obtain ⟨its, r', pl, hz⟩ := I.tuple hq
    exact call_tuple_same pl ⟨.ref p, H, I, rfl, q⟩
/-- the value is of that builtin type -/
def tyV (K : PySem.W.Frag) (T : String) (x : V) (H : Hp) : Prop := match x with
  | .str _ => T = "str"
  | .int _ => T = "int"
  | .ref p => (T = "list" ∧ ∃ xs, SqL K H p xs) ∨ (T = "tuple" ∧ ∃ o, K.lookup p = some o ∧ o.cls = .type "tuple" ∧ o.dict = none) ∨
      (T = "dict" ∧ ((∃ kvs, H p = some (.dK kvs)) ∨ ∃ kvs, H p = some (.dT kvs))) ∨ (T = "set" ∧ ∃ S n, H p = some (.set S n))
  | _ => False
theorem tyV_is {pins : List (Addr × Obj)} {σ : St} {H : Hp} {s : Shared} {T : String} {x : V} {v : Value} (I : Inv X pins σ H s) (r : RelV x v) (ty : tyV X.K T x H) :
    s.TypeIs v T ∧ ∀ a, v = .ref a → ∃ ob, s.heap.get? a = some ob ∧ ob.dict = none := by
  cases x with
  | str z =>
    obtain ⟨t, rfl⟩ := r
    cases (show T = "str" from ty)
    exact ⟨typeIs_str s z t, fun _ e => nomatch e⟩
  | int i =>
    obtain ⟨t, rfl⟩ := r
    cases (show T = "int" from ty)
    exact ⟨typeIs_int s i t, fun _ e => nomatch e⟩
  | ref p =>
    cases r
    rcases ty with ⟨rfl, xs, hq⟩ | ⟨rfl, o, hk, hc, hd⟩ | ⟨rfl, hk⟩ | ⟨rfl, S, n, hk⟩
    · obtain ⟨its, _, pl, _⟩ := I.list hq
      refine ⟨pl.isList.typeIs, fun a e => ?_⟩
      cases e
      obtain ⟨o, n, e, c, hd, _⟩ := pl
      exact ⟨o, e, hd⟩
    · refine ⟨⟨o, I.kIn p o hk, hc⟩, fun a e => ?_⟩
      cases e
      exact ⟨o, I.kIn _ o hk, hd⟩
    · have z : ∃ o, s.heap.get? p = some o ∧ o.ExactDict := by
        rcases hk with ⟨kvs, hk⟩ | ⟨kvs, hk⟩
        · obtain ⟨_, _, _, _, o, _, _, e, ex, _⟩ := I.hok p _ hk
          exact ⟨o, e, ex⟩
        · obtain ⟨_, _, _, _, o, _, _, e, ex, _⟩ := I.hok p _ hk
          exact ⟨o, e, ex⟩
      obtain ⟨o, e, ex⟩ := z
      refine ⟨⟨o, e, ex.1⟩, fun a e2 => ?_⟩
      cases e2
      exact ⟨o, e, ex.2.1⟩
    · obtain ⟨o, _, _, _, e, ex, _⟩ := I.hok p _ hk
      refine ⟨⟨o, e, ex.1⟩, fun a e2 => ?_⟩
      cases e2
      exact ⟨o, e, ex.2.1⟩
  | _ => exact False.elim ty
def tBM (K : PySem.W.Frag) (T : String) (r : V → List V → Hp → VK → Prop) (to : TE) (t : TA) : TE := fun σ H Q => to σ H fun x H1 => tyV K T x H1 ∧ t σ H1 fun xs H2 => r x xs H2 Q
variable {o e : Expr} {es : List Expr} {to : TE} {t : TA} {name : Str} {apos cpos : Pos} {T id : String} {r : V → List V → Hp → VK → Prop}
theorem pe_bm (pa : PlainAttrs T) (slot : Slot T name id) (hty : typeOf (.builtin id) = pure (.type "method_descriptor")) (hm : MtR X id r) (ho : PE X o to) (ha : PA X (e :: es) t)
    (hbase : attributeBase o name X.env (eval o X.env) = eval o X.env := by rfl)
    (hfew : ((backTo cpos (starEach (e :: es) X.env)).all (fun x => !x.1) && (backToKw cpos (keywordEach [] X.env)).all (fun x => x.1.isSome)
      && decide ((e :: es).length + ([] : List Keyword).length + (if ([] : List Keyword).isEmpty then 0 else 1) < 30)) = true := by rfl)
    (hline : (apos.endLine == cpos.line) = true := by rfl) (hs : starEach (e :: es) X.env = (false, eval e X.env) :: starEach es X.env := by rfl) (hplain : (backTo cpos (starEach es X.env)).any (·.1) = false := by rfl) :
    PE X (.Call (.Attribute o name apos) (e :: es) [] cpos) (tBM X.K T r to t) := by
  intro pins s σ H Q I h
  refine wpAny_Call_method_late hbase hfew hline rfl (thn (ho pins s σ H _ I h) fun v s1 ⟨x, H1, I1, r1, ty, q1⟩ => ?_)
  obtain ⟨h1, h2⟩ := tyV_is I1 r1 ty
  refine ⟨T, id, pa, slot, hty, h1, h2, ?_⟩
  have hA := ha cpos pins s1 σ H1 _ I1 q1
  rw [hs] at hA ⊢
  refine Calls.callWith_builtin (by show (false || (backTo cpos (starEach es X.env)).any (·.1)) = false; rw [hplain] <;> rfl) (Calls.evalArgs_plain ?_)
  exact thn hA fun us s2 ⟨vs, H2, I2, r2, q2⟩ => hm pins s2 σ H2 x vs v us Q I2 r1 r2 q2
/- xs.append(e), list.index on a module's tuple .. are MtR facts of 06m -/
end
end L2
namespace L2
open PySem PySem.Spec PyProof.Rows
def MtM (X : Cx) (id : String) (r : V → List V → Hp → VK → Prop) : Prop :=
  ∀ (pins : List (Addr × Obj)) (s : Shared) (σ : St) (H : Hp) (x : V) (xs : List V) (v : Value) (us : List Value) (Q : VK), Inv X pins σ H s → RelV x v → Vals xs us → r x xs H Q →
    wpAny (model X.prog X.w) X.A (call (.builtin id) (v :: us)) (EP X pins σ Q) X.xe s
theorem Vals.one : ∀ {x : V} {us : List Value}, Vals [x] us → ∃ u, us = [u] ∧ RelV x u
  | _, _, .cons r .nil => ⟨_, rfl, r⟩
section
variable {X : Cx} {pins : List (Addr × Obj)} {σ : St} {H : Hp} {s : Shared} {l b : Addr} {xs ys zs : List V}
theorem Inv.lset {its its' : List Value} {n : Nat} {f : Array Value → Array Value} {t' : Nat} (I : Inv X pins σ H s) (hH : H l = some (.lst xs))
    (e : s.heap.get? l = some { cls := .type "list", data := .seq its.toArray n }) (hf : f its.toArray = its'.toArray) (hv : Vals ys its') (hz : ys.length ≤ sizeLine) :
    Inv X pins σ (upd H l (.lst ys)) { s with heap := s.heap.update l (Obj.mapSeq f), toks := t' } := by
  have q := PySem.IsL.update e f
  rw [hf] at q
  refine I.write (x := l) (e := l) (by rw [hH]; exact trivial) (.inl rfl) (fun b' u hb hu => (Heap.get?_update_other s.heap (Obj.mapSeq f) (Ne.symm hb)).trans hu) ⟨_, q⟩ ?_
  exact ⟨hz, its', _, hv, q⟩
theorem Inv.lnew {its : List Value} {t' : Nat} (I : Inv X pins σ H s) (hv : Vals ys its) (hz : ys.length ≤ sizeLine) :
    Inv X pins σ (upd H s.heap.objs.size (.lst ys)) { s with heap := s.heap.push { cls := .type "list", data := .seq its.toArray }, toks := t' } :=
  I.laid (fun _ _ q => Heap.get?_push_of_some _ q) (Nat.le_refl _) ⟨hz, its, 0, hv, Heap.get?_push_size _ rfl⟩
theorem Inv.fresh (I : Inv X pins σ H s) : H s.heap.objs.size = none := I.hok.fresh (Nat.le_refl _)
theorem Inv.lstM (I : Inv X pins σ H s) (hH : H l = some (.lst xs)) : xs.length ≤ sizeLine ∧ ∃ (its : List Value) (n : Nat), Vals xs its ∧ xs.length = its.length ∧ s.heap.get? l = some { cls := .type "list", data := .seq its.toArray n } := by
  obtain ⟨z, its, n, r, e⟩ := I.hok l _ hH
  exact ⟨z, its, n, r, r.length, e⟩
theorem notLongL {n : Nat} (h : n ≤ sizeLine) : Builtin.List.listTooLong n = false := by
  unfold Builtin.List.listTooLong
  exact decide_eq_false (by omega)
end
section
variable {X : Cx}
def rAppend : V → List V → Hp → VK → Prop := fun x vs H Q => ∃ l xs y, x = .ref l ∧ vs = [y] ∧ H l = some (.lst xs) ∧ xs.length < sizeLine ∧ Q .non (upd H l (.lst (xs ++ [y])))
theorem mt_append : MtM X "list.append" rAppend := by
  intro pins s σ H x vs v us Q I rx rv h
  obtain ⟨l, xs, y, rfl, rfl, hH, hz, q⟩ := h
  cases rx
  obtain ⟨u, rfl, ru⟩ := rv.one
  obtain ⟨z, its, n, r, hl, e⟩ := I.lstM hH
  refine call_meets F.slot_list_append ⟨_, e, rfl⟩ F.entry_list_append (F.args_list_append_2 _ _) (PySem.list_append l its.toArray n u (by rw [List.size_toArray]; omega)) ⟨e, ?_⟩
  refine ⟨.non, _, I.lset (its' := its ++ [u]) hH e (by simp) (r.append (.cons ru .nil)) ?_, rfl, q⟩
  rw [List.length_append, List.length_singleton]
  omega
def rExtend : V → List V → Hp → VK → Prop := fun x vs H Q => ∃ l b xs zs, x = .ref l ∧ vs = [.ref b] ∧ H l = some (.lst xs) ∧ H b = some (.lst zs) ∧ xs.length + zs.length ≤ sizeLine ∧ Q .non (upd H l (.lst (xs ++ zs)))
theorem mt_extend : MtM X "list.extend" rExtend := by
  intro pins s σ H x vs v us Q I rx rv h
  obtain ⟨l, b, xs, zs, rfl, rfl, hH, hB, hz, q⟩ := h
  cases rx
  obtain ⟨u, rfl, ru⟩ := rv.one
  cases ru
  obtain ⟨z, its, n, r, hl, e⟩ := I.lstM hH
  obtain ⟨z2, its2, n2, r2, hl2, e2⟩ := I.lstM hB
  have hsz : its.toArray.size + its2.toArray.size ≤ sizeLine := by rw [List.size_toArray, List.size_toArray]; omega
  have hlong : ¬ (!its.toArray.isEmpty && Builtin.List.listTooLong (its.toArray.size + its2.toArray.size)) = true := by
    rw [notLongL hsz, Bool.and_false]
    exact Bool.false_ne_true
  refine call_meets F.slot_list_extend ⟨_, e, rfl⟩ F.entry_list_extend (F.args_list_extend_2 _ _)
    (AutoSeq1.list_extend_list_list_0 l its.toArray n b its2.toArray n2 hlong (by rw [List.size_toArray]; omega) (by omega)) ⟨e, e2, ?_⟩
  refine ⟨.non, _, I.lset (its' := its ++ its2) hH e (by simp) (r.append r2) ?_, rfl, q⟩
  rw [List.length_append]
  omega
def rCat : R2 := fun x y H Q => ∃ l b xs zs, x = .ref l ∧ y = .ref b ∧ H l = some (.lst xs) ∧ H b = some (.lst zs) ∧ xs.length + zs.length ≤ sizeLine ∧ ∀ p, H p = none → Q (.ref p) (upd H p (.lst (xs ++ zs)))
theorem op_cat : OpR X (binaryOp .Add) rCat := by
  intro pins s σ H x y v u Q I rx ry h
  obtain ⟨l, b, xs, zs, rfl, rfl, hH, hB, hz, q⟩ := h
  cases rx
  cases ry
  obtain ⟨z, its, n, r, hl, e⟩ := I.lstM hH
  obtain ⟨z2, its2, n2, r2, hl2, e2⟩ := I.lstM hB
  refine PySem.P.add_list e e2 ?_ (by rw [List.size_toArray, List.size_toArray]; omega)
  have ea : its.toArray ++ its2.toArray = (its ++ its2).toArray := by simp
  rw [ea]
  exact ⟨.ref _, _, I.lnew (t' := s.toks) (r.append r2) (by rw [List.length_append]; omega), rfl, q _ I.fresh⟩
end
section
variable {prog : Program} {w : World} {A : Around} {E : Value → Shared → Prop} {s : Shared}
end
section
variable {X : Cx}
end
end L2
namespace Att
open PySem PySem.W PySem.Calls PyProof.Rows
theorem ints_of_wellAll {P : Params} {h : Heap} : ∀ (ns : List Int) (vs : List Value), WellAll P h vs (ns.map WData.int) → IntsAre vs ns := by
  intro ns
  induction ns with
  | nil =>
    intro vs w
    rw [List.map_nil] at w
    cases w
    exact .nil
  | cons n ns ih =>
    intro vs w
    rw [List.map_cons] at w
    cases w with
    | cons a b =>
      cases a
      exact .cons _ _ (ih _ b)
theorem script_of {l : OpenLaw} {n : Nat} (hn : l.most = some n) {P : Params} {h : Heap} {args : List WData} {vals : List Value}
    (hpre : l.row.toRowW.claim.pre args = true) (hwl : WellAll P h vals args) :
    ∃ a vs ns, vals = [Value.ref a] ∧ args = [WData.list (ns.map WData.int)] ∧ h.get? a = some { cls := .type "list", data := .seq vs.toArray } ∧ IntsAre vs ns ∧ ns.length ≤ n := by
  have hsh : WShape.hasAll [] args [.list .int] = true := (pre_splitW hpre).1
  have hc : l.pre.holds [] { args := args } = true := (pre_splitW hpre).2
  obtain ⟨d, r, rfl, h1, h2⟩ := hasAllW_cons hsh
  obtain rfl := hasAllW_nil h2
  obtain ⟨xs, rfl, h3⟩ := hasW_list h1
  obtain ⟨ns, rfl⟩ := items_int h3
  have hlen : ns.length ≤ n := by
    unfold OpenLaw.pre at hc
    have h4 : (WTm.not (.lt (.lit (.int (n : Int))) (.len (.arg 0)))).holds [] { args := [.list (ns.map .int)] } = true := by
      have h4 := (holds_andW hc).1
      rw [hn] at h4
      exact h4
    have h5 := condW_of h4 (w_not (w_lt w_lit (w_len_list (w_arg rfl))))
    rw [List.length_map] at h5
    refine Nat.le_of_not_lt fun q => ?_
    have q' : (n : Int) < ((ns.length : Nat) : Int) := by omega
    first
      | (rw [decide_eq_true q'] at h5; exact absurd h5 (by decide))
      | (simp at h5; omega)
  cases hwl with
  | cons w1 w2 =>
    cases w2
    cases w1 with
    | list ho hall => exact ⟨_, _, ns, rfl, rfl, ho, ints_of_wellAll ns _ hall, hlen⟩
theorem post_true (l : OpenLaw) (args : List WData) : l.row.toRowW.claim.post args (.bool true) args = true :=
  postW_of (r := l.row.toRowW) (X := (true == true))
    (show WShape.has [] (.bool true) .bool = true by first | rfl | decide | simp [WShape.has, WShape.arms, WShape.armsAll])
    (show (WTm.eq .res (.lit (.bool true))).value [] { args := args, res := some (.bool true), after := args } = some (.bool (true == true)) from w_eq_bool (w_res rfl) w_lit) rfl
/-- the same from a codeAny of the CALL (for a layer whose function contracts speak of calls) -/
theorem attach_call {l : OpenLaw} {n : Nat} {q : Program} {loose : List Str} {XP : (Str → Option Value) → Heap → Prop} {YP : World → Heap → Prop} {d : DefRec}
    (hn : l.most = some n) (hdf : d.params.defaults = [])
    (call : ∀ (w : World) (s₀ s₁ : Shared) (mg mb : Str → Option Value) (fa : Addr) (o : Obj) (pm cd doc : Value) (a : Addr) (vs : List Value) (ns : List Int),
      Ground q loose [] XP w s₀ mg mb s₁.heap → YP w s₁.heap →
      s₁.heap.get? fa = some o → o.data = .func (docDef d.name d.params d.body d.scope pm cd doc) → s₁.heap.CodeRec cd d.name → mg d.name = some (.ref fa) →
      s₁.heap.get? a = some { cls := .type "list", data := .seq vs.toArray } → IntsAre vs ns → ns.length ≤ n → s₁.gens = #[] →
      codeAny (model l.prog w) callerA (.call (.ref fa) ⟨[.ref a], []⟩) (fun r s' => r = .ok (.ret (.bool true)) ∧ OldK s₁.heap s'.heap ∧ s'.os = s₁.os ∧ AllBare s'.gens) s₁) :
    WalkO q loose XP YP l.row.toRowW d [] (fun f vs => PySem.call f vs) := by
  intro w s₀ s₁ mg mb G Y fa o pm cd doc dV kV ho hd hcd hD hmg hg args vals as hpre hlay hrd hwl hlo
  obtain rfl : dV = .none := Dflts.none hD hdf
  obtain rfl : kV = .none := Dflts.noKw hD
  obtain ⟨a, vs, ns, rfl, rfl, hobj, hints, hlen⟩ := script_of hn hpre hwl
  refine enter_call (codeAny_mono (call w s₀ s₁ mg mb fa o pm cd doc a vs ns G Y ho (fd_plain hd) hcd hmg hobj hints hlen hg) fun r s' hq => ?_)
  obtain ⟨rfl, h2, h3, h4⟩ := hq
  exact ⟨.inl ⟨.bool true, .bool true, [], rfl, fun _ => rfl, .bool true, post_true l _, fun _ => ⟨List.Pairwise.nil, fun _ hm => (nomatch hm)⟩⟩, h2, h3, h4⟩
section
variable {prog : Program} {w : World} {A : Around} {E : Value → Shared → Prop} {s : Shared} {K : Frag}
end
end Att
namespace L2
open PySem PySem.Spec PyProof.Rows
theorem vals_ints : ∀ {vs : List Value} {ns : List Int}, IntsAre vs ns → Vals (ns.map V.int) vs
  | _, _, .nil => .nil
  | _, _, .cons n t h => .cons ⟨t, rfl⟩ (vals_ints h)
/-- nothing is tracked but the script, known to the object (or it is an object of the module) -/
def Only (H : Hp) : Prop := ∀ b, H b = none ∨ ∃ o xs, H b = some (.frz o (.lst xs))
/-- THE HEAD: the law's promise, at the heap behind the top. F, the promise of the law's def, may use that base is part of the heap (so K.In base, base.Ns mainGlobals mg stand in Mod) -/
theorem law_call {P : Program} {w : World} {K : PySem.W.Frag} {mg mb : Str → Option Value} {CX : CXT} {k : Nat} {fa a : Addr} {fd : FuncData} {x : Str} {sp : Sp} {s₁ : Shared} {vs : List Value} {ns : List Int}
    (KX : K.In s₁.heap) (hns : s₁.heap.Ns mainGlobals mg) (hb : s₁.heap.Ns builtinsNs mb) (hbb : ∀ x : Str, x ≠ "__name__" → mb x = bootBuiltins x) (hlim : s₁.heap.NoLimit) (hg : s₁.gens = #[])
    (ha : s₁.heap.get? a = some { cls := .type "list", data := .seq vs.toArray }) (hi : IntsAre vs ns) (hl : ns.length ≤ sizeLine) (hr : Room k callerA)
    (F : ∀ base : Heap, K.In base → base.Ns mainGlobals mg → FnOk P w K mg base CX k fa fd [x] sp) (hbind : ∀ (s : Shared) (u : Value), BindsTo s fd ⟨[u], []⟩ [(x, u)])
    (hsp : ∀ H : Hp, Only H → SqL K H a (ns.map V.int) → sp [.ref a] H (fun v _ => v = .bl true) fun _ _ _ => False)
    (hCX : ∀ H e s', CX [] H s₁ (fun _ _ _ => False) e s' → False) :
    codeAny (model P w) callerA (.call (.ref fa) ⟨[.ref a], []⟩) (fun r s' => r = .ok (.ret (.bool true)) ∧ OldK s₁.heap s'.heap ∧ s'.os = s₁.os ∧ AllBare s'.gens) s₁ := by
  have rv := vals_ints hi
  have lenV := hi.length
  -- from an abstract heap in which nothing but the script may be tracked
  have core : ∀ H : Hp, Only H → SqL K H a (ns.map V.int) → HOk P w H s₁.heap → (∀ b, H b ≠ none → b = a) → (H a ≠ none → K.lookup a = none) →
      codeAny (model P w) callerA (.call (.ref fa) ⟨[.ref a], []⟩) (fun r s' => r = .ok (.ret (.bool true)) ∧ OldK s₁.heap s'.heap ∧ s'.os = s₁.os ∧ AllBare s'.gens) s₁ := by
    intro H hO hS hok hA hK
    have base_of : ∀ {b : Addr} {o : Obj}, s₁.heap.get? b = some o → H b = none → (hidT s₁.heap H).get? b = some o := fun e n => hidT_get e n
    have noA : ∀ {b : Addr} {o : Obj} {es : Array DictEntry} {ep : Nat}, s₁.heap.get? b = some o → o.data = .dict es ep → H b = none := fun {b o es ep} e d => by
      cases q : H b with
      | none => rfl
      | some u =>
        have e' : b = a := hA b (by rw [q]; simp)
        subst e'
        rw [ha] at e; cases e
        have d' : Data.seq vs.toArray _ = Data.dict es ep := d
        cases d'
    have nsK : ∀ {b : Addr} {m : Str → Option Value}, s₁.heap.Ns b m → (hidT s₁.heap H).Ns b m := fun {b m} ⟨o, es, ep, e, d, r⟩ => ⟨o, es, ep, base_of e (noA e d), d, r⟩
    have hKb : K.In (hidT s₁.heap H) := fun b o e => base_of (KX b o e) (by
      cases q : H b with
      | none => rfl
      | some u =>
        have e' : b = a := hA b (by rw [q]; simp)
        subst e'
        rw [hK (by rw [q]; simp)] at e; cases e)
    have hM : Mod K mg (hidT s₁.heap H) := ⟨hKb, nsK hns, ⟨mb, nsK hb, hbb⟩, let ⟨mc, h1, h2⟩ := hlim; ⟨mc, nsK h1, h2⟩⟩
    have e0 : Env0 P w K mg (hidT s₁.heap H) callerA [] s₁ H := ⟨rfl, hM, fun b o e => of_hidT e, Nat.le_of_eq (hidT_size _ _), trivial, fun b hb => absurd (show b ∈ ([] : List Addr) from hb) (by simp), hok, .of_eq hg⟩
    refine codeAny_mono ((F _ hKb (nsK hns)).run callerA [] s₁ H ⟨[.ref a], []⟩ [.ref a] [.ref a] _ _ hr e0 (hbind s₁ (.ref a)) (.cons rfl .nil) (hsp H hO hS)) fun r s' h => ?_
    cases r with
    | error e => exact (hCX H e s' h).elim
    | ok fl =>
      cases fl with
      | next => exact False.elim h
      | brk => exact False.elim h
      | cont => exact False.elim h
      | ret u =>
        obtain ⟨v, H', os, bare, un, hok', r', q⟩ := h
        have q' : v = .bl true := q
        subst q'
        obtain rfl : u = Value.bool true := r'
        refine ⟨rfl, OldK.of_keep fun b o e => ?_, os, bare⟩
        cases q : H b with
        | none => exact un.keep b o e q (by intro z; exact absurd (show b ∈ ([] : List Addr) from z) (by simp)) (by simp)
        | some u =>
          rcases hO b with z | ⟨ob, xs, z⟩
          · rw [q] at z; cases z
          · have z2 := un.frzs b ob _ z
            obtain ⟨e1, _⟩ := hok b _ z
            obtain ⟨e2, _⟩ := hok' b _ z2
            rw [e] at e1; cases e1
            exact e2
  cases hk : K.lookup a with
  | some o =>
    -- the script is one of the module's own objects
    have e := KX a o hk
    rw [ha] at e
    cases e
    refine core (fun _ => none) (fun _ => .inl rfl) (.inr ⟨_, vs.toArray, _, hk, rfl, rfl, rfl, by rw [List.size_toArray, lenV]; exact hl, by simpa using rv⟩) (fun b u z => by have z' : (none : Option HO) = some u := z; cases z') (fun b z => absurd rfl z) fun z => absurd rfl z
  | none =>
    refine core (fun b => if b = a then some (.frz { cls := .type "list", data := .seq vs.toArray } (.lst (ns.map V.int))) else none) (fun b => ?_) (.inl (.inr ⟨{ cls := .type "list", data := .seq vs.toArray }, if_pos rfl⟩)) (fun b u z => ?_) (fun b z => ?_) fun _ => hk
    · by_cases hb : b = a
      · exact .inr ⟨_, _, if_pos hb⟩
      · exact .inl (if_neg hb)
    · by_cases hb : b = a
      · have z' := (if_pos hb).symm.trans z
        cases z'
        subst hb
        exact ⟨ha, by rw [List.length_map]; exact hl, vs, _, rv, ha⟩
      · have z' := (if_neg hb).symm.trans z
        cases z'
    · by_cases hb : b = a
      · exact hb
      · exact absurd (if_neg hb) z
end L2
namespace L2
open PySem PySem.Spec PyProof.Rows
/-- the goal that k_head leaves (case hc), from the law's promise. F gives the function object fd (K's own) once, then the promise over every base -/
theorem walk_of {l : PySem.W.OpenLaw} {n k : Nat} {q : Program} {loose : List Str} {XP : (Str → Option Value) → Heap → Prop} {YP : World → Heap → Prop} {d : DefRec} {K : Params → PySem.W.Frag} {CX : World → CXT} {sp : World → Sp} {x : Str}
    (hn : l.most = some n) (hn2 : n ≤ sizeLine) (hdf : d.params.defaults = []) (hr : Room k callerA)
    (hY : ∀ (w : World) (h : Heap), YP w h → (K w.params).In h)
    (F : ∀ (w : World) (mg : Str → Option Value) (fa : Addr) (h : Heap), (K w.params).In h → h.Ns mainGlobals mg → mg d.name = some (.ref fa) →
      ∃ fd : FuncData, (∀ (s : Shared) (u : Value), BindsTo s fd ⟨[u], []⟩ [(x, u)]) ∧
        ∀ base : Heap, (K w.params).In base → base.Ns mainGlobals mg → FnOk l.prog w (K w.params) mg base (CX w) k fa fd [x] (sp w))
    (hsp : ∀ (w : World) (H : Hp) (a : Addr) (ns : List Int), ns.length ≤ n → Only H → SqL (K w.params) H a (ns.map V.int) → sp w [.ref a] H (fun v _ => v = .bl true) fun _ _ _ => False)
    (hCX : ∀ (w : World) (H : Hp) (s : Shared) (e : Value) (s' : Shared), CX w [] H s (fun _ _ _ => False) e s' → False) :
    PySem.W.WalkO q loose XP YP l.row.toRowW d [] (fun f vs => PySem.call f vs) := by
  refine Att.attach_call hn hdf fun w s₀ s₁ mg mb fa o pm cd doc a vs ns G Y ho hd hcd hmg hobj hints hlen hg => ?_
  have KX := hY w _ Y
  obtain ⟨fd, hb, hF⟩ := F w mg fa _ KX G.T.g hmg
  exact law_call KX G.T.g G.T.b G.T.builtins G.T.nolimit hg hobj hints (Nat.le_trans hlen hn2) hr hF hb (fun H hO hS => hsp w H a ns hlen hO hS) fun H e s' => hCX w H s₁ e s'
end L2
/- THE LAST THEOREM (shape; LID, My.* are yours):
   My.Adr: a structure of the addresses that your layer names (classes, functions); My.Txt K t: a structure (Prop) of the equations over K;
   My.txt_mk : {K} {implicit addresses ..} (e1 : nsIn K mainGlobals "law" = some (some (.ref f))) (e2 : K.lookup f = some ⟨oc, od, .func (fnOf "law" "law" params body scope dV kV doc pm an cdv ct), sl⟩) (e3 : codeIn K cdv "law" = true) .. : ∃ t, My.Txt K t
set_option maxRecDepth 100000 in
set_option maxHeartbeats 0 in
theorem PySem.Challenge.cw_LID_holds : PySem.Challenge.rw_LID.Holds := by
  w_on; o_law; k_head; (case hw => w_witness2)
  k_fill
  refine L2.walk_of (l := PySem.Challenge.rw_LID) (n := 63) (k := 40) (x := "script") (CX := fun w => ..) (sp := fun _ => My.sp_law) rfl (by decide) rfl ⟨rfl, by decide, by decide⟩ (fun w h Y => PySem.W.kIn_of Y) ?F ?S ?C
  case F =>
    intro w mg fa h KX G hmg
    have T : ∃ t, My.Txt (L2.KOf KX) t := by
      dsimp only [L2.KOf]                          -- K must stand as «<heap const> w.params» for k_is
      refine' My.txt_mk ?e1 ?e2 ?e3 ..
      (case e1 => PySem.W.k_is)                    -- in the order: a name -> its address -> its object -> its parts
      (case e2 => PySem.W.k_is)
      ..
    obtain ⟨t, T⟩ := T
    have e0 := hmg.symm.trans (PySem.W.mg_of KX G T.law)
    cases e0                                       -- fa is the law's own address
    exact ⟨_, fun s u => .of_eq rfl, fun base kb nb => My.law_fn T kb nb⟩     -- if «.of_eq rfl» comes too early: refine' ⟨_, ?b, fun base kb nb => My.law_fn T kb nb⟩; exact fun s u => .of_eq rfl
  case S => exact fun w H a ns hl hO hS => ..
  case C => exact ..
(the tactic k_is has no namespace: write k_is) -/
namespace L2
open PySem PySem.Spec PyProof.Rows
def defArgs (s : Stmt) : Arguments := match s with
  | .FunctionDef _ a _ _ _ _ _ _ _ _ => a
  | _ => { posonlyargs := [], args := [], vararg := none, kwonlyargs := [], kw_defaults := [], kwarg := none, defaults := [] }
def defBody (s : Stmt) : List Stmt := match s with
  | .FunctionDef _ _ b _ _ _ _ _ _ _ => b
  | _ => []
def defScope (s : Stmt) : Scope := match s with
  | .FunctionDef _ _ _ _ _ _ sc _ _ _ => sc
  | _ => { kind := .function, names := [], isGenerator := false, isCoroutine := false }
abbrev CX0 : CXT := fun _ _ _ _ _ _ => False
abbrev E0 : XK := fun _ _ _ => False
theorem pass0 {X : Cx} : Passes CX0 X E0 := fun _ _ _ _ _ _ _ h => h.elim
structure Fun (K : PySem.W.Frag) (x qual : Str) (st : Stmt) (f : Addr) (fd : FuncData) : Prop where
  ex : ∃ (oc : Value) (od : Option Addr) (kV doc pm : Value) (an : Option Addr) (cdv ct : Value) (osl : Array (Option Value)),
    fd = PySem.W.fnOf x qual (defArgs st) (defBody st) (defScope st) .none kV doc pm an cdv ct ∧ K.lookup f = some ⟨oc, od, .func fd, osl⟩ ∧ PySem.W.codeIn K cdv qual = true
  kp : PySem.W.keepIn K (.ref f) = true
section
variable {P : Program} {w : World} {K : PySem.W.Frag} {mg : Str → Option Value} {base : Heap}
/-- THE RULE for a def: its body as a term of rules, and the reading of that term -/
theorem Fun.ok {x qual : Str} {st : Stmt} {f : Addr} {fd : FuncData} {N ps : List Str} {k : Nat} {sp : Sp} (F : Fun K x qual st f fd) (S : FnScope N ps (defScope st)) (len : ∀ vs H Q E, sp vs H Q E → vs.length = ps.length)
    (hbody : ∀ (cdv : Value) (A : Around) (outer : List Env) (s : Shared) (H : Hp) (vs : List V) (Q : VK) (E : XK), Room k (A.deeper (envOfC qual (defScope st) s.heap.objs.size f cdv)) → sp vs H Q E →
      ∃ t, PSs (cxOf CX0 P w K mg base N qual (defScope st) f cdv A outer s H E).nox (defBody st) t ∧ t { nx := fun _ H' => Q .non H', rt := Q } (start N vs) H) : FnOk P w K mg base CX0 (k + 1) f fd ps sp := by
  obtain ⟨oc, od, kV, doc, pm, an, cdv, ct, osl, rfl, lk, hcd⟩ := F.ex
  refine fn_of lk hcd S len fun A outer s H vs Q E hr hsp => ?_
  obtain ⟨t, h, q⟩ := hbody cdv A outer s H vs Q E hr hsp
  exact ⟨t, h.nox, q⟩
theorem fun_mk {x qual : Str} {st : Stmt} {f : Addr} {oc : Value} {od an : Option Addr} {osl : Array (Option Value)} {kV doc pm cdv ct : Value} (l : K.lookup f = some ⟨oc, od, .func (PySem.W.fnOf x qual (defArgs st) (defBody st) (defScope st) .none kV doc pm an cdv ct), osl⟩)
    (c : PySem.W.codeIn K cdv qual = true) (k : PySem.W.keepIn K (.ref f) = true) : Fun K x qual st f (PySem.W.fnOf x qual (defArgs st) (defBody st) (defScope st) .none kV doc pm an cdv ct) := ⟨⟨oc, od, kV, doc, pm, an, cdv, ct, osl, rfl, l, c⟩, k⟩
end
theorem small1000 {n : Nat} (h : n ≤ 1000) : n < sizeLine := Nat.lt_of_le_of_lt h (by decide)
section
variable {X : Cx}
theorem pv (i : Nat) {x : Str} {pos : Pos} (hN : X.N[i]? = some x := by rfl) (hv : Vis X.env.scope x := by first | exact Or.inl rfl | exact Or.inr (Or.inl rfl) | exact Or.inr (Or.inr rfl)) (hd : (x == ("__debug__" : Str)) = false := by decide)
    (hcd : (x == ("__classdict__" : Str)) = false := by decide) : PE X (.Name x pos) (tVar i) := pe_var hN hv hd hcd
end
theorem iteF {A B : Prop} (h : B) : if false = true then A else B := by
  rw [if_neg Bool.false_ne_true]
  exact h
theorem ite2 {c A B : Prop} [Decidable c] (h1 : c → A) (h2 : ¬ c → B) : if c then A else B := by
  by_cases h : c
  · rw [if_pos h]
    exact h1 h
  · rw [if_neg h]
    exact h2 h
theorem iteNS {c A B : Prop} [Decidable c] (hc : c) (h : B) : if (!decide c) = true then A else B := by
  rw [decide_eq_true hc]
  exact iteF h
/-- all that was tracked is as it was -/
def Same (H H' : Hp) : Prop := ∀ b o, H b = some o → H' b = some o
theorem Same.refl (H : Hp) : Same H H := fun _ _ h => h
theorem Same.trans {H H1 H2 : Hp} (a : Same H H1) (b : Same H1 H2) : Same H H2 := fun c o h => b c o (a c o h)
theorem Same.free {H H' : Hp} (e : Same H H') {l : Addr} (h : H' l = Option.none) : H l = Option.none := by
  cases q : H l with
  | none => rfl
  | some o =>
    rw [e l o q] at h
    cases h
theorem Same.seq {K : PySem.W.Frag} {H H' : Hp} {a : Addr} {xs : List V} (e : Same H H') (h : SqL K H a xs) : SqL K H' a xs := by
  rcases h with (h | ⟨o, h⟩) | h
  · exact .inl (.inl (e _ _ h))
  · exact .inl (.inr ⟨o, e _ _ h⟩)
  · exact .inr h
end L2
namespace L2
open PySem PySem.Spec PyProof.Rows
theorem bt_all : bootBuiltins "all" = some (.builtin "all") := by decide +kernel
theorem bt_isinstance : bootBuiltins "isinstance" = some (.builtin "isinstance") := by decide +kernel
theorem bt_len : bootBuiltins "len" = some (.builtin "len") := by decide +kernel
theorem bt_min : bootBuiltins "min" = some (.builtin "min") := by decide +kernel
theorem bt_ValueError : bootBuiltins "ValueError" = some (.type "ValueError") := by decide +kernel
theorem bt_bool : bootBuiltins "bool" = some (.type "bool") := by decide +kernel
theorem bt_int : bootBuiltins "int" = some (.type "int") := by decide +kernel
theorem bt_list : bootBuiltins "list" = some (.type "list") := by decide +kernel
theorem bt_str : bootBuiltins "str" = some (.type "str") := by decide +kernel
theorem bt_tuple : bootBuiltins "tuple" = some (.type "tuple") := by decide +kernel
end L2
namespace L2
open PySem PySem.Spec PyProof.Rows
theorem log2_of {n k : Nat} (hk : 0 < k) (h : n < 2 ^ k) : n.log2 < k := by
  rcases Nat.eq_zero_or_pos n with e | e
  · subst e
    have : Nat.log2 0 = 0 := by decide
    omega
  · exact (Nat.log2_lt (Nat.ne_of_gt e)).mpr h
/-- at most a hundred figures -/
def Fig (i : Int) : Prop := -(10 ^ 100) < i ∧ i < 10 ^ 100
set_option exponentiation.threshold 500 in
theorem Fig.nat {i : Int} (h : Fig i) : i.natAbs < 2 ^ 400 := by
  have h1 : -(10 ^ 100 : Int) < i := h.1
  have h2 : i < (10 ^ 100 : Int) := h.2
  have e : (10 : Int) ^ 100 < 2 ^ 400 := by decide
  omega
theorem Fig.bits {i : Int} (h : Fig i) : Builtin.Int.intBits i ≤ 2 ^ 20 := by
  unfold Builtin.Int.intBits
  split
  · exact Nat.zero_le _
  · have := log2_of (by decide) h.nat
    omega
theorem Fig.noPy {i j : Int} (h : Fig j) : Builtin.divisionGoesByPylong i j = false :=
  PyProof.noPylong_of_log2 (Nat.lt_trans (log2_of (by decide) h.nat) (by decide))
section
variable {X : Cx}
theorem op_mulB : OpR X (binaryOp .Mult) (rI (fun i j => Fig i ∧ Fig j) fun i j => .int (i * j)) := opI fun _ _ _ _ _ _ _ hc q => mul_int q (.of_bits hc.1.bits hc.2.bits)
/-- // by a positive divisor of at most a hundred figures -/
theorem op_fdivB : OpR X (binaryOp .FloorDiv) (rI (fun _ j => 0 < j ∧ Fig j) fun i j => .int (i / j)) := opI fun i j _ _ _ _ _ hc q => by
  have h1 : (0 : Int) < j := hc.1
  exact floordiv_int (by omega) (by rw [Int.fdiv_eq_ediv_of_nonneg i (by omega)]; exact q) (.inl hc.2.noPy)
end
section
variable {X : Cx} {tg : Expr}
end
theorem codeAny_compLoop_gen {prog : Program} {w : World} {A : Around} {R : Result → Shared → Prop} {s : Shared} {elt target iter : Expr} {ifs : List Expr} {scope : Scope} {pos : Pos} {it acc : Value} {env : Env} (I : Nat → Shared → Prop)
    (turn : ∀ n s, I n s → wpAny (model prog w) A (pyNext it) (fun r s₁ => match r with
      | none => R (.ok .next) s₁
      | some v => wpAny (model prog w) A (letOwnedTupleGo target it v) (fun _ s₁' => wpAny (model prog w) A (assign target env v) (fun _ s₂ =>
          wpAny (model prog w) A (forIn ifs true fun c r => if r = true then do let ok ← isTrue c env (eval c env); pure (ForInStep.yield ok) else pure (ForInStep.yield r)) (fun ok s₃ =>
            if ok = true then wpAny (model prog w) A (eval elt env) (fun x s₄ =>
              wpAny (model prog w) A (call (.builtin "list.append") [acc, x]) (fun _ s₅ => ∃ m, m < n ∧ I m s₅) (notedBy (model prog w) A env fun e s' => R (.error e) s') s₄) (notedBy (model prog w) A env fun e s' => R (.error e) s') s₃
            else ∃ m, m < n ∧ I m s₃) (notedBy (model prog w) A env fun e s' => R (.error e) s') s₂) (notedBy (model prog w) A env fun e s' => R (.error e) s') s₁') (notedBy (model prog w) A env fun e s' => R (.error e) s') s₁)
      (notedBy (model prog w) A env fun e s' => R (.error e) s') s)
    (n : Nat) (h : I n s) :
    codeAny (model prog w) A (.compLoop (.ListComp elt [⟨target, iter, ifs, 0⟩] scope pos) 0 it acc env) R s := by
  refine codeAny_loop rfl I (fun n s hI => ?_) n h
  show wpAny _ A ((compTurn (.ListComp elt [⟨target, iter, ifs, 0⟩] scope pos) 0 it acc env).onRaise (fun x => do noteFrame x env; theTreesLotGoes x)) _ _ s
  refine wpAny_noted ?_
  rw [compTurn_list]
  refine wpAny_bind (wpAny_standAt (wpAny_bind (wpAny_mono (turn n s hI) (fun r s₁ h₁ => ?_) fun _ _ h' => h')))
  cases r with
  | none => exact wpAny_pure h₁
  | some v =>
    refine wpAny_bind (wpAny_mono h₁ (fun _ s₁' h₁' => ?_) fun _ _ h' => h')
    refine wpAny_bind (wpAny_mono h₁' (fun _ s₂ h₂ => wpAny_bind (wpAny_mono h₂ (fun ok s₃ h₃ => ?_) fun _ _ h' => h')) fun _ _ h' => h')
    cases ok with
    | false => exact wpAny_pure ⟨rfl, h₃⟩
    | true =>
      exact wpAny_bind (wpAny_bind (wpAny_mono h₃ (fun x s₄ h₄ => wpAny_bind (wpAny_mono h₄ (fun _ s₅ h₅ => wpAny_pure (wpAny_pure ⟨rfl, h₅⟩)) fun _ _ h' => h')) fun _ _ h' => h'))
/-- the tests of a comprehension -/
def PIfs (X : Cx) (ifs : List Expr) (t : TT) : Prop :=
  ∀ (pins : List (Addr × Obj)) (s : Shared) (σ : St) (H : Hp) (Q : Bool → Hp → Prop), Inv X pins σ H s → t σ H Q →
    wpAny (model X.prog X.w) X.A (forIn ifs true fun c r => if r = true then do let ok ← isTrue c X.env (eval c X.env); pure (ForInStep.yield ok) else pure (ForInStep.yield r)) (TP X pins σ Q) X.xe s
def tYes : TT := fun _ H Q => Q true H
theorem pif_nil {X : Cx} : PIfs X [] tYes := fun _ _ _ H _ I h => by
  rw [List.forIn_nil]
  exact wpAny_pure ⟨H, I, h⟩
/-- the block's names: own ones (none), those of the body around by their slots there -/
def subSt (js : List (Option Nat)) (σ : St) : St := js.map fun o => o.bind fun j => (σ[j]?).join
/-- no more is known than there -/
def Weak (σ' σ : St) : Prop := σ'.length = σ.length ∧ ∀ (i : Nat) v, σ'[i]? = some (some v) → σ[i]? = some (some v)
def tComp (wi : TI) (g : TG) (tc : TT) (te : TE) (js : List (Option Nat)) : TE := fun σ H Q => wi σ H fun J H1 => ∀ D, H1 D = none → ∃ W : Nat → Nat → List V → Hp → Prop, (∃ m, W 0 m [] (upd H1 D (.lst []))) ∧
  ∀ i m xs H, W i m xs H → H D = some (.lst xs) ∧ ((J.stop i H ∧ Q (.ref D) H) ∨ (J.go i H ∧ ∃ N : List V → Hp → Prop, (∀ ys H', N ys H' → ∃ m', m' < m ∧ W (i + 1) m' ys H') ∧ ∀ x H', J.yld i H x H' → g x (subSt js σ) H' fun σ2 H2 => Weak (subSt js σ) σ2 ∧ tc σ2 H2 fun b H3 =>
    if b = true then te σ2 H3 fun v H4 => ∃ ys, H4 D = some (.lst ys) ∧ ys.length < sizeLine ∧ N (ys ++ [v]) (upd H4 D (.lst (ys ++ [v])))
    else ∃ ys, N ys H3))
/-- the block's context -/
def cxComp (X : Cx) (pins : List (Addr × Obj)) (NY : List Str) (scope : Scope) (cl : List (Str × Addr)) (fp : List Addr) (C : Addr) (s : Shared) (H : Hp) : Cx :=
  { X with N := NY, s₀ := s, H₀ := H, env := compEnvC scope cl C X.env, outer := X.stack, stack := X.stack, ex := fp, fn := fun _ => false, pn := X.pn ++ pins, xe := fun _ _ => False }
def ClIn (cells : List (Str × Addr)) : List (Str × Addr) → Prop
  | [] => True
  | p :: r => cells.lookup p.1 = some p.2 ∧ ClIn cells r
theorem ClIn.get {cells : List (Str × Addr)} : ∀ {cl : List (Str × Addr)} {y : Str} {c : Addr}, ClIn cells cl → cl.lookup y = some c → cells.lookup y = some c
  | [], _, _, _, h => by simp at h
  | (n, a) :: r, y, c, ⟨h1, h2⟩, h => by
    rw [List.lookup_cons] at h
    cases e : y == n with
    | true =>
      rw [e] at h
      cases h
      rw [beq_iff_eq] at e
      rw [e]
      exact h1
    | false =>
      rw [e] at h
      exact ClIn.get h2 h
/-- what the block's names must be: none: its own; some j: the name in the j-th slot around, free here, a cell (or free) there -/
def JsOk (X : Cx) (scope : Scope) : List (Option Nat) → List Str → Prop
  | [], [] => True
  | none :: js, _ :: N => JsOk X scope js N
  | some j :: js, x :: N => (X.N[j]? = some x ∧ scope.names.lookup x = some .free ∧ X.env.kindOf x ≠ some .local ∧ (X.env.kindOf x = some .cell ∨ X.env.kindOf x = some .free)) ∧ JsOk X scope js N
  | _, _ => False
theorem JsOk.len {X : Cx} {scope : Scope} : ∀ {js : List (Option Nat)} {N : List Str}, JsOk X scope js N → js.length = N.length
  | [], [], _ => rfl
  | none :: js, _ :: N, h => by
    have h' : JsOk X scope js N := h
    rw [List.length_cons, List.length_cons, h'.len]
  | some j :: js, x :: N, h => by
    have h' : JsOk X scope js N := h.2
    rw [List.length_cons, List.length_cons, h'.len]
  | [], _ :: _, h => h.elim
  | none :: _, [], h => h.elim
  | some _ :: _, [], h => h.elim
theorem JsOk.get {X : Cx} {scope : Scope} : ∀ {js : List (Option Nat)} {N : List Str} {i j : Nat} {x : Str}, JsOk X scope js N → js[i]? = some (some j) → N[i]? = some x →
    X.N[j]? = some x ∧ scope.names.lookup x = some .free ∧ X.env.kindOf x ≠ some .local ∧ (X.env.kindOf x = some .cell ∨ X.env.kindOf x = some .free)
  | [], [], _, _, _, _, e, _ => by simp at e
  | none :: js, y :: N, 0, _, _, _, e, _ => by simp at e
  | none :: js, y :: N, i + 1, _, _, h, e, e' => JsOk.get (js := js) (N := N) (i := i) h (by simpa using e) (by simpa using e')
  | some j' :: js, y :: N, 0, _, _, h, e, e' => by
    simp at e e'
    subst e e'
    exact h.1
  | some j' :: js, y :: N, i + 1, _, _, h, e, e' => JsOk.get (js := js) (N := N) (i := i) h.2 (by simpa using e) (by simpa using e')
  | [], _ :: _, _, _, _, h, _, _ => h.elim
  | none :: _, [], _, _, _, h, _, _ => h.elim
  | some _ :: _, [], _, _, _, h, _, _ => h.elim
theorem lookup_relabel_free {env : Env} : ∀ {names : List (Str × NameKind)} {x : Str}, names.lookup x = some .free →
    ((names.map fun (n, k) => if (k == NameKind.free && env.scope.kind == .function && env.kindOf n == some .cell) then (n, NameKind.cell) else (n, k)).lookup x = some .cell ∨
     (names.map fun (n, k) => if (k == NameKind.free && env.scope.kind == .function && env.kindOf n == some .cell) then (n, NameKind.cell) else (n, k)).lookup x = some .free)
  | [], _, h => by simp at h
  | (n, k) :: r, x, h => by
    have ih := @lookup_relabel_free env r x
    simp only [List.map_cons]
    cases hx : x == n with
    | true =>
      simp only [List.lookup_cons, hx] at h
      cases h
      by_cases hc : (NameKind.free == NameKind.free && env.scope.kind == .function && env.kindOf n == some .cell) = true
      · rw [if_pos hc]; simp only [List.lookup_cons, hx]; simp
      · rw [if_neg hc]; simp only [List.lookup_cons, hx]; simp
    | false =>
      simp only [List.lookup_cons, hx] at h
      by_cases hc : (k == NameKind.free && env.scope.kind == .function && env.kindOf n == some .cell) = true
      · rw [if_pos hc]; simp only [List.lookup_cons, hx]; exact ih h
      · rw [if_neg hc]; simp only [List.lookup_cons, hx]; exact ih h
theorem relabel_mem {env : Env} {scope : Scope} {x : Str} {k : NameKind} (hcell : ∀ y ∈ scope.names, y.2 ≠ .cell) (h : (relabel scope env).names.lookup x = some k) (hk : k = .cell ∨ k = .free) : ∃ y ∈ scope.names, y.1 = x ∧ y.2 = .free := by
  have hm := PySem.mem_of_lookup h
  have hm' : (x, k) ∈ scope.names.map fun (n, k) => if (k == NameKind.free && env.scope.kind == .function && env.kindOf n == some .cell) then (n, NameKind.cell) else (n, k) := hm
  obtain ⟨⟨n, k'⟩, hy, e⟩ := List.mem_map.mp hm'
  by_cases hc : (k' == NameKind.free && env.scope.kind == .function && env.kindOf n == some .cell) = true
  · have e' : (n, NameKind.cell) = (x, k) := by rw [← e]; exact (if_pos hc).symm
    injection e' with e1 e2
    have hc2 : k' = NameKind.free := by
      rw [Bool.and_eq_true, Bool.and_eq_true] at hc
      simpa using hc.1.1
    exact ⟨(n, k'), hy, e1, hc2⟩
  · have e' : (n, k') = (x, k) := by rw [← e]; exact (if_neg hc).symm
    injection e' with e1 e2
    rcases hk with hk | hk
    · exact absurd (e2.trans hk) (hcell _ hy)
    · exact ⟨(n, k'), hy, e1, e2.trans hk⟩
section
variable {X : Cx}
theorem comp_ok {pins : List (Addr × Obj)} {σ : St} {H : Hp} {s : Shared} {NY : List Str} {scope : Scope} {cl : List (Str × Addr)} {fp : List Addr} (I : Inv X pins σ H s) (hkind : scope.kind = .function)
    (hcell : ∀ y ∈ scope.names, y.2 ≠ .cell) (hcl : ClIn X.env.cells cl) (hfr : ∀ y ∈ scope.names, y.2 = .free → (cl.lookup y.1).isSome = true) (hf : ∀ b ∈ fp, FpOk X pins H b) (ho : ∀ b ∈ fp, ∃ o, s.heap.get? b = some o) :
    (cxComp X pins NY scope cl fp s.heap.objs.size s H).Ok where
  mod := I.ok.mod
  kind := hkind
  glob := I.ok.glob
  blt := I.ok.blt
  above := Nat.le_refl _
  inj := fun x y c h1 h2 => I.ok.inj x y c (hcl.get h1) (hcl.get h2)
  has := fun x hx => by
    have h : ∃ k, (relabel scope X.env).names.lookup x = some k ∧ (k = .cell ∨ k = .free) := by
      rcases hx with hx | hx
      · exact ⟨_, hx, .inl rfl⟩
      · exact ⟨_, hx, .inr rfl⟩
    obtain ⟨k, h1, h2⟩ := h
    obtain ⟨y, hy, e1, e2⟩ := relabel_mem hcell h1 h2
    have := hfr y hy e2
    rw [e1] at this
    exact Option.isSome_iff_exists.mp this
  cab := fun x c h => absurd h Bool.false_ne_true
  hd := I.ok.hd
  frames := I.ok.frames
  stk := .inl rfl
  exf := fun b hb => by
    obtain ⟨f0, f1, f2, f3, f4, f5⟩ := hf b hb
    obtain ⟨o, e⟩ := ho b hb
    exact ⟨Nat.ne_of_lt (Heap.lt_size e), fun x c h => f4 x c (hcl.get h)⟩
  bs := I.bs
  bsz := Nat.le_trans I.ok.bsz I.sz
  noex := fun b o e hb => by
    obtain ⟨f0, f1, f2, f3, f4, f5⟩ := hf b hb
    rcases f3 with z | z
    · exact I.ok.noex b o e z
    · exact absurd (Nat.lt_of_lt_of_le (Heap.lt_size e) (Nat.le_trans I.ok.bsz z)) (Nat.lt_irrefl _)
  exfs := fun b hb hfs => by
    obtain ⟨f0, f1, f2, f3, f4, f5⟩ := hf b hb
    rcases List.mem_cons.mp (I.stkSub b hfs) with z | z
    · exact f1 z
    · exact f2 z
  funs := I.stack
  frf := I.stkFree
theorem subSt_get {js : List (Option Nat)} {σ : St} {i : Nat} {v : V} (h : (subSt js σ)[i]? = some (some v)) : ∃ j, js[i]? = some (some j) ∧ σ[j]? = some (some v) := by
  unfold subSt at h
  rw [List.getElem?_map] at h
  cases e : js[i]? with
  | none => rw [e] at h; cases h
  | some o =>
    rw [e] at h
    have h' : (o.bind fun j => (σ[j]?).join) = some v := Option.some.inj h
    cases o with
    | none => cases h'
    | some j =>
      have h'' : (σ[j]?).join = some v := h'
      refine ⟨j, rfl, ?_⟩
      cases e2 : σ[j]? with
      | none => rw [e2] at h''; cases h''
      | some w =>
        rw [e2] at h''
        cases w with
        | none => cases h''
        | some u =>
          have : u = v := Option.some.inj h''
          rw [this]
/-- the block's first state: the list has been laid, then the block's own dict -/
theorem comp_inv {pins : List (Addr × Obj)} {σ : St} {H : Hp} {s : Shared} {h' : Heap} {NY : List Str} {js : List (Option Nat)} {scope : Scope} {cl : List (Str × Addr)} {fp : List Addr} {t' : Nat} {m' : Str → Option Value} (I : Inv X pins σ H s) (hkind : scope.kind = .function)
    (hcell : ∀ y ∈ scope.names, y.2 ≠ .cell) (hcl : ClIn X.env.cells cl) (hfr : ∀ y ∈ scope.names, y.2 = .free → (cl.lookup y.1).isSome = true) (hjs : JsOk X scope js NY) (hf : ∀ b ∈ fp, FpOk X pins H b) (ho : ∀ b ∈ fp, ∃ o, s.heap.get? b = some o)
    (hk : ∀ b o, s.heap.get? b = some o → h'.get? b = some o) (hn : h'.Ns s.heap.objs.size m') :
    Inv (cxComp X pins NY scope cl fp s.heap.objs.size s H) [] (subSt js σ) H { s with heap := h', toks := t' } where
  ok := comp_ok I hkind hcell hcl hfr hf ho
  os := rfl
  bare := I.bare
  base := Un.kept hk
  loc := by
    obtain ⟨m, hnX, hl⟩ := I.loc
    refine ⟨m', hn, fun i x v e1 e2 e3 => ?_⟩
    obtain ⟨j, ej, ev⟩ := subSt_get e2
    obtain ⟨a1, a2, a3, a4⟩ := hjs.get ej e1
    have vis : Vis X.env.scope x := by
      rcases a4 with a4 | a4
      · exact .inr (.inl a4)
      · exact .inr (.inr a4)
    obtain ⟨u, ru, lk⟩ := hl j x v a1 ev vis
    refine ⟨u, ru, ?_⟩
    rcases lk with ⟨k, _⟩ | ⟨_, c, ec, hc⟩
    · exact absurd k a3
    · have h1 : ∃ c', cl.lookup x = some c' := by
        have := hfr (x, .free) (PySem.mem_of_lookup a2) rfl
        exact Option.isSome_iff_exists.mp this
      obtain ⟨c', ec'⟩ := h1
      have e4 := hcl.get ec'
      rw [ec] at e4
      cases e4
      refine .inr ⟨?_, c, ec', ?_⟩
      · exact lookup_relabel_free a2
      · obtain ⟨o, h1, h2⟩ := hc
        exact ⟨o, hk _ _ h1, h2⟩
  cell := fun x c e => by
    obtain ⟨v, o, h1, h2⟩ := I.cell x c (hcl.get e)
    exact ⟨v, o, hk _ _ h1, h2⟩
  free := I.hok.fresh (Nat.le_refl _)
  freeC := fun x c e => I.freeC x c (hcl.get e)
  pin := fun p hp => by
    have hp' : p ∈ (X.pn ++ pins) ++ [] := hp
    rw [List.append_nil] at hp'
    obtain ⟨a1, a2, a3, a4, a5⟩ := I.pin p hp'
    refine ⟨hk _ _ a1, a2, Nat.ne_of_lt (Heap.lt_size a1), fun z => ?_, a5⟩
    rcases List.mem_cons.mp (I.stkSub p.1 z) with z | z
    · exact a3 z
    · exact a4 z
  hok := I.hok.kept hk
  len := by
    show (js.map _).length = NY.length
    rw [List.length_map]
    exact hjs.len
theorem pe_comp {elt tgt iter : Expr} {ifs : List Expr} {scope : Scope} {cl : List (Str × Addr)} {pos : Pos} {wi : TI} {g : TG} {tc : TT} {te : TE} {NY : List Str} {js : List (Option Nat)} (hc : X.calm = true)
    (hkind : scope.kind = .function) (hclos : closureFor scope X.env = pure cl) (hcl : ClIn X.env.cells cl) (hjs : JsOk X scope js NY)
    (hi : PI X tgt iter wi)
    (hb : ∀ pins fp C s H, PG (cxComp X pins NY scope cl fp C s H) tgt g ∧ PIfs (cxComp X pins NY scope cl fp C s H) ifs tc ∧ PE (cxComp X pins NY scope cl fp C s H) elt te)
    (hcell : ∀ y ∈ scope.names, y.2 ≠ .cell := by decide) (hnames : ∀ y ∈ scope.names, y.2 = .local → scope.names.lookup y.1 = some .local := by decide)
    (hfr' : (scope.names.all fun y => !(y.2 == .free) || (cl.lookup y.1).isSome) = true := by first | rfl | with_unfolding_all rfl) (hs : ∀ x, foldedSetIterable iter X.env x = pure x := by intro _; rfl) :
    PE X (.ListComp elt [⟨tgt, iter, ifs, 0⟩] scope pos) (tComp wi g tc te js) := by
  intro pins s σ H Q I h
  have hfr : ∀ y ∈ scope.names, y.2 = .free → (cl.lookup y.1).isSome = true := fun y hy e => by
    have z := List.all_eq_true.mp hfr' y hy
    rw [e] at z
    simpa using z
  rw [eval_ListComp]
  refine wpAny_comprehension_free (use := none) (g := ⟨tgt, iter, ifs, 0⟩) (gs := []) rfl hs hclos hkind hnames (thn (hi pins s σ H _ I h) fun v s1 h1 => thn h1 fun itv s2 h2 => ?_)
  obtain ⟨it, fp, tn, J, H2, e, I2, T, st2, f2, q2⟩ := h2
  subst e
  -- the list
  refine wpAny_newObj_type ?_ (by show 0 ≤ sizeLine; exact Nat.zero_le _)
  have nD : H2 s2.heap.objs.size = none := I2.hok.fresh (Nat.le_refl _)
  obtain ⟨W, ⟨m0, w0⟩, turn⟩ := q2 s2.heap.objs.size nD
  have I3 : Inv X pins σ (upd H2 s2.heap.objs.size (.lst [])) { s2 with heap := s2.heap.push { cls := .type "list", data := .seq ([] : List Value).toArray } } := I2.lnew (t' := s2.toks) .nil (Nat.zero_le _)
  have kp3 : ∀ b o, s2.heap.get? b = some o → (s2.heap.push { cls := .type "list", data := .seq ([] : List Value).toArray }).get? b = some o := fun b o e => Heap.get?_push_of_some _ e
  have ob2 : ∀ b ∈ fp, ∃ o, s2.heap.get? b = some o := fun b hb => let ⟨o, e, _⟩ := T.obj _ _ st2 b hb; ⟨o, e⟩
  have f3 : ∀ b ∈ fp, FpOk X pins (upd H2 s2.heap.objs.size (.lst [])) b := fun b hb => by
    obtain ⟨f0, fr⟩ := f2 b hb
    obtain ⟨o, e⟩ := ob2 b hb
    exact ⟨by rw [upd_ne (Nat.ne_of_lt (Heap.lt_size e))]; exact f0, fr⟩
  generalize hs3 : ({ s2 with heap := s2.heap.push { cls := .type "list", data := .seq ([] : List Value).toArray } } : Shared) = s3 at I3
  have hs3' : s3.heap = s2.heap.push { cls := .type "list", data := .seq ([] : List Value).toArray } := by rw [← hs3]
  have st3 : tn 0 s3.heap := T.keep _ _ _ st2 fun b hb o e => by rw [hs3']; exact kp3 b o e
  have ob3 : ∀ b ∈ fp, ∃ o, s3.heap.get? b = some o := fun b hb => by
    obtain ⟨o, e⟩ := ob2 b hb
    exact ⟨o, by rw [hs3']; exact kp3 b o e⟩
  -- the block's dict
  refine wpAny_newFunctionEnv hcell (by intro y hy; simp at hy) (fun h1 hns hsb => ?_) hkind
  have kp4 : ∀ b o, s3.heap.get? b = some o → h1.get? b = some o := fun b o e => hsb.extBut b o (Nat.ne_of_lt (Heap.lt_size e)) (Heap.get?_push_of_some _ e)
  have IY := comp_inv (X := X) (NY := NY) (js := js) (scope := scope) (cl := cl) (fp := fp) (t' := s3.toks + ([] : List (Str × Value)).length) I3 hkind hcell hcl hfr hjs f3 ob3 kp4 hns
  have st4 : tn 0 h1 := T.keep _ _ _ st3 fun b _ o e => kp4 b o e
  have stat : ∀ {pl : List (Addr × Obj)} {H' : Hp}, (∀ b ∈ fp, H' b = none) → (∀ p ∈ pl, p.1 ∉ fp) → ∀ b ∈ fp, FpOk (cxComp X pins NY scope cl fp s3.heap.objs.size s3 (upd H2 s2.heap.objs.size (.lst []))) pl H' b := fun {pl H'} hn hp b hb => by
    obtain ⟨g1, g2⟩ := IY.ok.exf b hb
    refine ⟨hn b hb, g1, IY.ok.exfs b hb, .inl hb, g2, fun p hp' => ?_⟩
    rcases List.mem_append.mp hp' with z | z
    · exact (f3 b hb).2.2.2.2.2 p z
    · intro e
      exact hp p z (e ▸ hb)
  have loop : ∀ s4 : Shared, s4 = { s3 with heap := h1, toks := s3.toks + ([] : List (Str × Value)).length } →
      codeAny (model X.prog X.w) X.A (.compLoop (.ListComp elt [⟨tgt, iter, ifs, 0⟩] scope pos) 0 (.ref it) (.ref s2.heap.objs.size) (compEnvC scope cl s3.heap.objs.size X.env))
        (compPost (model X.prog X.w) X.A X.xe none (EP X pins σ Q) (.ref s2.heap.objs.size) s3.heap.objs.size) s4 := by
    rintro s4 rfl
    refine codeAny_compLoop_gen (fun n s' => ∃ i xs H', Inv (cxComp X pins NY scope cl fp s3.heap.objs.size s3 (upd H2 s2.heap.objs.size (.lst []))) [] (subSt js σ) H' s' ∧ tn i s'.heap ∧ (∀ b ∈ fp, H' b = none) ∧ W i n xs H') ?_ m0
      ⟨0, [], _, IY, st4, fun b hb => (f3 b hb).1, w0⟩
    rintro n s5 ⟨i, xs, H5, I5, st5, fr5, w5⟩
    obtain ⟨hD5, alt⟩ := turn i n xs H5 w5
    obtain ⟨bG, bI, bE⟩ := hb pins fp s3.heap.objs.size s3 (upd H2 s2.heap.objs.size (.lst []))
    rcases alt with ⟨stop, qn⟩ | ⟨go, N, hN, step⟩
    · refine wpAny_mono (T.done (cxComp X pins NY scope cl fp s3.heap.objs.size s3 (upd H2 s2.heap.objs.size (.lst []))) rfl rfl rfl hc i [] s5 (subSt js σ) H5 (fun _ _ => False) I5 (stat fr5 (by simp)) st5 stop) (fun r s6 hr => ?_) fun _ _ z => z.elim
      obtain ⟨hr, I6⟩ := hr
      subst hr
      obtain ⟨m6, hn6, _⟩ := I6.loc
      refine ⟨m6, hn6, fun h7 sb7 => ?_⟩
      have I7 : Inv X pins σ H5 s6 := I3.call' I6.os I6.base I6.hok I6.bare fun b hb => let ⟨_, g1, _, g3, g4, g5⟩ := f3 b hb; ⟨g3, g1, g4, g5⟩
      obtain ⟨c0, c1, c2, c3, c4, c5⟩ := I3.fpOk (b := s3.heap.objs.size) (Nat.le_refl _) (show H5 s3.heap.objs.size = none from I6.free)
      refine ⟨.ref s2.heap.objs.size, H5, ?_, rfl, qn⟩
      exact I7.turned (t' := s6.toks) (fun b o hb e => sb7.extBut b o hb e) c0 c1 c3 c4 c5
    · refine wpAny_mono (T.item (cxComp X pins NY scope cl fp s3.heap.objs.size s3 (upd H2 s2.heap.objs.size (.lst []))) rfl rfl rfl hc i [] s5 (subSt js σ) H5 (fun _ _ => False) I5 (stat fr5 (by simp)) st5 go) (fun r s6 hr => ?_) fun _ _ z => z.elim
      obtain ⟨u, hr, h6⟩ := hr
      subst hr
      refine wpAny_mono h6 (fun _ s7 h7 => ?_) fun _ _ z => z.elim
      obtain ⟨x, H7, I7, r7, y7, st7, fr7⟩ := h7
      have I7' := I7.pinned (stat fr7 (by simp)) (T.obj _ _ st7)
      have back : ∀ {σ8 : St} {H8 : Hp} {s8 : Shared}, Inv (cxComp X pins NY scope cl fp s3.heap.objs.size s3 (upd H2 s2.heap.objs.size (.lst []))) ([] ++ pinsAt fp s7.heap) σ8 H8 s8 → tn (i + 1) s8.heap ∧ (∀ b ∈ fp, H8 b = none) := fun {σ8 H8 s8} I8 => by
        refine ⟨T.keep _ _ _ st7 fun b hb o e => (I8.pin (b, o) (List.mem_append_right _ (List.mem_append_right _ (mem_pinsAt hb e)))).1, fun b hb => ?_⟩
        obtain ⟨o, e, _⟩ := T.obj _ _ st7 b hb
        exact (I8.pin (b, o) (List.mem_append_right _ (List.mem_append_right _ (mem_pinsAt hb e)))).2.1
      refine wpAny_mono (bG _ s7 (subSt js σ) H7 x u _ I7' r7 (step x H7 y7)) (fun _ s8 h8 => ?_) fun _ _ z => z.elim
      obtain ⟨σ8, H8, I8, wk, q8⟩ := h8
      have forget : ∀ {H8 : Hp} {s8 : Shared}, Inv (cxComp X pins NY scope cl fp s3.heap.objs.size s3 (upd H2 s2.heap.objs.size (.lst []))) ([] ++ pinsAt fp s7.heap) σ8 H8 s8 → Inv (cxComp X pins NY scope cl fp s3.heap.objs.size s3 (upd H2 s2.heap.objs.size (.lst []))) [] (subSt js σ) H8 s8 := fun I8 => I8.unpinned.weak wk.1 wk.2
      refine wpAny_mono (bI _ s8 σ8 H8 _ I8 q8) (fun ok s9 h9 => ?_) fun _ _ z => z.elim
      obtain ⟨H9, I9, q9⟩ := h9
      cases ok with
      | false =>
        rw [if_neg Bool.false_ne_true] at q9 ⊢
        obtain ⟨ys, n9⟩ := q9
        obtain ⟨m', hm, w9⟩ := hN _ _ n9
        exact ⟨m', hm, i + 1, ys, H9, forget I9, (back I9).1, (back I9).2, w9⟩
      | true =>
        rw [if_pos rfl] at q9 ⊢
        refine wpAny_mono (bE _ s9 σ8 H9 _ I9 q9) (fun xv s10 h10 => ?_) fun _ _ z => z.elim
        obtain ⟨v, H10, I10, r10, ys, hD, hz, n10⟩ := h10
        obtain ⟨m', hm, w10⟩ := hN _ _ n10
        refine wpAny_mono (mt_append (X := cxComp X pins NY scope cl fp s3.heap.objs.size s3 (upd H2 s2.heap.objs.size (.lst []))) _ s10 σ8 H10 (.ref s2.heap.objs.size) [v] _ [xv] (fun _ H11 => H11 = upd H10 s2.heap.objs.size (.lst (ys ++ [v]))) I10 rfl (.cons r10 .nil) ⟨_, ys, v, rfl, rfl, hD, hz, rfl⟩) (fun _ s11 h11 => ?_) fun _ _ z => z.elim
        obtain ⟨_, H11, I11, _, e11⟩ := h11
        subst e11
        exact ⟨m', hm, i + 1, _, _, forget I11, (back I11).1, (back I11).2, w10⟩
  exact codeAny_compStart_list (loop _ rfl) (T.self _ 0 _ _ _ st4 (loop _ rfl))
end
theorem weak_set {js : List (Option Nat)} {σ : St} {i : Nat} {v : V} (h : js[i]? = some none) : Weak (subSt js σ) ((subSt js σ).set i (some v)) := by
  refine ⟨by rw [List.length_set], fun k u e => ?_⟩
  by_cases hk : k = i
  · subst hk
    obtain ⟨j, ej, _⟩ := subSt_get e
    rw [h] at ej
    cases ej
  · rw [List.getElem?_set_ne (Ne.symm hk)]
    exact e
/-- over a list that the turns leave as it is -/
theorem comp_lst {K : PySem.W.Frag} {a : Addr} {xs : List V} {g : TG} {tc : TT} {te : TE} {js : List (Option Nat)} {σ : St} {H1 : Hp} {D : Addr} {Q : VK} (Pv : Nat → List V → Hp → Prop) (h0 : Pv 0 [] (upd H1 D (.lst []))) (hD : ∀ i ys H, Pv i ys H → H D = some (.lst ys))
    (hl : ∀ i ys H, i ≤ xs.length → Pv i ys H → SqL K H a xs)
    (hs : ∀ i x ys H, xs[i]? = some x → Pv i ys H → g x (subSt js σ) H fun σ2 H2 => Weak (subSt js σ) σ2 ∧ tc σ2 H2 fun b H3 =>
      if b = true then te σ2 H3 fun v H4 => ∃ zs, H4 D = some (.lst zs) ∧ zs.length < sizeLine ∧ Pv (i + 1) (zs ++ [v]) (upd H4 D (.lst (zs ++ [v]))) else ∃ zs, Pv (i + 1) zs H3)
    (hd : ∀ ys H, Pv xs.length ys H → Q (.ref D) H) :
    ∃ W : Nat → Nat → List V → Hp → Prop, (∃ m, W 0 m [] (upd H1 D (.lst []))) ∧
      ∀ i m xs H, W i m xs H → H D = some (.lst xs) ∧ (((Itl K a).stop i H ∧ Q (.ref D) H) ∨ ((Itl K a).go i H ∧ ∃ N : List V → Hp → Prop, (∀ ys H', N ys H' → ∃ m', m' < m ∧ W (i + 1) m' ys H') ∧ ∀ x H', (Itl K a).yld i H x H' → g x (subSt js σ) H' fun σ2 H2 => Weak (subSt js σ) σ2 ∧ tc σ2 H2 fun b H3 =>
        if b = true then te σ2 H3 fun v H4 => ∃ ys, H4 D = some (.lst ys) ∧ ys.length < sizeLine ∧ N (ys ++ [v]) (upd H4 D (.lst (ys ++ [v])))
        else ∃ ys, N ys H3)) := by
  refine ⟨fun i m ys H => m = xs.length - i ∧ i ≤ xs.length ∧ Pv i ys H, ⟨xs.length, by simp, Nat.zero_le _, h0⟩, ?_⟩
  rintro i m ys H ⟨rfl, hi, p⟩
  refine ⟨hD i ys H p, ?_⟩
  have q := hl i ys H hi p
  by_cases hlt : i < xs.length
  · refine .inr ⟨⟨xs, xs[i], q, by simp [hlt]⟩, Pv (i + 1), fun zs H' p' => ⟨xs.length - (i + 1), by omega, rfl, hlt, p'⟩, fun x H' y => ?_⟩
    obtain ⟨e, y⟩ := y
    subst e
    exact hs i x ys _ (y xs q) p
  · have e : i = xs.length := by omega
    subst e
    exact .inl ⟨⟨xs, q, Nat.le_refl _⟩, hd ys H p⟩
end L2
namespace L2
open PySem PySem.Spec PyProof.Rows
/- no bool meets an int -/
theorem Paired.getR {α β : Type} {F : α → β → Prop} {xs : List α} {ks : List β} (h : Paired F xs ks) : ∀ {i : Nat} {k : β}, ks[i]? = some k → ∃ x, xs[i]? = some x ∧ F x k := by
  induction h with
  | nil => intro i x e; simp at e
  | cons r _ ih =>
    intro i x e
    cases i with
    | zero => simp at e; subst e; exact ⟨_, rfl, r⟩
    | succ i => exact ih e
theorem Same.seqT {K : PySem.W.Frag} {H H' : Hp} {a : Addr} {xs : List V} (e : Same H H') (h : SqT K H a xs) : SqT K H' a xs := by
  rcases h with (h | ⟨o, h⟩) | h
  · exact .inl (.inl (e _ _ h))
  · exact .inl (.inr ⟨o, e _ _ h⟩)
  · exact .inr h
theorem Same.new {H : Hp} {a : Addr} {o : HO} (h : H a = none) : Same H (upd H a o) := fun b u e => by
  rw [upd_ne (ne_of_none e h)]
  exact e
section
variable {X : Cx} {pins : List (Addr × Obj)} {σ : St} {H : Hp} {s : Shared}
end
theorem call_isinst {X : Cx} : CallR X (.builtin "isinstance") (fun xs H Q => ∃ x T t b, xs = [x, .ty T] ∧ TyOf X.K H x t ∧ PySem.W.kitOne X.K t (.type T) = some b ∧ Q (.bl b) H) := by
  intro pins s σ H xs us Q I r h
  obtain ⟨x, T, t, b, rfl, ty, e, q⟩ := h
  obtain ⟨u, w', rfl, rx, ry⟩ := vals2 r
  cases ry
  exact isinst_ok I rx ty e fun tk => ⟨.bl b, H, I.tok _, rfl, q⟩
end L2
namespace L2
open PySem PySem.Spec PyProof.Rows
structure DefIn (K : PySem.W.Frag) (x : Str) (st : Stmt) : Prop where
  ex : ∃ (f : Addr) (oc : Value) (od : Option Addr) (kV doc pm : Value) (an : Option Addr) (cdv ct : Value) (osl : Array (Option Value)),
    PySem.W.nsIn K mainGlobals x = some (some (.ref f)) ∧ K.lookup f = some ⟨oc, od, .func (PySem.W.fnOf x x (defArgs st) (defBody st) (defScope st) .none kV doc pm an cdv ct), osl⟩ ∧ PySem.W.codeIn K cdv x = true ∧ PySem.W.keepIn K (.ref f) = true
theorem DefIn.mk' {K : PySem.W.Frag} {x : Str} {st : Stmt} {f : Addr} {oc : Value} {od : Option Addr} {kV doc pm : Value} {an : Option Addr} {cdv ct : Value} {osl : Array (Option Value)}
    (a : PySem.W.nsIn K mainGlobals x = some (some (.ref f))) (l : K.lookup f = some ⟨oc, od, .func (PySem.W.fnOf x x (defArgs st) (defBody st) (defScope st) .none kV doc pm an cdv ct), osl⟩)
    (c : PySem.W.codeIn K cdv x = true) (k : PySem.W.keepIn K (.ref f) = true) : DefIn K x st := ⟨⟨f, oc, od, kV, doc, pm, an, cdv, ct, osl, a, l, c, k⟩⟩
/-- the module's names by the written part -/
structure MG (K : PySem.W.Frag) (mg : Str → Option Value) : Prop where
  is : ∀ x v, PySem.W.nsIn K mainGlobals x = some (some v) → mg x = some v
  no : ∀ x, PySem.W.nsIn K mainGlobals x = some none → mg x = none
def FnB (P : Program) (w : World) (K : PySem.W.Frag) (mg : Str → Option Value) (x : Str) (ps : List Str) (k : Nat) (sp : Sp) : Prop :=
  ∃ (f : Addr) (fd : FuncData), mg x = some (.ref f) ∧ PySem.W.keepIn K (.ref f) = true ∧ (∀ us : List Value, us.length = ps.length → bindArgs fd ⟨us, []⟩ = pure (ps.zip us)) ∧ ∀ base, FnOk P w K mg base CX0 k f fd ps sp
theorem DefIn.fn {P : Program} {w : World} {K : PySem.W.Frag} {mg : Str → Option Value} {x : Str} {st : Stmt} {N ps : List Str} {k : Nat} {sp : Sp} (D : DefIn K x st) (M : MG K mg) (S : FnScope N ps (defScope st))
    (hb : ∀ (kV doc pm : Value) (an : Option Addr) (cdv ct : Value) (us : List Value), us.length = ps.length → bindArgs (PySem.W.fnOf x x (defArgs st) (defBody st) (defScope st) .none kV doc pm an cdv ct) ⟨us, []⟩ = pure (ps.zip us))
    (len : ∀ vs H Q E, sp vs H Q E → vs.length = ps.length)
    (hbody : ∀ (f : Addr) (base : Heap) (cdv : Value) (A : Around) (outer : List Env) (s : Shared) (H : Hp) (vs : List V) (Q : VK) (E : XK), Room k (A.deeper (envOfC x (defScope st) s.heap.objs.size f cdv)) → sp vs H Q E →
      ∃ t, PSs (cxOf CX0 P w K mg base N x (defScope st) f cdv A outer s H E).nox (defBody st) t ∧ t { nx := fun _ H' => Q .non H', rt := Q } (start N vs) H) : FnB P w K mg x ps (k + 1) sp := by
  obtain ⟨f, oc, od, kV, doc, pm, an, cdv, ct, osl, a, l, c, kp⟩ := D.ex
  have F : Fun K x x st f (PySem.W.fnOf x x (defArgs st) (defBody st) (defScope st) .none kV doc pm an cdv ct) := fun_mk l c kp
  exact ⟨f, _, M.is _ _ a, kp, hb kV doc pm an cdv ct, fun base => F.ok S len (hbody f base)⟩
section
variable {X : Cx} {k : Nat} {ps : List Str} {sp : Sp} {x : Str} {p pos : Pos} {e : Expr} {es : List Expr} {t : TA}
/-- f(e, ..), f a def of the module -/
theorem pe_callF (F : FnB X.prog X.w X.K X.mg x ps k sp) (hr : Room k X.A) (hg : Gl X x) (ha : PA X (e :: es) t)
    (hdb : (x == ("__debug__" : Str)) = false := by decide) (he : starEach (e :: es) X.env = (false, eval e X.env) :: starEach es X.env := by rfl) (hpl : (backTo pos (starEach es X.env)).any (·.1) = false := by rfl) :
    PE X (.Call (.Name x p) (e :: es) [] pos) (tCall sp [] E0 t) := by
  obtain ⟨f, fd, h1, h2, h3, h4⟩ := F
  exact pe_call (h4 X.base) hr hg h1 h2 (.all h3) .nil pass0 ha hdb he hpl
theorem pe_callF0 (F : FnB X.prog X.w X.K X.mg x ps k sp) (hr : Room k X.A) (hg : Gl X x) (hdb : (x == ("__debug__" : Str)) = false := by decide) : PE X (.Call (.Name x p) [] [] pos) (tCall sp [] E0 tNil) := by
  obtain ⟨f, fd, h1, h2, h3, h4⟩ := F
  exact pe_call0 (h4 X.base) hr hg h1 h2 (.all h3) .nil pass0 hdb
/-- a constant of the module -/
def GlobIs (K : PySem.W.Frag) (x : Str) (v : V) : Prop := ∃ u, PySem.W.nsIn K mainGlobals x = some (some u) ∧ RelV v u
theorem pe_globC {v : V} (G : GlobIs X.K x v) (M : MG X.K X.mg) (hg : Gl X x) (hd : (x == ("__debug__" : Str)) = false := by decide) : PE X (.Name x p) (tC v) := by
  obtain ⟨u, h1, h2⟩ := G
  exact pe_glob hg (M.is _ _ h1) h2 hd
end
/-- the law's last step: its promise gives the whole -/
theorem walkB {l : PySem.W.OpenLaw} {q : Program} {loose : List Str} {XP : (Str → Option Value) → Heap → Prop} {YP : World → Heap → Prop} {d : DefRec} {K : Params → PySem.W.Frag} {x : Str} (k : Nat) (hk : Room k callerA)
    (hn : l.most = some 63) (hdf : d.params.defaults = [])
    (hY : ∀ (w : World) (h : Heap), YP w h → (K w.params).In h)
    (sp : PySem.W.Frag → Sp) (hsp : ∀ (K : PySem.W.Frag) (H : Hp) (a : Addr) (ns : List Int), ns.length ≤ 63 → SqL K H a (ns.map V.int) → sp K [.ref a] H (fun v _ => v = .bl true) fun _ _ _ => False)
    (F : ∀ (w : World) (mg : Str → Option Value), MG (K w.params) mg → FnB l.prog w (K w.params) mg d.name [x] k (sp (K w.params))) :
    PySem.W.WalkO q loose XP YP l.row.toRowW d [] (fun f vs => PySem.call f vs) :=
  L2.walk_of (n := 63) (k := k) (x := x) (CX := fun _ => CX0) (sp := fun w => sp (K w.params)) hn (by decide) hdf hk hY
    (fun w mg fa h KX G hmg => by
      have M : MG (K w.params) mg := ⟨fun y v e => PySem.W.mg_of KX G e, fun y e => PySem.W.mg_none_of KX G e⟩
      obtain ⟨f, fd, h1, h2, h3, h4⟩ := F w mg M
      have e := hmg.symm.trans h1
      cases e
      exact ⟨fd, fun s u => .of_eq (h3 [u] rfl), fun base _ _ => h4 base⟩)
    (fun w H a ns hl _ hS => hsp (K w.params) H a ns hl hS) fun _ _ _ _ _ z => z
end L2
namespace L2
open PySem PySem.Spec PyProof.Rows
/-- a statement, then the rest, met at a word G of the state between -/
def tSeqJ (t u : TS) : TS := fun D σ H => ∃ G : St → Hp → Prop, t { D with nx := G } σ H ∧ ∀ σ' H', G σ' H' → u D σ' H'
theorem pss_consJ {X : Cx} {st : Stmt} {rest : List Stmt} {t u : TS} (h1 : PS X st t) (h2 : PSs X rest u) : PSs X (st :: rest) (tSeqJ t u) := by
  intro pins s σ H D I h
  obtain ⟨G, q1, q2⟩ := h
  refine wpAny_execs_cons (thn (h1 pins s σ H { D with nx := G } I q1) fun f s1 q => ?_)
  cases f with
  | next =>
    obtain ⟨σ', H', I', q⟩ := q
    exact h2 pins s1 σ' H' D I' (q2 σ' H' q)
  | ret v => exact q
  | brk => exact q
  | cont => exact q
theorem JsOk.nil {X : Cx} {scope : Scope} : JsOk X scope [] [] := trivial
theorem JsOk.own {X : Cx} {scope : Scope} {js : List (Option Nat)} {x : Str} {N : List Str} (h : JsOk X scope js N) : JsOk X scope (none :: js) (x :: N) := h
theorem JsOk.out {X : Cx} {scope : Scope} {j : Nat} {js : List (Option Nat)} {x : Str} {N : List Str} (h1 : X.N[j]? = some x) (h2 : scope.names.lookup x = some .free) (h3 : X.env.kindOf x = some .cell ∨ X.env.kindOf x = some .free) (h : JsOk X scope js N) : JsOk X scope (some j :: js) (x :: N) := by
  refine ⟨⟨h1, h2, ?_, h3⟩, h⟩
  rcases h3 with e | e <;> rw [e] <;> intro z <;> cases z
theorem ClIn.nil {cells : List (Str × Addr)} : ClIn cells [] := trivial
theorem ClIn.cons {cells : List (Str × Addr)} {p : Str × Addr} {r : List (Str × Addr)} (h1 : cells.lookup p.1 = some p.2) (h2 : ClIn cells r) : ClIn cells (p :: r) := ⟨h1, h2⟩
theorem kit_same {K : PySem.W.Frag} {T : String} : PySem.W.kitOne K (.type T) (.type T) = some true := by
  unfold PySem.W.kitOne
  rw [if_pos (by simp)]
end L2
namespace L2
abbrev KOfM {K : PySem.W.Frag} {mg : PySem.Str → Option PySem.Value} (_ : MG K mg) : PySem.W.Frag := K
end L2
namespace L2
open PySem PySem.Spec PyProof.Rows
def plainE : Expr → Bool
  | .Starred .. => false
  | _ => true
theorem star_plain {e : Expr} {es : List Expr} {env : Env} (h : plainE e = true) : starEach (e :: es) env = (false, eval e env) :: starEach es env := by
  cases e <;> first | rfl | exact absurd h Bool.false_ne_true
def plainEs : List Expr → Bool
  | [] => true
  | e :: r => plainE e && plainEs r
theorem back_plain {pos : Pos} {env : Env} : ∀ {es : List Expr}, plainEs es = true → (backTo pos (starEach es env)).any (·.1) = false
  | [], _ => rfl
  | e :: r, h => by
    simp only [plainEs, Bool.and_eq_true] at h
    rw [star_plain h.1]
    show (false || (backTo pos (starEach r env)).any (·.1)) = false
    rw [back_plain h.2]
    rfl
def noComp : Expr → Bool
  | .ListComp .. => false
  | .SetComp .. => false
  | .DictComp .. => false
  | _ => true
theorem swaps_plain {e : Expr} {t : Option Expr} {l : Nat} {env : Env} (h : noComp e = true) : swapsWith e t l env = pure false := by
  cases e <;> first | rfl | exact absurd h Bool.false_ne_true
section
variable {X : Cx} {e : Expr} {es : List Expr} {te ta tb : TE} {t : TA} {pos p : Pos} {x : Str} {k : Nat} {ps : List Str} {sp : Sp}
theorem pc (ha : PE X e te) (hr : PA X es t) (h : plainE e = true := by rfl) : PA X (e :: es) (tCons te t) := pa_cons ha hr (star_plain h)
theorem pset {i : Nat} {pos' : Pos} (hN : X.N.Nodup) (hi : X.N[i]? = some x) (hx : Loc X.env.scope x) (he : PE X e te) (h : noComp e = true := by rfl) (hf : X.fn x = true ∨ X.env.scope.names.lookup x = some .local := by first | exact .inl rfl | exact .inr rfl | assumption) :
    PS X (.Assign [.Name x pos'] e pos) (tAsg te (gName i)) := ps_set hN hi hx he (swaps_plain h) hf
theorem pexpr (he : PE X e te) (h : noComp e = true := by rfl) : PS X (.Expr e pos) (tDrop te) := ps_expr he (swaps_plain h)
theorem pcallF (F : FnB X.prog X.w X.K X.mg x ps k sp) (hr : Room k X.A) (hg : Gl X x) (ha : PA X (e :: es) t) (hdb : (x == ("__debug__" : Str)) = false := by decide) (h1 : plainE e = true := by rfl) (h2 : plainEs es = true := by rfl) :
    PE X (.Call (.Name x p) (e :: es) [] pos) (tCall sp [] E0 t) := pe_callF F hr hg ha hdb (star_plain h1) (back_plain h2)
variable {id T : String} {r : List V → Hp → VK → Prop}
theorem pcallB (hc : CallR X (.builtin id) r) (hg : Gl X x) (hm : X.mg x = none) (hv : bootBuiltins x = some (.builtin id)) (ha : PA X (e :: es) t) (hn : x ≠ "__name__" := by decide) (hdb : (x == ("__debug__" : Str)) = false := by decide)
    (h1 : plainE e = true := by rfl) (h2 : plainEs es = true := by rfl) : PE X (.Call (.Name x p) (e :: es) [] pos) (tCB r t) := pe_callB hc hg hm hv ha hn hdb (star_plain h1) (back_plain h2)
theorem pcallTy (hc : CallR X (.type T) r) (hg : Gl X x) (hm : X.mg x = none) (hv : bootBuiltins x = some (.type T)) (ha : PA X (e :: es) t) (hn : x ≠ "__name__" := by decide) (hdb : (x == ("__debug__" : Str)) = false := by decide)
    (h1 : plainE e = true := by rfl) (h2 : plainEs es = true := by rfl) : PE X (.Call (.Name x p) (e :: es) [] pos) (tCB r t) := pe_callTy hc hg hm hv ha hn hdb (star_plain h1) (back_plain h2)
end
end L2
namespace L2
open PySem PySem.Spec PyProof.Rows
def zAdd : R2 := fun x y H Q => ∃ i j, x = .int i ∧ y = .int j ∧ Q (.int (i + j)) H
def zSub : R2 := fun x y H Q => ∃ i j, x = .int i ∧ y = .int j ∧ Q (.int (i - j)) H
def zMul : R2 := fun x y H Q => ∃ i j, x = .int i ∧ y = .int j ∧ CMul i j ∧ Q (.int (i * j)) H
def zMulB : R2 := fun x y H Q => ∃ i j, x = .int i ∧ y = .int j ∧ (Fig i ∧ Fig j) ∧ Q (.int (i * j)) H
def zFdiv : R2 := fun x y H Q => ∃ i j, x = .int i ∧ y = .int j ∧ (0 < j ∧ Fig j) ∧ Q (.int (i / j)) H
def zMod : R2 := fun x y H Q => ∃ i j, x = .int i ∧ y = .int j ∧ 0 < j ∧ Q (.int (i % j)) H
def zLt : R2 := fun x y H Q => ∃ i j, x = .int i ∧ y = .int j ∧ Q (.bl (decide (i < j))) H
def zGt : R2 := fun x y H Q => ∃ i j, x = .int i ∧ y = .int j ∧ Q (.bl (decide (j < i))) H
def zNeg : V → Hp → VK → Prop := fun x H Q => ∃ i, x = .int i ∧ Q (.int (-i)) H
section
variable {X : Cx}
theorem oAdd : OpR X (binaryOp .Add) zAdd := op_add
theorem oSub : OpR X (binaryOp .Sub) zSub := op_sub
theorem oMul : OpR X (binaryOp .Mult) zMul := op_mul
theorem oMulB : OpR X (binaryOp .Mult) zMulB := op_mulB
theorem oFdiv : OpR X (binaryOp .FloorDiv) zFdiv := op_fdivB
theorem oMod : OpR X (binaryOp .Mod) zMod := op_mod
theorem oLt : OpR X (compareOp .Lt) zLt := op_lt
theorem oGt : OpR X (compareOp .Gt) zGt := op_gt
theorem uNeg : UnR X (unaryOp .USub) zNeg := un_neg
end
end L2
namespace L2
open PySem PySem.Spec PyProof.Rows
theorem GlobIs.ofStr {K : PySem.W.Frag} {x z : Str} {t : Tok} (a : PySem.W.nsIn K mainGlobals x = some (some (.str z t))) : GlobIs K x (.str z) := ⟨_, a, ⟨t, rfl⟩⟩
theorem GlobIs.ofInt {K : PySem.W.Frag} {x : Str} {i : Int} {t : Tok} (a : PySem.W.nsIn K mainGlobals x = some (some (.int i t))) : GlobIs K x (.int i) := ⟨_, a, ⟨t, rfl⟩⟩
end L2
namespace L2
open PySem PySem.Spec PyProof.Rows
section
variable {κ : Type} [DecidableEq κ]
end
section
variable {P : Program} {w : World} {H : Hp} {h : Heap} {a : Addr}
end
section
variable {X : Cx} {pins : List (Addr × Obj)} {σ : St} {H : Hp} {s : Shared} {a : Addr} {y v : V} {u r : Value} {o : Option V} {A : Around} {E : Value → Shared → Prop}
end
section
variable {X : Cx} {pins : List (Addr × Obj)} {σ : St} {H : Hp} {s : Shared} {a : Addr} {kvs : List (Key × V)} {k : Key} {u : Value} {A : Around} {E : Value → Shared → Prop}
end
section
variable {X : Cx} {o i e value : Expr} {pos pos' tpos : Pos} {td ty tv : TE}
end
section
variable {X : Cx} {pos : Pos}
end
/-- a method call o.m(e) of a built-in, with one argument: what must be seen of the text -/
structure M1 (X : Cx) (o : Expr) (m : Str) (apos : Pos) (e : Expr) (cpos : Pos) : Prop where
  base : attributeBase o m X.env (eval o X.env) = eval o X.env
  few : ((backTo cpos (starEach [e] X.env)).all (fun x => !x.1) && (backToKw cpos (keywordEach [] X.env)).all (fun x => x.1.isSome)
    && decide (([e] : List Expr).length + ([] : List Keyword).length + (if ([] : List Keyword).isEmpty then 0 else 1) < 30)) = true
  line : (apos.endLine == cpos.line) = true
  trees : backTo cpos (starEach [e] X.env) = [(false, eval e X.env)]
section
variable {X : Cx} {pins : List (Addr × Obj)} {σ : St} {H : Hp} {s : Shared} {a : Addr} {y d : V} {u r : Value} {o : Option V} {A : Around} {E : Value → Shared → Prop}
end
section
variable {X : Cx} {o e f : Expr} {apos cpos : Pos} {td ty tx : TE}
end
section
variable {X : Cx} {pins : List (Addr × Obj)} {σ : St} {H : Hp} {s : Shared} {a : Addr} {kvs : List (Key × V)} {A : Around} {E : Value → Shared → Prop}
end
section
variable {X : Cx} {pins : List (Addr × Obj)} {σ : St} {H : Hp} {s : Shared} {a : Addr} {y : V} {u : Value} {A : Around} {E : Value → Shared → Prop}
end
end L2
namespace L2
open PySem PySem.Spec PyProof.Rows
section
variable {X : Cx}
end
section
variable {κ : Type} [DecidableEq κ]
end
end L2
namespace L2
open PySem PySem.Spec PyProof.Rows
section
variable {P : Program} {w : World} {H H' : Hp} {h : Heap} {a : Addr} {o : HO}
theorem ObjOk.here (x : ObjOk P w H h a o) : ∃ u, h.get? a = some u := by
  cases o with
  | lst xs => obtain ⟨_, _, _, _, e⟩ := x; exact ⟨_, e⟩
  | tup xs => obtain ⟨_, _, _, u, e, _⟩ := x; exact ⟨u, e⟩
  | dK kvs => obtain ⟨_, _, _, _, u, _, _, e, _⟩ := x; exact ⟨u, e⟩
  | dT kvs => obtain ⟨_, _, _, _, u, _, _, e, _⟩ := x; exact ⟨u, e⟩
  | set S n => obtain ⟨u, _, _, _, e, _⟩ := x; exact ⟨u, e⟩
  | ins C dx fs => obtain ⟨_, _, _, e, _⟩ := x; exact ⟨_, e⟩
  | own y => exact x
  | xd fs => obtain ⟨_, ⟨u, _, _, e, _⟩, _⟩ := x; exact ⟨u, e⟩
  | rng lo hi => obtain ⟨_, _, _, e⟩ := x; exact ⟨_, e⟩
  | frz ob u => obtain ⟨e, _⟩ := x; exact ⟨_, e⟩
  | tbl ps => exact ⟨_, (show h.get? a = some _ from x)⟩
  | met f y => exact ⟨_, (show h.get? a = some _ from x)⟩
  | ext φ => exact x.2.1
theorem HOk.none (x : HOk P w H h) (e : h.get? a = Option.none) : H a = Option.none := by
  cases q : H a with
  | none => rfl
  | some o =>
    obtain ⟨u, z⟩ := (x a o q).here
    rw [e] at z; cases z
end
/-- an exception of class C at a, behind a call made at (H, s) from the frames l; H': the abstract heap behind it -/
structure Fly (P : Program) (w : World) (l : List Env) (H : Hp) (s : Shared) (a : Addr) (C : Value) (H' : Hp) (s' : Shared) : Prop where
  os : s'.os = s.os
  bare : AllBare s'.gens
  un : Un (frs l) [] H H' s.heap s'.heap
  new : s.heap.get? a = none
  gr : ∃ B a0, Heap.FlyingW B l a C a0 s'.heap ∧ HOk P w H' B ∧ ∀ b o, s.heap.get? b = some o → b ∉ frs l → ∃ o', B.get? b = some o' ∧ (H b = none → o' = o)
def CXE (P : Program) (w : World) : CXT := fun l H s E e s' => ∃ a C H', e = .ref a ∧ Fly P w l H s a C H' s' ∧ E C none H'
section
variable {X : Cx} {pins : List (Addr × Obj)} {σ : St} {H H' : Hp} {s s' : Shared} {a : Addr} {C : Value} {B h2 : Heap}
/-- the state behind an unwinding: all of B is kept, the rest up to slots -/
theorem Inv.fly (I : Inv X pins σ H s) (os : s'.os = s.os) (bare : AllBare s'.gens) (un : Un (frs X.stack) [] H H' s.heap s'.heap) (st : B.StaysIn h2) (sm : s'.heap.UpToSlots h2) (hb : HOk X.prog X.w H' B)
    (gr : ∀ b o, s.heap.get? b = some o → b ∉ frs X.stack → ∃ o', B.get? b = some o' ∧ (H b = none → o' = o)) : Inv X pins σ H' { s' with heap := h2 } := by
  have slot : ∀ b o, s.heap.get? b = some o → b ∈ frs X.stack → ∃ sl, h2.get? b = some { o with slots := sl } := fun b o e hm => by
    obtain ⟨sl, e1⟩ := un.slot b o e (I.stkFree b hm) hm (by simp)
    obtain ⟨_, o1, eo, hd⟩ := I.stack.mem hm
    rw [e] at eo; cases eo
    obtain ⟨sl2, e2⟩ := sm b _ e1 hd
    exact ⟨sl2, e2⟩
  have u2 : Un (frs X.stack) [] H H' s.heap h2 := by
    refine ⟨fun b o e n hm _ => ?_, fun b o e n hm _ => slot b o e hm, fun b o e n hx => un.free b o e n hx, fun b o e _ => ?_, un.tups, un.frzs, un.tbls⟩
    · obtain ⟨o', e', k⟩ := gr b o e hm
      rw [← k n]; exact st b o' e'
    · by_cases hm : b ∈ frs X.stack
      · obtain ⟨sl, z⟩ := slot b o e hm
        exact ⟨_, z⟩
      · obtain ⟨o', e', _⟩ := gr b o e hm
        exact ⟨o', st b o' e'⟩
  exact I.call' (s' := { s' with heap := h2 }) (ch := []) os u2 (hb.kept st) bare (fun b z => absurd z (by simp))
theorem Inv.noframe (I : Inv X pins σ H s) {b : Addr} {o : Obj} (e : X.s₀.heap.get? b = some o) (hm : b ∉ X.fs) : b ∉ frs X.stack := fun z => by
  rcases List.mem_cons.mp (I.stkSub b z) with q | q
  · exact absurd (Heap.lt_size e) (by rw [q]; exact Nat.not_lt.mpr I.ok.above)
  · exact hm q
theorem Inv.ground (I : Inv X pins σ H s) (hx : X.ex = []) (gr : ∀ b o, s.heap.get? b = some o → b ∉ frs X.stack → ∃ o', B.get? b = some o' ∧ (H b = none → o' = o)) :
    ∀ b o, X.s₀.heap.get? b = some o → b ∉ X.fs → ∃ o', B.get? b = some o' ∧ (X.H₀ b = none → o' = o) := fun b o e hm => by
  have hbx : b ∉ X.ex := by rw [hx]; simp
  obtain ⟨o1, e1⟩ := I.base.there b o e hbx
  obtain ⟨o', e', k⟩ := gr b o1 e1 (I.noframe e hm)
  refine ⟨o', e', fun n => ?_⟩
  have z := I.base.keep b o e n hm hbx
  rw [e1] at z; cases z
  exact k (I.base.free b _ e n hbx)
theorem Inv.unborn (I : Inv X pins σ H s) (hx : X.ex = []) (e : s.heap.get? a = none) : X.s₀.heap.get? a = none := by
  cases q : X.s₀.heap.get? a with
  | none => rfl
  | some o =>
    obtain ⟨o', z⟩ := I.base.there a o q (by rw [hx]; simp)
    rw [e] at z; cases z
/-- it leaves a def's frame -/
theorem Fly.out {Q : Unit → Shared → Prop} {E : Value → Shared → Prop} (I : Inv X pins σ H s) (hs : X.stack = X.env :: X.outer) (hf : X.env.frame = some X.env.locals) (hx : X.ex = []) (F : Fly X.prog X.w X.stack H s a C H' s')
    (h : ∀ h2, Fly X.prog X.w X.outer X.H₀ X.s₀ a C H' { s' with heap := h2 } → Q () { s' with heap := h2 }) : wpAny (model X.prog X.w) X.A (leaving X.env (.ref a)) Q E s' := by
  obtain ⟨B, a0, fl, hb, gr⟩ := F.gr
  have fl' := fl
  rw [hs] at fl'
  have hfr := I.ok.frames
  rw [hs] at hfr
  refine wpAny_leaves_onW hfr hf fl' fun h2 fl2 sm => h h2 ?_
  have I2 := I.fly F.os F.bare F.un fl2.1 sm hb gr
  have b2 : Un X.fs X.ex X.H₀ H' X.s₀.heap h2 := I2.base
  rw [hx] at b2
  exact ⟨F.os.trans I.os, F.bare, b2, I.unborn hx F.new, B, a0, fl2, hb, I.ground hx gr⟩
/-- it is raised in a def's body -/
theorem Fly.made {Q : Unit → Shared → Prop} {E : Value → Shared → Prop} {h' : Heap} {vs : List Value} (I : Inv X pins σ H s) (hs : X.stack = X.env :: X.outer) (hf : X.env.frame = some X.env.locals) (hx : X.ex = []) (M : Heap.MadeExcOf s.heap h' a C vs)
    (h : ∀ h2, Fly X.prog X.w X.outer X.H₀ X.s₀ a C H { s with heap := h2 } → Q () { s with heap := h2 }) : wpAny (model X.prog X.w) X.A (leaving X.env (.ref a)) Q E { s with heap := h' } := by
  have hfr := I.ok.frames
  rw [hs] at hfr
  have stk := I.stack
  have ff : s.heap.FunFrames (PySem.W.hideAll s.heap (frs X.stack)) X.stack := PySem.W.funFrames_hide stk fun env he b hb => List.mem_filterMap.mpr ⟨env, he, hb⟩
  rw [hs] at ff
  have hb : HOk X.prog X.w H (PySem.W.hideAll s.heap (frs X.stack)) := fun b o e => (I.hok b o e).stay (fun c u hc q => PySem.W.hideAll_get _ q fun z => by
    have n := I.stkFree c z
    rcases hc with r | r
    · rw [r, e] at n; cases n
    · rw [r] at n; cases n) (fun _ q => q) fun _ _ q => q
  have gr : ∀ b o, s.heap.get? b = some o → b ∉ frs X.stack → ∃ o', (PySem.W.hideAll s.heap (frs X.stack)).get? b = some o' ∧ (H b = none → o' = o) := fun b o e n => ⟨o, PySem.W.hideAll_get _ e n, fun _ => rfl⟩
  refine wpAny_leaves_madeW (s := { s with heap := h' }) (base := PySem.W.hideAll s.heap (frs X.stack)) (h := s.heap) hfr hf (fun b o q => PySem.W.of_hideAll _ q) (by rw [hs] at *; exact ff) M fun h2 t fl htup hn sm => h h2 ?_
  have I2 : Inv X pins σ H { s with heap := h2 } := I.fly (s' := { s with heap := h' }) rfl I.bare (Un.kept M.keeps) fl.1 sm hb gr
  have b2 : Un X.fs X.ex X.H₀ H X.s₀.heap h2 := I2.base
  rw [hx] at b2
  exact ⟨I.os, I.bare, b2, I.unborn hx M.new, _, _, fl, hb, I.ground hx gr⟩
end
/-- an exception that is raised here reaches what is wanted -/
def Raises (X : Cx) (E : XK) : Prop := ∀ (pins : List (Addr × Obj)) (σ : St) (H : Hp) (s : Shared) (h' : Heap) (a : Addr) (C : Value) (vs : List Value), Inv X pins σ H s → Heap.MadeExcOf s.heap h' a C vs → E C none H → X.xe (.ref a) { s with heap := h' }
section
variable {P : Program} {w : World} {K : PySem.W.Frag} {mg : Str → Option Value} {base : Heap} {N : List Str} {qual : Str} {scope : Scope} {f : Addr} {cd : Value} {A : Around} {outer : List Env} {s : Shared} {H : Hp} {E : XK}
theorem passX : Passes (CXE P w) (cxOf (CXE P w) P w K mg base N qual scope f cd A outer s H E) E := by
  intro pins σ H1 s1 e s' I h
  obtain ⟨a, C, H', he, F, q⟩ := h
  subst he
  exact Fly.out I rfl rfl rfl F fun h2 F2 => ⟨a, C, H', rfl, F2, q⟩
theorem raisesX : Raises (cxOf (CXE P w) P w K mg base N qual scope f cd A outer s H E) E := by
  intro pins σ H1 s1 h' a C vs I M q
  exact Fly.made I rfl rfl rfl M fun h2 F2 => ⟨a, C, H1, rfl, F2, q⟩
end
theorem exc_obj {K : PySem.W.Frag} {h : Heap} {C : Addr} {bmB : List Value} {newId : String} (X : K.In h) (q : PySem.W.excIn K C bmB newId = true) :
    ∃ bm N nm qn bs hdct sn sub ab col dd k0 k1 k2 k3 k5 mN, h.get? C = some (excClassObj nm qn C N bs bm hdct sn sub ab col dd k0 k1 k2 k3 k5 newId) ∧ h.Ns N mN ∧ mN "__init__" = none ∧ OwnTail h bmB bm := by
  unfold PySem.W.excIn at q
  split at q
  · rename_i dd cd sl ho; split at q
    · rename_i C' bm k0 k1 k2 k3 n k5 hm hs; simp only [Bool.and_eq_true, beq_iff_eq, Bool.not_eq_true'] at q
      obtain ⟨⟨⟨⟨⟨c1, c2⟩, hdel⟩, ht⟩, hok⟩, hni⟩ := q; subst c1; subst c2
      obtain ⟨nm, bs, mro, ns, qn, hd, sn, sub, ab, col, del⟩ := cd; dsimp only at hm hdel hok hni; subst hm; subst hdel
      have hsl : sl = #[k0, k1, k2, k3, some (.builtin n), k5] := by cases sl; exact congrArg Array.mk hs
      subst hsl
      exact ⟨bm, ns, nm, qn, bs, hd, sn, sub, ab, col, dd, k0, k1, k2, k3, k5, _, X _ _ ho, Heap.Ns.of_isNs (PySem.W.isNs_of_in X hok), PySem.W.nsMap_none_of_in X hok hni, PySem.W.tail_of_in X ht⟩
    · exact absurd q (by simp)
  · exact absurd q (by simp)
section
variable {X : Cx} {E : XK} {x : Str} {C : Addr} {bmB : List Value} {newId B initId : String} {e₀ : Expr} {es : List Expr} {t : TA} {np cpos pos : Pos}
theorem ps_raise (hR : Raises X E) (hc : X.calm = true) (hg : Gl X x) (hm : X.mg x = some (.ref C)) (q : PySem.W.excIn X.K C bmB newId = true) (FB : ExcBaseFacts B newId initId bmB) (ha : PA X (e₀ :: es) t)
    (hd : (x == ("__debug__" : Str)) = false := by decide) (he : starEach (e₀ :: es) X.env = (false, eval e₀ X.env) :: starEach es X.env := by rfl) (hpl : (backTo cpos (starEach es X.env)).any (·.1) = false := by rfl) :
    PS X (.Raise (some (.Call (.Name x np) (e₀ :: es) [] cpos)) none pos) (fun _ σ H => t σ H fun vs H1 => vs.length ≤ sizeLine ∧ E (.ref C) none H1) := by
  intro pins s σ H D I h
  obtain ⟨tl, N, nm, qn, bs, hdct, sn, sub, ab, col, dd, k0, k1, k2, k3, k5, mN, hC, hN, hni, T⟩ := exc_obj I.ok.mod.kin q
  refine wpAny_Raise_call_subT (C := C) (nm := nm) (q := qn) (N := N) (bs := bs) (bm := tl) (hdct := hdct) (sn := sn) (sub := sub) (ab := ab) (col := col) (dd := dd) (k0 := k0) (k1 := k1) (k2 := k2) (k3 := k3) (k5 := k5) FB (mN := mN)
    (T.hasType FB.hasBase) (I.ok.hd hc) (by rw [he]; show (false || (backTo cpos (starEach es X.env)).any (·.1)) = false; rw [hpl]; rfl) hni (ld_glob I hg hm ⟨rfl, ?_⟩ hd)
  have h2 := ha cpos pins s σ H _ I h
  rw [he] at h2 ⊢
  refine Calls.evalArgs_plain (wpAny_mono h2 (fun us s2 z => ?_) fun _ _ y => y)
  obtain ⟨vs, H2, I2, r, hl, hE⟩ := z
  exact ⟨rfl, by rw [← r.length]; exact hl, I2.bk _ _ hC, hN.keeps I2.bk, T.keeps I2.bk, fun h' e M => hR pins σ H2 s2 h' e _ _ I2 M hE⟩
end
end L2
namespace L2
open PySem PySem.Spec PyProof.Rows
/-- the body of a try: an exception lands in the handler -/
abbrev Cx.tryE (X : Cx) (pins : List (Addr × Obj)) (E : XK) : Cx :=
  { X with pn := X.pn ++ pins, xe := fun e s' => ∃ σ H s a C H', e = .ref a ∧ Inv X pins σ H s ∧ Fly X.prog X.w X.stack H s a C H' s' ∧ E C none H' }
/-- the suite of an except clause: no call of an own def -/
abbrev Cx.hand (X : Cx) (a : Addr) : Cx := { X with A := X.A.mark (some (.ref a)), calm := false, xe := fun _ _ => False }
section
variable {X : Cx} {pins pins' : List (Addr × Obj)} {σ : St} {H : Hp} {s : Shared} {E : XK} {a : Addr}
theorem Inv.toTry (I : Inv X pins σ H s) : Inv (X.tryE pins E) [] σ H s :=
  let ok := I.ok
  ⟨⟨ok.mod, ok.kind, ok.glob, ok.blt, ok.above, ok.inj, ok.has, ok.cab, ok.hd, ok.frames, ok.stk, ok.exf, ok.bs, ok.bsz, ok.noex, ok.exfs, ok.funs, ok.frf⟩, I.os, I.bare, I.base, I.loc, I.cell, I.free, I.freeC, fun p hp => I.pin p (by simpa using hp), I.hok, I.len⟩
theorem Inv.ofTry (I : Inv (X.tryE pins E) pins' σ H s) : Inv X pins σ H s :=
  let ok := I.ok
  ⟨⟨ok.mod, ok.kind, ok.glob, ok.blt, ok.above, ok.inj, ok.has, ok.cab, ok.hd, ok.frames, ok.stk, ok.exf, ok.bs, ok.bsz, ok.noex, ok.exfs, ok.funs, ok.frf⟩, I.os, I.bare, I.base, I.loc, I.cell, I.free, I.freeC, fun p hp => I.pin p (List.mem_append_left _ hp), I.hok, I.len⟩
theorem Inv.toHand (I : Inv X pins σ H s) : Inv (X.hand a) pins σ H s :=
  let ok := I.ok
  ⟨⟨ok.mod, ok.kind, ok.glob, ok.blt, ok.above, ok.inj, ok.has, ok.cab, fun z => Bool.noConfusion z, ok.frames, ok.stk, ok.exf, ok.bs, ok.bsz, ok.noex, ok.exfs, ok.funs, ok.frf⟩, I.os, I.bare, I.base, I.loc, I.cell, I.free, I.freeC, I.pin, I.hok, I.len⟩
theorem Inv.ofHand (ok : X.Ok) (I : Inv (X.hand a) pins σ H s) : Inv X pins σ H s := ⟨ok, I.os, I.bare, I.base, I.loc, I.cell, I.free, I.freeC, I.pin, I.hok, I.len⟩
theorem passT : Passes (CXE X.prog X.w) (X.tryE pins E) E := fun _ σ H s _ _ I ⟨a, C, H', he, F, q⟩ => ⟨σ, H, s, a, C, H', he, I.ofTry, F, q⟩
theorem SP.ofTry {D : Ends} {f : Flow} {s' : Shared} (h : SP (X.tryE pins E) pins' D f s') : SP X pins D f s' := by
  cases f with
  | next => obtain ⟨σ', H', I, q⟩ := h; exact ⟨σ', H', I.ofTry, q⟩
  | brk => obtain ⟨σ', H', I, q⟩ := h; exact ⟨σ', H', I.ofTry, q⟩
  | cont => obtain ⟨σ', H', I, q⟩ := h; exact ⟨σ', H', I.ofTry, q⟩
  | ret u => obtain ⟨v, σ', H', I, r, q⟩ := h; exact ⟨v, σ', H', I.ofTry, r, q⟩
theorem SP.ofHand (ok : X.Ok) {D : Ends} {f : Flow} {s' : Shared} (h : SP (X.hand a) pins D f s') : SP X pins D f s' := by
  cases f with
  | next => obtain ⟨σ', H', I, q⟩ := h; exact ⟨σ', H', I.ofHand ok, q⟩
  | brk => obtain ⟨σ', H', I, q⟩ := h; exact ⟨σ', H', I.ofHand ok, q⟩
  | cont => obtain ⟨σ', H', I, q⟩ := h; exact ⟨σ', H', I.ofHand ok, q⟩
  | ret u => obtain ⟨v, σ', H', I, r, q⟩ := h; exact ⟨v, σ', H', I.ofHand ok, r, q⟩
/-- an exception's object, tracked: its class -/
def excAt (a : Addr) (C : Value) : Heap → Prop := fun h => ∃ o, h.get? a = some o ∧ o.cls = C
/-- an object of ours that was not tracked is -/
theorem Inv.track (I : Inv X pins σ H s) {φ : Heap → Prop} {o : Obj} (h0 : X.s₀.heap.get? a = none) (ho : s.heap.get? a = some o) (hn : H a = none) (hL : a ≠ X.env.locals) (hc : ∀ x c, X.env.cells.lookup x = some c → c ≠ a) (hp : ∀ p ∈ X.pn ++ pins, p.1 ≠ a)
    (p : φ s.heap) (st : ∀ h1 h2 : Heap, φ h1 → (∀ o, h1.get? a = some o → h2.get? a = some o) → φ h2) : Inv X pins σ (upd H a (.ext φ)) s := by
  have ne : ∀ {b : Addr} {u : HO}, H b = some u → b ≠ a := fun e => ne_of_none e hn
  have old : ∀ {b : Addr} {u : Obj}, X.s₀.heap.get? b = some u → b ≠ a := fun e z => by rw [z, h0] at e; cases e
  refine ⟨I.ok, I.os, I.bare, ⟨I.base.keep, I.base.slot, fun b u e n hx => ?_, I.base.there, fun b xs q => ?_, fun b u v q => ?_, fun b ps q => ?_⟩, I.loc, I.cell, by rw [upd_ne hL.symm]; exact I.free, fun x c e => by rw [upd_ne (hc x c e)]; exact I.freeC x c e, fun q hq => ?_, fun b u e => ?_, I.len⟩
  · rw [upd_ne (old e)]; exact I.base.free b u e n hx
  · have := I.base.tups b xs q
    rw [upd_ne (ne this)]; exact this
  · have := I.base.frzs b u v q
    rw [upd_ne (ne this)]; exact this
  · obtain ⟨m, e⟩ := I.base.tbls b ps q
    exact ⟨m, by rw [upd_ne (ne e)]; exact e⟩
  · obtain ⟨e, n, r⟩ := I.pin q hq
    exact ⟨e, by rw [upd_ne (hp q hq)]; exact n, r⟩
  · by_cases hb : b = a
    · subst hb
      rw [upd_same] at e; cases e
      exact ⟨p, ⟨o, ho⟩, st⟩
    · rw [upd_ne hb] at e
      exact (I.hok b u e).stay (fun c v _ q => q) (fun c q => by rw [upd_ne (ne q)]; exact q) fun c xs q => by rw [upd_ne (ne q)]; exact q
end
section
variable {X : Cx} {body suite : List Stmt} {b₀ : Stmt} {h₀ : ExceptHandler} {hs : List ExceptHandler} {tb th : TS} {tE : XK → TS} {x n : Str} {C' : Addr} {np pos hpos : Pos} {i : Nat}
theorem Inv.forget {pins : List (Addr × Obj)} {σ : St} {H : Hp} {s : Shared} (I : Inv X pins σ H s) : Inv X pins (List.replicate X.N.length none) H s :=
  I.weak (by rw [List.length_replicate, I.len]) fun i v e => by
    rw [List.getElem?_replicate] at e
    split at e <;> cases e
end
end L2
namespace L2
open PySem PySem.Spec PyProof.Rows
section
variable {X : Cx} {pins : List (Addr × Obj)} {σ : St} {H : Hp} {s : Shared}
/-- a name goes -/
theorem Inv.gone {M : Model} {A : Around} {E : Value → Shared → Prop} {i : Nat} {n : Str} {pos : Pos} {Q : Unit → Shared → Prop} (I : Inv X pins σ H s) (hN : X.N.Nodup) (hi : X.N[i]? = some n) (hk : X.env.kindOf n = some .local)
    (h : ∀ s', Inv X pins (σ.set i none) H s' → Q () s') : wpAny M A (do bindName X.env n .none; unbindBehindTheSuite X.env n pos) Q E s := by
  obtain ⟨m, hn, hl⟩ := id I.loc
  obtain ⟨oL, _, _, hoL, _⟩ := id hn
  have lt0 : ∀ {b : Addr} {o : Obj}, X.s₀.heap.get? b = some o → b ≠ X.env.locals := fun e => Nat.ne_of_lt (Nat.lt_of_lt_of_le (Heap.lt_size e) I.ok.above)
  refine wpAny_nameGoes_keeps hk hn (by rw [I.ok.kind]; rfl) fun h' v hn' hs => h _ ?_
  refine ⟨I.ok, I.os, I.bare, ⟨fun b o e nb hb hx => (hs.2 b (lt0 e)).trans (I.base.keep b o e nb hb hx), fun b o e nb hb hx => ?_, I.base.free, fun b o e hx => ?_, I.base.tups, I.base.frzs, I.base.tbls⟩, ⟨_, hn', fun j y u e1 e2 e3 => ?_⟩, fun y c e => ?_, I.free, I.freeC, fun p hp => ?_, fun b ob e => ?_, by rw [List.length_set]; exact I.len⟩
  · obtain ⟨sl, z⟩ := I.base.slot b o e nb hb hx; exact ⟨sl, (hs.2 b (lt0 e)).trans z⟩
  · obtain ⟨o', z⟩ := I.base.there b o e hx; exact ⟨o', (hs.2 b (lt0 e)).trans z⟩
  · by_cases hj : j = i
    · subst hj
      rw [List.getElem?_set] at e2
      split at e2
      · split at e2 <;> cases e2
      · rename_i z; exact absurd rfl z
    · rw [List.getElem?_set_ne (Ne.symm hj)] at e2
      obtain ⟨u', r', q⟩ := hl j y u e1 e2 e3
      have hy : y ≠ n := fun z => hj (nodup_ix hN e1 (z ▸ hi))
      refine ⟨u', r', ?_⟩
      rcases q with ⟨k, e⟩ | ⟨k, c, e, z⟩
      · exact .inl ⟨k, by show (if y = n then v else m y) = _; rw [if_neg hy]; exact e⟩
      · exact .inr ⟨k, c, e, z.sameBut hs (I.cne y c e)⟩
  · obtain ⟨w', z⟩ := I.cell y c e; exact ⟨w', z.sameBut hs (I.cne y c e)⟩
  · obtain ⟨e, nn, ne, nf, d⟩ := I.pin p hp; exact ⟨(hs.2 p.1 ne).trans e, nn, ne, nf, d⟩
  · refine (I.hok b ob e).stay (fun c w' hc q => (hs.2 c ?_).trans q) (fun _ q => q) fun _ _ q => q
    intro z; subst z
    rcases hc with z | z
    · rw [← z, I.free] at e; cases e
    · rw [I.free] at z; cases z
end
def Ends.gone (D : Ends) (i : Nat) : Ends := { nx := fun σ H => D.nx (σ.set i none) H, rt := D.rt, bk := fun σ H => D.bk (σ.set i none) H, ct := fun σ H => D.ct (σ.set i none) H }
def tTryAs (K : PySem.W.Frag) (n i : Nat) (C' : Addr) (tE : XK → TS) (th : TS) : TS := fun D σ H => tE (fun C _ H' => PySem.W.exmOne K C (.ref C') = some true ∧ ∀ a, H' a = none → th (D.gone i) ((List.replicate n none).set i (some (.ref a))) (upd H' a (.ext (excAt a C)))) D σ H
theorem SP.gone {X : Cx} {pins : List (Addr × Obj)} {a : Addr} {D : Ends} {f : Flow} {i : Nat} {n : Str} {pos : Pos} {s : Shared} {M : Model} {A : Around} {E : Value → Shared → Prop} (ok : X.Ok) (hN : X.N.Nodup) (hi : X.N[i]? = some n) (hk : X.env.kindOf n = some .local)
    (h : SP (X.hand a) pins (D.gone i) f s) : wpAny M A (do bindName X.env n .none; unbindBehindTheSuite X.env n pos) (fun _ s5 => SP X pins D f s5) E s := by
  cases f with
  | next => obtain ⟨σ', H', I, q⟩ := h; exact (I.ofHand ok).gone hN hi hk fun s' I' => ⟨_, H', I', q⟩
  | brk => obtain ⟨σ', H', I, q⟩ := h; exact (I.ofHand ok).gone hN hi hk fun s' I' => ⟨_, H', I', q⟩
  | cont => obtain ⟨σ', H', I, q⟩ := h; exact (I.ofHand ok).gone hN hi hk fun s' I' => ⟨_, H', I', q⟩
  | ret u => obtain ⟨v, σ', H', I, r, q⟩ := h; exact (I.ofHand ok).gone hN hi hk fun s' I' => ⟨v, _, H', I', r, q⟩
section
variable {X : Cx} {body suite : List Stmt} {b₀ : Stmt} {th : TS} {tE : XK → TS} {x n : Str} {C' : Addr} {np pos hpos : Pos} {i : Nat}
theorem ps_tryAs (hst : X.stack = X.env :: X.outer) (hf : X.env.frame = some X.env.locals) (hex : X.ex = []) (hg : Gl X x) (hm : X.mg x = some (.ref C')) (hN : X.N.Nodup) (hi : X.N[i]? = some n) (hk : X.env.kindOf n = some .local)
    (hb : ∀ pins E, PSs (X.tryE pins E) body (tE E)) (hh : ∀ a, PSs (X.hand a) (b₀ :: suite) th)
    (hd : (x == ("__debug__" : Str)) = false := by decide) : PS X (.Try body [.ExceptHandler (some (.Name x np)) (some n) (b₀ :: suite) hpos] [] [] pos) (tTryAs X.K X.N.length i C' tE th) := by
  intro pins s σ H D I h
  refine wpAny_Try_except (wpAny_mono (hb pins _ [] s σ H D I.toTry h) (fun f s1 q => ?_) fun e s1 q => ?_)
  · have q' := q.ofTry
    cases f with
    | next => exact wpAny_execs_nil q'
    | brk => exact q'
    | cont => exact q'
    | ret u => exact q'
  · obtain ⟨σ1, H1, s2, a, C, H', rfl, I1, F, hx, hth⟩ := q
    obtain ⟨B, a0, fl, hb', gr⟩ := F.gr
    have fl' := fl
    rw [hst] at fl'
    have hfr := I.ok.frames
    rw [hst] at hfr
    refine wpAny_looks_onW hfr hf fl' fun h4 held4 sm4 => ?_
    refine wpAny_landsW (s := { s1 with heap := h4 }) held4 fun h5 fl5 sm5 => ?_
    have I5 := I1.fly F.os F.bare F.un fl5.1 (sm4.trans sm5) hb' gr
    refine wpAny_handleBy_cons (codeAny_handlers_test (ld_glob (X := X.hand a) (I5.toHand) hg hm ?_ hd)) (by intro z; cases z)
    obtain ⟨ob, hob, hoc⟩ := fl5.there
    have ty : PySem.W.Looks (model X.prog X.w) h5 (typeOf (.ref a)) C := by
      subst hoc
      exact (PySem.W.Looks.ld hob).andThen .now
    refine (PySem.W.exm_one (M := model X.prog X.w) (h := h5) I5.kIn ty hx).here ?_
    refine codeAny_handlers_suite_as (lands_againW (s := { s1 with heap := h5 }) fl5 fun h6 fl6 sm6 => ?_)
    have I6 := I1.fly F.os F.bare F.un fl6.1 ((sm4.trans sm5).trans sm6) hb' gr
    obtain ⟨o6, ho6, hc6⟩ := fl6.there
    have hn : H' a = none := hb'.none fl.2.1
    have ne : ∀ {b : Addr} {o : Obj}, s2.heap.get? b = some o → b ≠ a := fun e z => by rw [z, F.new] at e; cases e
    have I7 := I6.forget.track (a := a) (φ := excAt a C) (I1.unborn hex F.new) ho6 hn (by obtain ⟨m, ⟨oL, _, _, hoL, _⟩, _⟩ := I1.loc; exact (ne hoL).symm) (fun y c e => by obtain ⟨v, oc, hoc', _⟩ := I1.cell y c e; exact ne hoc')
      (fun p hp => ne (I1.pin p hp).1) ⟨o6, ho6, hc6⟩ (fun h1 h2 ⟨o, e, c⟩ k => ⟨o, k o e, c⟩)
    refine store_ok I7 hN hi (.inl hk) (show RelV (.ref a) (.ref a) from rfl) (fun s8 I8 => ?_) (.inr hk)
    exact wpAny_mono (hh a pins s8 _ _ (D.gone i) I8.toHand (hth a hn)) (fun f s9 z => z.gone I.ok hN hi hk) fun _ _ z => False.elim z
end
end L2
namespace RD
open PySem PyProof.Rows
section
variable {prog : Program} {w : World} {A : Around} {E : Value → Shared → Prop} {s : Shared} {d it v : Addr} {es : Array DictEntry} {ep i : Nat} {ok ov : Value}
end
end RD
namespace L2
open PySem PySem.Spec PyProof.Rows
section
variable {X : Cx} {pins : List (Addr × Obj)} {σ : St} {H : Hp} {s : Shared} {d : Addr} {o : Obj} {u : HO} {kvs : List (List Key × V)}
end
section
variable {X : Cx} {pins : List (Addr × Obj)} {σ : St} {H : Hp} {s : Shared} {d : Addr} {kvs : List (List Key × V)}
end
end L2
namespace L2
open PySem PySem.Spec PyProof.Rows
/-- a comprehension over n turns of J -/
theorem comp_it {J : It} {n : Nat} {g : TG} {tc : TT} {te : TE} {js : List (Option Nat)} {σ : St} {H1 : Hp} {D : Addr} {R : Hp → Prop} (Pv : Nat → List V → Hp → Prop) (h0 : Pv 0 [] (upd H1 D (.lst []))) (hD : ∀ i ys H, Pv i ys H → H D = some (.lst ys))
    (hg : ∀ i ys H, i < n → Pv i ys H → J.go i H) (he : ∀ ys H, Pv n ys H → J.stop n H)
    (hs : ∀ i x ys H H', i < n → Pv i ys H → J.yld i H x H' → g x (subSt js σ) H' fun σ2 H2 => Weak (subSt js σ) σ2 ∧ tc σ2 H2 fun b H3 =>
      if b = true then te σ2 H3 fun v H4 => ∃ zs, H4 D = some (.lst zs) ∧ zs.length < sizeLine ∧ Pv (i + 1) (zs ++ [v]) (upd H4 D (.lst (zs ++ [v]))) else ∃ zs, Pv (i + 1) zs H3)
    (hd : ∀ ys H, Pv n ys H → R H) :
    ∃ W : Nat → Nat → List V → Hp → Prop, (∃ m, W 0 m [] (upd H1 D (.lst []))) ∧
      ∀ i m xs H, W i m xs H → H D = some (.lst xs) ∧ ((J.stop i H ∧ R H) ∨ (J.go i H ∧ ∃ N : List V → Hp → Prop, (∀ ys H', N ys H' → ∃ m', m' < m ∧ W (i + 1) m' ys H') ∧ ∀ x H', J.yld i H x H' → g x (subSt js σ) H' fun σ2 H2 => Weak (subSt js σ) σ2 ∧ tc σ2 H2 fun b H3 =>
        if b = true then te σ2 H3 fun v H4 => ∃ ys, H4 D = some (.lst ys) ∧ ys.length < sizeLine ∧ N (ys ++ [v]) (upd H4 D (.lst (ys ++ [v])))
        else ∃ ys, N ys H3)) := by
  refine ⟨fun i m ys H => m = n - i ∧ i ≤ n ∧ Pv i ys H, ⟨n, by simp, Nat.zero_le _, h0⟩, ?_⟩
  rintro i m ys H ⟨rfl, hi, p⟩
  refine ⟨hD i ys H p, ?_⟩
  by_cases hlt : i < n
  · exact .inr ⟨hg i ys H hlt p, Pv (i + 1), fun zs H' p' => ⟨n - (i + 1), by omega, rfl, hlt, p'⟩, fun x H' y => hs i x ys H H' hlt p y⟩
  · have e : i = n := by omega
    subst e
    exact .inl ⟨he ys H p, hd ys H p⟩
/-- .. over a list that the turns leave as it is -/
theorem comp_lR {K : PySem.W.Frag} {a : Addr} {xs : List V} {g : TG} {tc : TT} {te : TE} {js : List (Option Nat)} {σ : St} {H1 : Hp} {D : Addr} {R : Hp → Prop} (Pv : Nat → List V → Hp → Prop) (h0 : Pv 0 [] (upd H1 D (.lst []))) (hD : ∀ i ys H, Pv i ys H → H D = some (.lst ys))
    (hl : ∀ i ys H, i ≤ xs.length → Pv i ys H → SqL K H a xs)
    (hs : ∀ i x ys H, xs[i]? = some x → Pv i ys H → g x (subSt js σ) H fun σ2 H2 => Weak (subSt js σ) σ2 ∧ tc σ2 H2 fun b H3 =>
      if b = true then te σ2 H3 fun v H4 => ∃ zs, H4 D = some (.lst zs) ∧ zs.length < sizeLine ∧ Pv (i + 1) (zs ++ [v]) (upd H4 D (.lst (zs ++ [v]))) else ∃ zs, Pv (i + 1) zs H3)
    (hd : ∀ ys H, Pv xs.length ys H → R H) :
    ∃ W : Nat → Nat → List V → Hp → Prop, (∃ m, W 0 m [] (upd H1 D (.lst []))) ∧
      ∀ i m xs H, W i m xs H → H D = some (.lst xs) ∧ (((Itl K a).stop i H ∧ R H) ∨ ((Itl K a).go i H ∧ ∃ N : List V → Hp → Prop, (∀ ys H', N ys H' → ∃ m', m' < m ∧ W (i + 1) m' ys H') ∧ ∀ x H', (Itl K a).yld i H x H' → g x (subSt js σ) H' fun σ2 H2 => Weak (subSt js σ) σ2 ∧ tc σ2 H2 fun b H3 =>
        if b = true then te σ2 H3 fun v H4 => ∃ ys, H4 D = some (.lst ys) ∧ ys.length < sizeLine ∧ N (ys ++ [v]) (upd H4 D (.lst (ys ++ [v])))
        else ∃ ys, N ys H3)) :=
  comp_it (J := Itl K a) (n := xs.length) Pv h0 hD (fun i ys H hi p => ⟨xs, xs[i], hl i ys H (Nat.le_of_lt hi) p, by simp [hi]⟩) (fun ys H p => ⟨xs, hl _ ys H (Nat.le_refl _) p, Nat.le_refl _⟩)
    (fun i x ys H H' hi p y => by
      obtain ⟨e, y⟩ := y
      subst e
      exact hs i x ys _ (y xs (hl i ys _ (Nat.le_of_lt hi) p)) p) hd
end L2
namespace L2
open PySem PySem.Spec PyProof.Rows
section
variable {P : Program} {w : World} {K : PySem.W.Frag} {mg : Str → Option Value} {CX : CXT} {C : Addr} {m : Str} {ps : List Str} {j k : Nat} {sp sp' : Sp}
end
/-- a def that an exception may leave -/
def FnX (P : Program) (w : World) (K : PySem.W.Frag) (mg : Str → Option Value) (x : Str) (ps : List Str) (k : Nat) (sp : Sp) : Prop :=
  ∃ (f : Addr) (fd : FuncData), mg x = some (.ref f) ∧ PySem.W.keepIn K (.ref f) = true ∧ (∀ us : List Value, us.length = ps.length → bindArgs fd ⟨us, []⟩ = pure (ps.zip us)) ∧ ∀ base, FnOk P w K mg base (CXE P w) k f fd ps sp
theorem DefIn.fnX {P : Program} {w : World} {K : PySem.W.Frag} {mg : Str → Option Value} {x : Str} {st : Stmt} {N ps : List Str} {k : Nat} {sp : Sp} (D : DefIn K x st) (M : MG K mg) (S : FnScope N ps (defScope st))
    (hb : ∀ (kV doc pm : Value) (an : Option Addr) (cdv ct : Value) (us : List Value), us.length = ps.length → bindArgs (PySem.W.fnOf x x (defArgs st) (defBody st) (defScope st) .none kV doc pm an cdv ct) ⟨us, []⟩ = pure (ps.zip us))
    (len : ∀ vs H Q E, sp vs H Q E → vs.length = ps.length)
    (hbody : ∀ (f : Addr) (base : Heap) (cdv : Value) (A : Around) (outer : List Env) (s : Shared) (H : Hp) (vs : List V) (Q : VK) (E : XK), Room k (A.deeper (envOfC x (defScope st) s.heap.objs.size f cdv)) → sp vs H Q E →
      ∃ t, PSs (cxOf (CXE P w) P w K mg base N x (defScope st) f cdv A outer s H E) (defBody st) t ∧ t { nx := fun _ H' => Q .non H', rt := Q } (start N vs) H) : FnX P w K mg x ps (k + 1) sp := by
  obtain ⟨f, oc, od, kV, doc, pm, an, cdv, ct, osl, a, l, c, kp⟩ := D.ex
  exact ⟨f, _, M.is _ _ a, kp, hb kV doc pm an cdv ct, fun base => fn_of l c S len (fun A outer s H vs Q E hr h => hbody f base cdv A outer s H vs Q E hr h)⟩
section
variable {X : Cx} {CX : CXT} {k : Nat} {C : Addr} {ps : List Str} {sp : Sp} {E : XK} {x m : Str} {p pos apos : Pos} {e o : Expr} {es : List Expr} {ta : TE} {t : TA}
theorem pe_callX (F : FnX X.prog X.w X.K X.mg x ps k sp) (hx : Passes (CXE X.prog X.w) X E) (hr : Room k X.A) (hg : Gl X x) (ha : PA X (e :: es) t)
    (hdb : (x == ("__debug__" : Str)) = false := by decide) (he : starEach (e :: es) X.env = (false, eval e X.env) :: starEach es X.env := by rfl) (hpl : (backTo pos (starEach es X.env)).any (·.1) = false := by rfl) :
    PE X (.Call (.Name x p) (e :: es) [] pos) (tCall sp [] E t) := by
  obtain ⟨f, fd, h1, h2, h3, h4⟩ := F
  exact pe_call (h4 X.base) hr hg h1 h2 (.all h3) .nil hx ha hdb he hpl
end
end L2
namespace L2
open PySem PySem.Spec PyProof.Rows
abbrev veMro : List Value := [.type "ValueError", .type "Exception", .type "BaseException", .type "object"]
structure ExcIn (K : PySem.W.Frag) (x : Str) (C : Addr) : Prop where
  at_ : PySem.W.nsIn K mainGlobals x = some (some (.ref C))
  exc : PySem.W.excIn K C veMro "ValueError.__new__" = true
  ga : PySem.W.findIn K (.ref C) "__getattribute__" = some (some (.builtin "BaseException.__getattribute__"))
  gt : PySem.W.findIn K (.ref C) "__getattr__" = some none
  cl : PySem.W.findIn K (.ref C) "__class__" = some (some (.builtin "object.__class__"))
  sb : PySem.W.subIn K (.ref C) (.type "BaseException") = some true
  so : PySem.W.subIn K (.ref C) (.type "object") = some true
  cs : PySem.W.isClsIn K C = true
section
variable {prog : Program} {w : World} {A : Around} {E : Value → Shared → Prop} {h : Heap} {g : Array GenState} {d : Drawn} {t : Nat} {os : OsState} {a C : Addr} {o : Obj} {K : PySem.W.Frag} {x : Str}
theorem xc_get {R : Result → Shared → Prop} (X : K.In h) (D : ExcIn K x C) (hx : h.get? a = some o) (hc : o.cls = .ref C) (hq : R (.ok (.ret (.ref C))) ⟨h, g, d, t, os⟩) :
    codeAny (model prog w) A (.call (.builtin "getset_descriptor.__get__") ⟨[.builtin "object.__class__", .ref a, .ref C], []⟩) R ⟨h, g, d, t, os⟩ := by
  have hT5 : (⟨h, g, d, t, os⟩ : Shared).TypeIs (.builtin "object.__class__") "getset_descriptor" := F.typeOf_object_class
  have f8 := PySem.W.looks_subIn (M := model prog w) X D.so
  refine codeAny_call_builtin F.slot_gs_get.plain F.entry_gs_get (F.slot_gs_get.check _ _ _ _ _ _ _ _ hT5 (F.args_gs_get _ _ _) ?_)
  repeat (any_goals (first | assumption | (with_reducible refine wpAny_loadPart_at hx ?_; rw [hc]) | (with_reducible refine f8.at ?_) | (rw [F.owner_object_class]; with_reducible refine f8.at ?_) | wp_step))
  refine ⟨Code.quiet_builtin _ (by decide +kernel), codeAny_builtin F.entry_object_class ?_⟩
  repeat (any_goals (first | assumption | (with_reducible refine wpAny_loadPart_at hx ?_; rw [hc]) | wp_step))
theorem xc_check {M : Model} {nameV : Value} {Q : Unit → Shared → Prop} (X : K.In h) (D : ExcIn K x C) (hx : h.get? a = some o) (hc : o.cls = .ref C) (hq : Q () ⟨h, g, d, t, os⟩) :
    wpAny M A (checkBuiltinCall "BaseException.__getattribute__" ⟨[.ref a, nameV], []⟩) Q E ⟨h, g, d, t, os⟩ := by
  have hk : builtinKind "BaseException.__getattribute__" = some .slot := by decide +kernel
  have hsplit : splitId "BaseException.__getattribute__" = some ("BaseException", "__getattribute__") := by decide +kernel
  have ls := PySem.W.looks_subIn (M := M) X D.sb
  have ha := F.args_bexc_ga (.ref a) nameV
  simp only [checkBuiltinCall, hk, hsplit]
  refine wpAny_bind ?_
  · unfold isInstance
    repeat (first | (with_reducible refine wpAny_loadPart_at hx ?_; rw [hc]) | (with_reducible refine ls.at ?_) | wp_step)
    exact hq
theorem xc_entry {tk : Tok} {Q : Fin → Shared → Prop} (X : K.In h) (D : ExcIn K x C) (hx : h.get? a = some o) (hc : o.cls = .ref C) (hq : Q (.done (.ret (.ref C))) ⟨h, g, d, t, os⟩) :
    wpAny (model prog w) A (Builtin.«object.__getattribute__» ⟨[.ref a, .str "__class__" tk], []⟩) Q E ⟨h, g, d, t, os⟩ := by
  have hT5 : (⟨h, g, d, t, os⟩ : Shared).TypeIs (.builtin "object.__class__") "getset_descriptor" := F.typeOf_object_class
  have f5 := F.typeOf_object_class
  have f6 := F.slot_gs_get.lookup
  have f7 := F.slot_gs_set.lookup
  have L4 := PySem.W.looks_findIn (M := model prog w) X D.cl
  repeat (any_goals (first | assumption | (with_reducible refine wpAny_loadPart_at hx ?_; rw [hc]) | (with_reducible refine L4.at ?_) | wp_step))
  refine xc_get X D hx hc ?_
  repeat (any_goals (first | assumption | wp_step))
theorem xc_call {tk : Tok} {R : Result → Shared → Prop} (X : K.In h) (D : ExcIn K x C) (hx : h.get? a = some o) (hc : o.cls = .ref C) (hq : R (.ok (.ret (.ref C))) ⟨h, g, d, t, os⟩) :
    codeAny (model prog w) A (.call (.builtin "BaseException.__getattribute__") ⟨[.ref a, .str "__class__" tk], []⟩) R ⟨h, g, d, t, os⟩ :=
  codeAny_call_builtin F.attr_ValueError.ga.plain F.entry_bexc_ga (xc_check X D hx hc (xc_entry X D hx hc hq))
theorem xc_by {tk : Tok} {Q : Value → Shared → Prop} (X : K.In h) (D : ExcIn K x C) (hx : h.get? a = some o) (hc : o.cls = .ref C) (hq : Q (.ref C) ⟨h, g, d, t, os⟩) : wpAny (model prog w) A (getAttrBy (.ref a) (.str "__class__" tk) false) Q E ⟨h, g, d, t, os⟩ := by
  have f3 := F.attr_ValueError.ga.bind (.ref a)
  have hx2 : (Value.builtin "BaseException.__getattribute__" == Value.builtin "object.__getattribute__") = false := by decide +kernel
  have hx1 : (onTheHeap (Value.ref C) && Value.builtin "BaseException.__getattribute__" == Value.builtin "object.__getattribute__") = false := by rw [hx2]; rfl
  have La := PySem.W.looks_findIn (M := model prog w) X D.ga
  have Lt := PySem.W.looks_findIn (M := model prog w) X D.gt
  repeat (any_goals (first | assumption | (with_reducible refine wpAny_loadPart_at hx ?_; rw [hc]) | (with_reducible refine La.at ?_) | (with_reducible refine Lt.at ?_) | wp_step))
  refine xc_call X D hx hc ?_
  repeat (any_goals (first | assumption | wp_step))
theorem xc_attr {Q : Option Value → Shared → Prop} (X : K.In h) (D : ExcIn K x C) (hx : h.get? a = some o) (hc : o.cls = .ref C) (hq : Q (some (.ref C)) ⟨h, g, d, t + 1, os⟩) : wpAny (model prog w) A (getAttr? (.ref a) "__class__") Q E ⟨h, g, d, t, os⟩ := by
  unfold getAttr? getAttrBy?
  repeat (any_goals (first | assumption | (with_reducible apply xc_by X D hx hc) | wp_step))
end
theorem kitx_exc {K : PySem.W.Frag} {x : Str} {a C : Addr} (D : ExcIn K x C) : PySem.W.KitX K (.ref a) (.ref C) (excAt a (.ref C)) where
  ty := fun _ _ _ ⟨o, e, c⟩ => by
    rw [← c]
    exact (PySem.W.Looks.ld e).andThen .now
  it := fun _ _ X _ => by
    have hcs := D.cs
    unfold PySem.W.isClsIn PySem.W.clsIn at hcs
    split at hcs
    · rename_i ho
      intro A' Q' E' s' k q; unfold isType loadHead; exact wpAny_bind (wpAny_loadPart (k _ _ (X _ _ ho)) (wpAny_pure q))
    · cases hcs
  ne := fun h tp dd its n sl X htp => by
    refine Bool.eq_false_iff.mpr fun q => ?_
    have e : C = tp := Value.ref.inj (beq_iff_eq.mp q)
    subst e
    have hcs := D.cs
    unfold PySem.W.isClsIn PySem.W.clsIn at hcs
    split at hcs
    · rename_i ho
      have z := (X _ _ ho).symm.trans htp; cases z
    · cases hcs
  ca := fun {_ _ _ _ _ s} X ⟨o, e, c⟩ k => by
    obtain ⟨h, g, d, t, os⟩ := s
    exact xc_attr X D e c k
section
variable {X : Cx}
def rIsX (K : PySem.W.Frag) : List V → Hp → VK → Prop := fun xs H Q => ∃ a C y b, xs = [.ref a, y] ∧ H a = some (.ext (excAt a (.ref C))) ∧ (∃ x, ExcIn K x C) ∧ ((∃ c, y = .ref c ∧ PySem.W.kitOne K (.ref C) (.ref c) = some b) ∨ ∃ T, y = .ty T ∧ PySem.W.kitOne K (.ref C) (.type T) = some b) ∧ Q (.bl b) H
theorem call_isinstX : CallR X (.builtin "isinstance") (rIsX X.K) := by
  intro pins s σ H xs us Q I r h
  obtain ⟨a, C, y, b, rfl, ha, ⟨x, D⟩, hk, q⟩ := h
  obtain ⟨u, w', rfl, rx, ry⟩ := vals2 r
  cases rx
  obtain ⟨p, _⟩ := (show ObjOk X.prog X.w H s.heap a (.ext (excAt a (.ref C))) from I.hok a _ ha)
  rcases hk with ⟨c, rfl, e⟩ | ⟨T, rfl, e⟩
  · cases ry
    exact PySem.W.kia_one (kitx_exc D) I.kIn p e (fun z => nomatch z) fun tk => ⟨.bl b, H, I.tok _, rfl, q⟩
  · cases ry
    exact PySem.W.kia_one (kitx_exc D) I.kIn p e (fun z => nomatch z) fun tk => ⟨.bl b, H, I.tok _, rfl, q⟩
def rCount : V → List V → Hp → VK → Prop := fun x xs H Q => ∃ (l : Addr) (bs : List Bool) (b : Bool), x = .ref l ∧ xs = [.bl b] ∧ H l = some (.lst (bs.map V.bl)) ∧ Q (.int (bs.count b : Nat)) H
theorem vals_bl : ∀ {bs : List Bool} {us : List Value}, Vals (bs.map V.bl) us → us = bs.map Value.bool
  | [], _, .nil => rfl
  | b :: bs, _, .cons h t => by
    cases (show _ = Value.bool b from h)
    rw [vals_bl t]; rfl
theorem mt_count : MtM X "list.count" rCount := by
  intro pins s σ H x vs v us Q I rx rv h
  obtain ⟨l, bs, b, rfl, rfl, hH, q⟩ := h
  cases rx
  obtain ⟨u, rfl, ru⟩ := rv.one
  cases (show u = Value.bool b from ru)
  obtain ⟨z, its, n, r, hl, e⟩ := I.lstM hH
  have hi := vals_bl r
  subst hi
  refine call_meets F.slot_list_count ⟨_, e, rfl⟩ F.entry_list_count (F.args_list_count_2 _ _) (SeqAt.list_countAt l _ n none #[] (.bool b) (fun y => y == .bool b)) ⟨e, fun y hy => ?_, ?_⟩
  · obtain ⟨c, _, rfl⟩ := List.mem_map.mp (List.mem_toArray.mp hy)
    have h2 : (Value.bool c == Value.bool b) = (c == b) := by cases c <;> cases b <;> rfl
    rw [h2]
    exact SeqAt.EqAt.bool_bool c b
  · refine ⟨.int (bs.count b : Nat), H, I.tok _, ⟨s.toks, ?_⟩, q⟩
    have : (bs.map Value.bool).countP (fun y => y == Value.bool b) = bs.count b := by
      rw [List.countP_map, List.count]
      refine List.countP_congr fun c _ => ?_
      show ((Value.bool c == Value.bool b) = true) ↔ ((c == b) = true)
      cases c <;> cases b <;> decide
    rw [List.toList_toArray] at *
    rw [this]
end
end L2
namespace L2
open PySem PySem.Spec PyProof.Rows
section
variable {X : Cx} {K : PySem.W.Frag}
variable {o e : Expr} {es : List Expr} {to : TE} {t : TA} {name : Str} {apos cpos : Pos} {T id : String} {r : V → List V → Hp → VK → Prop}
theorem pe_bmK (e' : X.K = K) (pa : PlainAttrs T) (slot : Slot T name id) (hty : typeOf (.builtin id) = pure (.type "method_descriptor")) (hm : MtM X id r) (ho : PE X o to) (ha : PA X (e :: es) t)
    (hbase : attributeBase o name X.env (eval o X.env) = eval o X.env := by rfl)
    (hfew : ((backTo cpos (starEach (e :: es) X.env)).all (fun x => !x.1) && (backToKw cpos (keywordEach [] X.env)).all (fun x => x.1.isSome) && decide ((e :: es).length + ([] : List Keyword).length + (if ([] : List Keyword).isEmpty then 0 else 1) < 30)) = true := by rfl)
    (hline : (apos.endLine == cpos.line) = true := by rfl) (hs : starEach (e :: es) X.env = (false, eval e X.env) :: starEach es X.env := by rfl) (hplain : (backTo cpos (starEach es X.env)).any (·.1) = false := by rfl) :
    PE X (.Call (.Attribute o name apos) (e :: es) [] cpos) (tBM K T r to t) := by
  subst e'; exact pe_bm pa slot hty hm ho ha hbase hfew hline hs hplain
theorem callK_isinstX (e' : X.K = K) : CallR X (.builtin "isinstance") (rIsX K) := by subst e'; exact call_isinstX
end
end L2
namespace L2
open PySem PySem.Spec PyProof.Rows
theorem len1 {us : List Value} (h : us.length = 1) : ∃ a, us = [a] := by
  cases us with
  | nil => cases h
  | cons a r => cases r with
    | nil => exact ⟨a, rfl⟩
    | cons b r => cases h
theorem lenS {us : List Value} {n : Nat} (h : us.length = n + 1) : ∃ a r, us = a :: r ∧ r.length = n := by
  cases us with
  | nil => cases h
  | cons a r => exact ⟨a, r, rfl, Nat.succ.inj h⟩
theorem len2 {us : List Value} (h : us.length = 2) : ∃ a b, us = [a, b] := by
  obtain ⟨a, r, rfl, g⟩ := lenS h
  obtain ⟨b, rfl⟩ := len1 g
  exact ⟨a, b, rfl⟩
section
variable {X : Cx}
/-- int(text) -/
def rIntT : List V → Hp → VK → Prop := fun vs H Q => ∃ z n, vs = [.str z] ∧ PySem.intText? z = some n ∧ z.length ≤ 640 ∧ Q (.int n) H
theorem call_intT : CallR X (.type "int") rIntT := by
  intro pins s σ H vs us Q I r h
  obtain ⟨z, n, rfl, hn, hl, q⟩ := h
  obtain ⟨u, rfl, ru⟩ := vals1 r
  obtain ⟨t, rfl⟩ := ru
  exact PySem.W.KIN.call_text hn hl ⟨.int n, H, I.tok _, ⟨_, rfl⟩, q⟩
end
end L2
namespace L2
open PySem PySem.Spec PyProof.Rows PySem.Builtin PySem.Builtin.Str
section
variable {X : Cx}
theorem vals_strs : ∀ l : List (Str × Tok), Vals ((l.map (·.1)).map V.str) (strValues l) := by
  intro l
  induction l with
  | nil => exact .nil
  | cons p l ih => exact .cons ⟨p.2, rfl⟩ ih
theorem vals_strs' {ts : List Str} : ∀ {us : List Value}, Vals (ts.map V.str) us → ∃ l : List (Str × Tok), us = strValues l ∧ l.map (·.1) = ts := by
  induction ts with
  | nil => intro us h; cases h; exact ⟨[], rfl, rfl⟩
  | cons x ts ih =>
    intro us h
    cases h with
    | cons r t =>
      obtain ⟨tk, rfl⟩ := r
      obtain ⟨l, rfl, e⟩ := ih t
      exact ⟨(x, tk) :: l, rfl, by rw [List.map_cons, e]⟩
/-- x.split(y) -/
def rSplit : V → List V → Hp → VK → Prop := fun x vs H Q => ∃ z y, x = .str z ∧ vs = [.str y] ∧ (y.length == 0) = false ∧ z.length + 2 ≤ sizeLine ∧ ∀ l, H l = none → Q (.ref l) (upd H l (.lst ((Txt.split z y).map V.str)))
theorem mt_split : MtM X "str.split" rSplit := by
  intro pins s σ H x vs v us Q I rx rv h
  obtain ⟨z, y, rfl, rfl, hy, hz, q⟩ := h
  obtain ⟨t, rfl⟩ := rx
  obtain ⟨u, rfl, t', rfl⟩ := rv.one
  have hn : (partsBetween z (occurrences z y 0 z.length (z.length + 1)) y.length).length ≤ sizeLine := by
    have e1 := StrLaws.occ_length_le z y 0 z.length (z.length + 1)
    rw [length_partsBetween]; omega
  have key : ∀ (l : List (Str × Tok)) (k : Nat), l.map (·.1) = Txt.split z y → (Txt.split z y).length ≤ sizeLine → EP X pins σ Q (.ref s.heap.objs.size) { s with heap := s.heap.push { cls := .type "list", data := .seq (strValues l).toArray }, toks := k } := fun l k e hl =>
    ⟨.ref s.heap.objs.size, _, I.lnew (t' := k) (by rw [← e]; exact vals_strs l) (by rw [List.length_map]; exact hl), rfl, q _ I.fresh⟩
  have one : (1 : Nat) ≤ sizeLine := by decide
  cases h1 : (decide (z.length < y.length) || decide (strKind z < strKind y))
  · cases hf : (occurrences z y 0 z.length (z.length + 1)).isEmpty
    · have e : Txt.split z y = partsBetween z (occurrences z y 0 z.length (z.length + 1)) y.length := (if_neg (ne_true_of_eq_false h1)).trans (if_neg (ne_true_of_eq_false hf))
      refine call_meets F.slot_str_split (typeIs_str _ _ _) F.entry_str_split (F.args_str_split_2 _ _) (meets_str_split_sep z y t t' h1 hy hf (by omega) hn) ?_
      show wants (EP X pins σ Q) X.xe _ { s with toks := _, heap := s.heap.push { cls := .type "list", data := .seq (strsFrom s.toks (partsBetween z (occurrences z y 0 z.length (z.length + 1)) y.length)).toArray } }
      rw [strsFrom_eq]
      exact key (numbered s.toks _) _ ((numbered_texts _ _).trans e.symm) (by rw [e]; exact hn)
    · have e : Txt.split z y = [z] := (if_neg (ne_true_of_eq_false h1)).trans (if_pos hf)
      exact call_meets F.slot_str_split (typeIs_str _ _ _) F.entry_str_split (F.args_str_split_2 _ _) (meets_str_split_not_found z y t t' h1 hy hf) (key [(z, t)] s.toks e.symm (by rw [e]; exact one))
  · have e : Txt.split z y = [z] := if_pos h1
    exact call_meets F.slot_str_split (typeIs_str _ _ _) F.entry_str_split (F.args_str_split_2 _ _) (meets_str_split_cannot_occur z y t t' h1) (key [(z, t)] s.toks e.symm (by rw [e]; exact one))
/-- x.join(a list of texts) -/
def rJoin (K : PySem.W.Frag) : V → List V → Hp → VK → Prop := fun x vs H Q => ∃ z a ts, x = .str z ∧ vs = [.ref a] ∧ SqL K H a (ts.map V.str) ∧ (ts.map (·.length)).sum + ts.length * z.length ≤ sizeLine ∧ Q (.str (Str.join z ts)) H
theorem mt_join : MtM X "str.join" (rJoin X.K) := by
  intro pins s σ H x vs v us Q I rx rv h
  obtain ⟨z, a, ts, rfl, rfl, ha, hz, q⟩ := h
  obtain ⟨t, rfl⟩ := rx
  obtain ⟨u, rfl, ru⟩ := rv.one
  cases ru
  obtain ⟨its, r, pl, _⟩ := I.list ha
  obtain ⟨l, rfl, e⟩ := vals_strs' r
  have hl : tooLong ((l.map (·.1)).toArray.foldl (· + ·.length + z.length) 0) = false := by
    rw [e, StrLaws.joinTotal]
    show decide (_ > sizeLine) = false
    exact decide_eq_false (by omega)
  refine call_meets F.slot_str_join (typeIs_str _ _ _) F.entry_str_join (F.args_str_join_2 _ _) (meets_str_join_list z t a l hl) ⟨pl.isList, ?_⟩
  have fin : ∀ (k : Nat) (tk : Tok), EP X pins σ Q (.str (Str.join z ts) tk) { s with toks := k } := fun k tk => ⟨.str _, H, I.tok _, ⟨tk, rfl⟩, q⟩
  have hj : (Str.join z ts).length ≤ sizeLine := Nat.le_trans (StrLaws.join_length_le z ts) hz
  match l, e with
  | [], e =>
    refine ⟨?_, ?_⟩
    · rw [StrLaws.glued_eq_join, e]; exact hj
    · rw [StrLaws.glued_eq_join, e]; exact fin _ _
  | [p], e =>
    have e' : Str.join z ts = p.1 := by rw [← e]; rfl
    have := fin s.toks p.2
    rw [e'] at this
    exact this
  | p :: p' :: l, e =>
    refine ⟨?_, ?_⟩
    · rw [StrLaws.glued_eq_join, e]; exact hj
    · rw [StrLaws.glued_eq_join, e]; exact fin _ _
/-- x.startswith(y) -/
def rStarts : V → List V → Hp → VK → Prop := fun x vs H Q => ∃ z y, x = .str z ∧ vs = [.str y] ∧ Q (.bl (Txt.startswith z y)) H
theorem mt_startswith : MtM X "str.startswith" rStarts := by
  intro pins s σ H x vs v us Q I rx rv h
  obtain ⟨z, y, rfl, rfl, q⟩ := h
  obtain ⟨t, rfl⟩ := rx
  obtain ⟨u, rfl, t', rfl⟩ := rv.one
  exact call_meets F.slot_str_startswith (typeIs_str _ _ _) F.entry_str_startswith (F.args_str_startswith_2 _ _) (gives_str_startswith z y t t').meets ⟨.bl _, H, I, rfl, q⟩
end
end L2
namespace L2
open PySem PySem.Spec PyProof.Rows PySem.Builtin PySem.Builtin.Str
def Its1 (z : Str) : It := ⟨fun i _ => i < z.cps.size, fun i H x H' => H' = H ∧ ∃ c, z.cps[i]? = some c ∧ x = .str ⟨#[c]⟩, fun i _ => z.cps.size ≤ i⟩
theorem turn_str {P : Program} {w : World} {K : PySem.W.Frag} {tg : Expr} (it : Addr) (z : Str) (t : Tok) : Turn P w K tg (Its1 z) [it] it (fun i h => h.IsStrIter it "str_ascii_iterator" z t i) where
  mem := by simp
  obj := fun i h st b hb => by
    have e : b = it := by simpa using hb
    subst e
    obtain ⟨o, e, c, d⟩ := st
    exact ⟨o, e, fun v q => by rw [d] at q; cases q⟩
  keep := fun i h h' st k => by
    obtain ⟨o, e, r⟩ := st
    exact ⟨o, k it (by simp) o e, r⟩
  item := by
    intro X hP hw hK hc i pins s σ H E I hf st hg
    subst hP hw hK
    have hi : i < z.cps.size := hg
    obtain ⟨f0, f1, f2, f3, f4, f5⟩ := hf it (by simp)
    refine wpAny_pyNext_ascii_item st (c := z.cps[i]) (by simp [hi]) fun h' st' sb => ?_
    have I1 : Inv X pins σ H { s with heap := h', toks := s.toks + 1 } := I.turned (t' := s.toks + 1) (fun b o hb e => (sb.2 b hb).trans e) f0 f1 f3 f4 f5
    obtain ⟨o, e, c, d⟩ := id st'
    exact ⟨_, rfl, go_of (s := { s with heap := h', toks := s.toks + 1 }) e c d (by decide) ⟨.str ⟨#[z.cps[i]]⟩, H, I1, ⟨_, rfl⟩, ⟨rfl, _, by simp [hi], rfl⟩, st', fun b hb => (hf b hb).1⟩⟩
  done := by
    intro X hP hw hK hc i pins s σ H E I hf st hg
    subst hP hw hK
    have hi : z.cps.size ≤ i := hg
    obtain ⟨f0, f1, f2, f3, f4, f5⟩ := hf it (by simp)
    exact wpAny_pyNext_ascii_end (I.ok.hd hc) st (by simp [hi]) fun h' eb => ⟨rfl, I.turned (t' := s.toks) (fun b o hb e => eb b o hb e) f0 f1 f3 f4 f5⟩
  self := fun _ _ _ _ _ st h => wpAny_pyIter_striter_ascii st h
section
variable {X : Cx} {tg : Expr}
def iStr (tl : TE) : TI := fun σ H R => tl σ H fun x H1 => ∃ z, x = .str z ∧ z.cps.all (· < 128) = true ∧ R (Its1 z) H1
theorem pi_str {l : Expr} {tl : TE} (hl : PE X l tl) : PI X tg l (iStr tl) := by
  intro pins s σ H R I h
  refine thn (hl pins s σ H _ I h) fun v s1 ⟨x, H1, I1, r1, q1⟩ => ?_
  obtain ⟨z, e, ha, q⟩ := q1
  subst e
  obtain ⟨t, rfl⟩ := r1
  refine wpAny_pyIter_ascii ha ?_
  refine ⟨s1.heap.objs.size, [s1.heap.objs.size], _, _, H1, rfl, I1.kept (t' := s1.toks) fun b o e => Heap.get?_push_of_some _ e, turn_str _ z t, ⟨_, Heap.get?_push_size _ rfl, rfl, rfl⟩, fun b hb => ?_, q⟩
  have e : b = s1.heap.objs.size := by simpa using hb
  subst e
  exact I1.fpOk (Nat.le_refl _) (I1.hok.fresh (Nat.le_refl _))
theorem vals_bools {bs : List Bool} : ∀ {us : List Value}, Vals (bs.map V.bl) us → us = bs.map Value.bool := by
  induction bs with
  | nil => intro us h; cases h; rfl
  | cons b bs ih =>
    intro us h
    cases h with
    | cons r t => rw [ih t, show _ = Value.bool b from r]; rfl
/-- all(a list of bools) -/
def rAllB (K : PySem.W.Frag) : List V → Hp → VK → Prop := fun xs H Q => ∃ (p : Addr) (bs : List Bool), xs = [.ref p] ∧ SqL K H p (bs.map V.bl) ∧ Q (.bl (bs.all id)) H
theorem call_allB (hc : X.calm = true) : CallR X (.builtin "all") (rAllB X.K) := by
  intro pins s σ H xs us Q I r h
  obtain ⟨p, bs, rfl, hp, q⟩ := h
  obtain ⟨u, rfl, rx⟩ := vals1 r
  cases rx
  obtain ⟨its, r', pl, hz'⟩ := I.list hp
  have e := vals_bools r'
  subst e
  have hl := pl.isList
  have hlt : p < s.heap.objs.size := by obtain ⟨_, e, _⟩ := hl; exact Heap.lt_size e
  refine call_all_walk (wpAny_pyIter_list hl ?_)
  refine ⟨s.heap.objs.size, [s.heap.objs.size, p], [s.heap.objs.size], (bs.map Value.bool).toArray.size, _, _, fun i => (bs[i]?).getD true, rfl, Walks.list (A := X.A.in1) (I.ok.hd hc) _ p (Nat.ne_of_lt hlt) (bs.map Value.bool).toArray,
    ⟨⟨_, Heap.get?_push_size _ rfl, rfl, rfl⟩, hl.push _⟩, fun i v s' Q' E' hP hQ => ?_, fun h' tk hk => ?_⟩
  · have hP' : (bs.map Value.bool)[i]? = some v := by simpa using hP
    rw [List.getElem?_map] at hP'
    obtain ⟨b, eb, rfl⟩ := Option.map_eq_some_iff.mp hP'
    simp only [eb, Option.getD_some] at hQ
    exact wpAny_truthy_bool hQ
  · have e : ((List.range (bs.map Value.bool).toArray.size).all fun i => (bs[i]?).getD true) = bs.all id := by
      rw [List.size_toArray, List.length_map]; exact LSm.range_all bs
    rw [e]
    exact ⟨.bl _, H, I.kept (t' := tk) (LSm.kept_iter hk), rfl, q⟩
/-- str(x), x an int or a text -/
theorem call_strX : CallR X (.type "str") (fun xs H Q => (∃ i, xs = [.int i] ∧ i.natAbs.log2 < 1920 ∧ Q (.str (toString i)) H) ∨ ∃ z, xs = [.str z] ∧ Q (.str z) H) := by
  intro pins s σ H xs us Q I r h
  rcases h with h | ⟨z, rfl, q⟩
  · exact call_str_int pins s σ H xs us Q I r h
  · obtain ⟨u, rfl, t, rfl⟩ := vals1 r
    exact PySem.P.str_of_str ⟨.str _, H, I, ⟨_, rfl⟩, q⟩
/-- text[1:], the text not empty -/
def rSlS1 : V → Option Int → Option Int → Hp → VK → Prop := fun x lo hi H Q => ∃ z : Str, x = .str z ∧ lo = some 1 ∧ hi = none ∧ 1 ≤ z.length ∧ z.length ≤ sizeLine ∧ Q (.str ⟨(z.cps.toList.drop 1).toArray⟩) H
theorem sl_str1 : SlR X rSlS1 := by
  intro pins s σ H x v vl vu lo hi sl Q I rx hs pl pu h
  obtain ⟨z, rfl, rfl, rfl, h1, hz, q⟩ := h
  obtain ⟨t, rfl⟩ := rx
  have e2 : strSliceIndices (some 1) none 1 z.length = strSliceIndices (some ((1 : Nat) : Int)) (some (z.length : Int)) 1 z.length := by
    unfold strSliceIndices
    have h0 : ¬ ((z.length : Int) < 0) := by omega
    simp only [h0, if_false, show ((1 : Int) > 0) = True from by simp, if_true]
    rw [show max (0 : Int) (min (z.length : Int) (z.length : Int)) = z.length by omega]
    rfl
  have e3 := StrLaws.sliced_plain z (a := 1) (b := z.length) h1 (Nat.le_refl _)
  have e4 := StrLaws.strSliceIndices_plain (a := 1) (b := z.length) (len := z.length) h1 (Nat.le_refl _)
  have e5 : (z.cps.toList.drop 1).take (z.length - 1) = z.cps.toList.drop 1 := List.take_of_length_le (by rw [List.length_drop]; exact Nat.le_refl _)
  rw [e5] at e3
  cases pl with
  | int =>
    cases pu with
    | none =>
      refine ⟨"str", _, F.slot_str_getitem.lookup, typeIs_str _ _ _, wpAny_getItem_str_slice (l := some (1, _)) (u := none) (st := none) hs rfl ?_⟩
      unfold sliceMade
      have e6 : ∀ u : Tok, slicePicked z (some (1, u)) none none = strSliceIndices (some ((1 : Nat) : Int)) (some (z.length : Int)) 1 z.length := fun u => e2
      rw [e6, if_neg (by
        rw [e4, List.length_map, List.length_range]
        simp
        omega), e3]
      exact ⟨by show (z.cps.toList.drop 1).length ≤ _; rw [List.length_drop]; exact Nat.le_trans (Nat.sub_le _ _) hz, .str _, H, I.tok _, ⟨_, rfl⟩, q⟩
end
end L2
namespace L2
open PySem PySem.Spec PyProof.Rows
section
variable {X : Cx} {body s1 s2 : List Stmt} {b1 b2 : Stmt} {th1 th2 : TS} {tE : XK → TS} {x1 x2 : Str} {C1 C2 : Addr} {np1 np2 pos hp1 hp2 : Pos}
def tTry2 (K : PySem.W.Frag) (n : Nat) (C1 C2 : Addr) (tE : XK → TS) (th1 th2 : TS) : TS := fun D σ H => tE (fun C _ H' => (PySem.W.exmOne K C (.ref C1) = some true ∧ th1 D (List.replicate n none) H') ∨ (PySem.W.exmOne K C (.ref C1) = some false ∧ PySem.W.exmOne K C (.ref C2) = some true ∧ th2 D (List.replicate n none) H')) D σ H
theorem ps_try2 (hst : X.stack = X.env :: X.outer) (hf : X.env.frame = some X.env.locals) (hg1 : Gl X x1) (hm1 : X.mg x1 = some (.ref C1)) (hg2 : Gl X x2) (hm2 : X.mg x2 = some (.ref C2)) (hb : ∀ pins E, PSs (X.tryE pins E) body (tE E))
    (hh1 : ∀ a, PSs (X.hand a) (b1 :: s1) th1) (hh2 : ∀ a, PSs (X.hand a) (b2 :: s2) th2) (hd1 : (x1 == ("__debug__" : Str)) = false := by decide) (hd2 : (x2 == ("__debug__" : Str)) = false := by decide) :
    PS X (.Try body [.ExceptHandler (some (.Name x1 np1)) none (b1 :: s1) hp1, .ExceptHandler (some (.Name x2 np2)) none (b2 :: s2) hp2] [] [] pos) (tTry2 X.K X.N.length C1 C2 tE th1 th2) := by
  intro pins s σ H D I h
  refine wpAny_Try_except (wpAny_mono (hb pins _ [] s σ H D I.toTry h) (fun f s1 q => ?_) fun e s1 q => ?_)
  · have q' := q.ofTry
    cases f with
    | next => exact wpAny_execs_nil q'
    | brk => exact q'
    | cont => exact q'
    | ret u => exact q'
  · obtain ⟨σ1, H1, s2, a, C, H', rfl, I1, F, hth⟩ := q
    obtain ⟨B, a0, fl, hb', gr⟩ := F.gr
    have fl' := fl
    rw [hst] at fl'
    have hfr := I.ok.frames
    rw [hst] at hfr
    refine wpAny_looks_onW hfr hf fl' fun h4 held4 sm4 => wpAny_landsW (s := { s1 with heap := h4 }) held4 fun h5 fl5 sm5 => ?_
    have sm := sm4.trans sm5
    have I5 := I1.fly F.os F.bare F.un fl5.1 sm hb' gr
    obtain ⟨ob, hob, hoc⟩ := fl5.there
    have ty : PySem.W.Looks (model X.prog X.w) h5 (typeOf (.ref a)) C := by
      subst hoc
      exact (PySem.W.Looks.ld hob).andThen .now
    have kin : X.K.In h5 := I5.kIn
    refine wpAny_handleBy_cons (codeAny_handlers_test (ld_glob (X := X.hand a) (I5.toHand) hg1 hm1 ?_ hd1)) (by intro z; cases z)
    rcases hth with ⟨hx, hth⟩ | ⟨hx, hx2, hth⟩
    · refine (PySem.W.exm_one (M := model X.prog X.w) (h := h5) kin ty hx).here ?_
      refine codeAny_handlers_suite (lands_againW (s := { s1 with heap := h5 }) fl5 fun h6 fl6 sm6 => ?_)
      have I6 := I1.fly F.os F.bare F.un fl6.1 (sm.trans sm6) hb' gr
      exact wpAny_mono (hh1 a pins { s1 with heap := h6 } _ H' D I6.forget.toHand hth) (fun f s3 z => z.ofHand I.ok) fun _ _ z => False.elim z
    · refine (PySem.W.exm_one (M := model X.prog X.w) (h := h5) kin ty hx).here ?_
      refine wpAny_handleBy_cons (codeAny_handlers_test (ld_glob (X := X.hand a) (I5.toHand) hg2 hm2 ?_ hd2)) (by intro z; cases z)
      refine (PySem.W.exm_one (M := model X.prog X.w) (h := h5) kin ty hx2).here ?_
      refine codeAny_handlers_suite (lands_againW (s := { s1 with heap := h5 }) fl5 fun h6 fl6 sm6 => ?_)
      have I6 := I1.fly F.os F.bare F.un fl6.1 (sm.trans sm6) hb' gr
      exact wpAny_mono (hh2 a pins { s1 with heap := h6 } _ H' D I6.forget.toHand hth) (fun f s3 z => z.ofHand I.ok) fun _ _ z => False.elim z
end
end L2
namespace L2
open PySem PySem.Spec PyProof.Rows
structure HeldAt (X : Cx) (H' : Hp) (s : Shared) (h6 : Heap) (a : Addr) (C : Value) : Prop where
  new : X.s₀.heap.get? a = none
  sm : s.heap.UpToSlots h6
  gr : ∃ B a0, Heap.HeldW B X.stack a C a0 X.env.locals h6 ∧ HOk X.prog X.w H' B ∧ ∀ b o, X.s₀.heap.get? b = some o → b ∉ X.fs → ∃ o', B.get? b = some o' ∧ (X.H₀ b = none → o' = o)
section
variable {X : Cx} {pins : List (Addr × Obj)} {σ : St} {H H' : Hp} {s : Shared} {a : Addr} {C : Value} {B h6 : Heap}
theorem HeldAt.out {Q : Unit → Shared → Prop} {E : Value → Shared → Prop} (I : Inv X pins σ H' s) (hs : X.stack = X.env :: X.outer) (hf : X.env.frame = some X.env.locals) (hx : X.ex = []) (F : HeldAt X H' s h6 a C)
    (h : ∀ h2, Fly X.prog X.w X.outer X.H₀ X.s₀ a C H' { s with heap := h2 } → Q () { s with heap := h2 }) : wpAny (model X.prog X.w) X.A (leaving X.env (.ref a)) Q E { s with heap := h6 } := by
  obtain ⟨B, a0, held, hb, gr⟩ := F.gr
  unfold leaving
  refine wpAny_bind (wpAny_noteFrame_againW (s := { s with heap := h6 }) hf held.2.2.2 ?_)
  refine wpAny_landsW (s := { s with heap := h6 }) held fun h2 fl sm2 => h h2 ?_
  have sm := F.sm.trans sm2
  have inS : ∀ b, b ∈ X.fs → b ∈ frs X.stack := fun b hm => by
    rw [hs]
    unfold frs
    rw [List.filterMap_cons, hf]
    exact .tail _ hm
  have fr : ∀ b o1, b ∈ X.fs → s.heap.get? b = some o1 → ∃ sl, h2.get? b = some { o1 with slots := sl } := fun b o1 hm e1 => by
    obtain ⟨_, o2, eo, hd⟩ := I.stack.mem (inS b hm)
    rw [e1] at eo; cases eo
    exact sm b _ e1 hd
  have nx : ∀ b : Addr, b ∉ X.ex := fun b => by rw [hx]; simp
  obtain ⟨k1, k2, k3, k4⟩ := fl
  rw [hs] at k3
  refine ⟨I.os, I.bare, ⟨fun b o e n hm _ => ?_, fun b o e n hm _ => ?_, fun b o e n _ => I.base.free b o e n (nx b), fun b o e _ => ?_, I.base.tups, I.base.frzs, I.base.tbls⟩, F.new, B, a0, ⟨k1, k2, k3.2.2, k4⟩, hb, gr⟩
  · obtain ⟨o', e', k⟩ := gr b o e hm
    rw [← k n]; exact k1 b o' e'
  · obtain ⟨sl, e1⟩ := I.base.slot b o e n hm (nx b)
    obtain ⟨sl2, e2⟩ := fr b _ hm e1
    exact ⟨sl2, e2⟩
  · by_cases hm : b ∈ X.fs
    · obtain ⟨o1, e1⟩ := I.base.there b o e (nx b)
      obtain ⟨sl, e2⟩ := fr b o1 hm e1
      exact ⟨_, e2⟩
    · obtain ⟨o', e', _⟩ := gr b o e hm
      exact ⟨o', k1 b o' e'⟩
def PassesH (X : Cx) (E : XK) : Prop := ∀ (pins : List (Addr × Obj)) (σ : St) (H' : Hp) (s : Shared) (h6 : Heap) (a : Addr) (C : Value), Inv X pins σ H' s → HeldAt X H' s h6 a C → E C none H' → X.xe (.ref a) { s with heap := h6 }
end
section
variable {P : Program} {w : World} {K : PySem.W.Frag} {mg : Str → Option Value} {base : Heap} {N : List Str} {qual : Str} {scope : Scope} {f : Addr} {cd : Value} {A : Around} {outer : List Env} {s : Shared} {H : Hp} {E : XK}
theorem heldX : PassesH (cxOf (CXE P w) P w K mg base N qual scope f cd A outer s H E) E := fun pins σ H' s1 h6 a C I F q => HeldAt.out I rfl rfl rfl F fun h2 F2 => ⟨a, C, H', rfl, F2, q⟩
end
section
variable {M : Model} {A : Around} {E : Value → Shared → Prop} {s : Shared} {env : Env}
def compEnd (M : Model) (A : Around) (E : Value → Shared → Prop) (Q : Value → Shared → Prop) (acc : Value) (D : Addr) (fr : Option Addr) : Result → Shared → Prop
  | .ok _, s' => ∃ m, s'.heap.Ns D m ∧ ∀ h', Heap.SameBut D s'.heap h' → Q acc { s' with heap := h' }
  | .error x, s' => ∃ m, s'.heap.Ns D m ∧ ∀ h', Heap.SameBut D s'.heap h' → ∀ ce : Env, ce.locals = D → ce.frame = fr → wpAny M A (passOn "comprehension.variables-let-go" x ce : Sem Value) (fun _ _ => False) E { s' with heap := h' }
theorem comp_run {e : Expr} {scope : Scope} {pos : Pos} {mkAcc first : Sem Value} {c0 : Comprehension} {cs : List Comprehension} {cl : List (Str × Addr)} {Q : Value → Shared → Prop} (h1 : clausesOf e = c0 :: cs) (h2 : ∀ x, foldedSetIterable c0.iter env x = pure x)
    (h3 : closureFor scope env = pure cl) (h4 : scope.kind = .function) (h5 : ∀ y ∈ scope.names, y.2 = .local → scope.names.lookup y.1 = some .local)
    (run : wpAny M A first (fun v t1 => wpAny M A (pyIter v) (fun itr t2 => wpAny M A mkAcc (fun acc t3 => wpAny M A (newFunctionEnv scope env.globals cl [] env.qual none .none (some env)) (fun ce t4 =>
      codeAny M A (.compStart e 0 itr acc { ce with scope := relabel scope env }) (compEnd M A E Q acc ce.locals ce.frame) t4) E t3) E t2) E t1) E s) : wpAny M A (comprehension e scope env pos mkAcc false first none) Q E s := by
  unfold comprehension
  rw [h3, h1]
  refine wpAny_bind (wpAny_mono run (fun v t1 q1 => ?_) fun _ _ z => z)
  refine wpAny_bind (wpAny_standAt (wpAny_bind (wpAny_of_eq (h2 v) (wpAny_bind (wpAny_holding (wpAny_mono q1 (fun itr t2 q2 => wpAny_standIf ?_) fun _ _ z => z))))))
  refine wpAny_bind (wpAny_mono q2 (fun acc t3 q3 => ?_) fun _ _ z => z)
  refine wpAny_bind (wpAny_pure (wpAny_bind (wpAny_mono q3 (fun ce t4 q4 => ?_) fun _ _ z => z)))
  dsimp only
  have vis : ∀ y ∈ (scope.names.filter fun y => (y.2 == .local || y.2 == .cell) && y.1 != (".0" : Str)).reverse, y.2 = .local → Env.kindOf { ce with scope := relabel scope env } y.1 = some .local :=
    fun y hy e => lookup_relabel_local (h5 y (List.mem_filter.mp (List.mem_reverse.mp hy)).1 e)
  refine wpAny_holding (wpAny_bind (wpAny_attempt (wpAny_holding (wpAny_run (codeAny_mono q4 fun r t5 q5 => ?_)))))
  cases r with
  | ok f =>
    obtain ⟨m, n, q⟩ := q5
    exact wpAny_bind (wpAny_holding (wpAny_comp_letGo (cenv := { ce with scope := relabel scope env }) h4 _ t5 m vis n fun g m' _ sb => wpAny_pure (q g sb)))
  | error x =>
    obtain ⟨m, n, q⟩ := q5
    exact wpAny_bind (wpAny_holding (wpAny_comp_letGo (cenv := { ce with scope := relabel scope env }) h4 _ t5 m vis n fun g m' _ sb => wpAny_mono (q g sb { ce with scope := relabel scope env } rfl rfl) (fun _ _ z => z.elim) fun _ _ z => z))
end
end L2
namespace L2
open PySem PySem.Spec PyProof.Rows
theorem FunFrames_move {h h' B B' : Heap} {l : List Env} (hl : h.FunFrames B l) (k : ∀ L o, L ∈ frs l → h.get? L = some o → h'.get? L = some o) (n : ∀ L, B.get? L = none → B'.get? L = none) : h'.FunFrames B' l := by
  induction l with
  | nil => trivial
  | cons env rest ih =>
    obtain ⟨hk, ⟨L, o, hf, hn, ho, hd⟩, hr⟩ := hl
    have hm : L ∈ frs (env :: rest) := by unfold frs; rw [List.filterMap_cons, hf]; exact .head _
    refine ⟨hk, ⟨L, o, hf, n L hn, k L o hm ho, hd⟩, ih hr fun L' o' hm' e => k L' o' ?_ e⟩
    unfold frs
    rw [List.filterMap_cons, hf]
    exact .tail _ hm'
section
variable {X : Cx} {pins pins1 : List (Addr × Obj)} {σ σ1 : St} {H3 H1 H' : Hp} {s3 t1 s10 : Shared} {a : Addr} {Cc : Value} {fp : List Addr} {NY : List Str} {scope : Scope} {cl : List (Str × Addr)} {E : XK} {Q : Value → Shared → Prop} {acc : Value}
theorem comp_flies (hst : X.stack = X.env :: X.outer) (hf : X.env.frame = some X.env.locals) (hx : X.ex = []) (hH : PassesH X E) (I3 : Inv X pins σ H3 s3) (f3 : ∀ b ∈ fp, FpOk X pins H3 b)
    (I1 : Inv (cxComp X pins NY scope cl fp s3.heap.objs.size s3 H3) pins1 σ1 H1 t1) (F : Fly X.prog X.w X.stack H1 t1 a Cc H' s10) (qE : E Cc none H') :
    notedBy (model X.prog X.w) X.A (compEnvC scope cl s3.heap.objs.size X.env) (fun e s' => compEnd (model X.prog X.w) X.A X.xe Q acc s3.heap.objs.size X.env.frame (.error e) s') (.ref a) s10 := by
  obtain ⟨B, a0, fl, hb', gr⟩ := F.gr
  have fl' := fl
  rw [hst] at fl'
  have hfr := I3.ok.frames
  rw [hst] at hfr
  show wpAny _ _ (noteFrame (.ref a) X.env) _ _ s10
  refine wpAny_looks_onW hfr hf fl' fun h4 held4 sm4 => ?_
  have I4 := I1.fly F.os F.bare F.un held4.1 sm4 hb' gr
  obtain ⟨m4, hn4, _⟩ := I4.loc
  refine ⟨m4, hn4, fun h5 sb5 ce ce1 ce2 => ?_⟩
  have I7 : Inv X pins σ H' { s10 with heap := h4 } := I3.call' I4.os I4.base I4.hok I4.bare fun b hb => let ⟨_, g1, _, g3, g4, g5⟩ := f3 b hb; ⟨g3, g1, g4, g5⟩
  obtain ⟨c0, c1, c2, c3, c4, c5⟩ := I3.fpOk (b := s3.heap.objs.size) (Nat.le_refl _) (show H' s3.heap.objs.size = none from I4.free)
  have I8 : Inv X pins σ H' { s10 with heap := h5 } := I7.turned (t' := s10.toks) (fun b o hb e => sb5.extBut b o hb e) c0 c1 c3 c4 c5
  obtain ⟨st4, en4, ff4, oe, vs, T, oT, ts, he, hc, hd, h1', hnT, hTe, hT, hdT, h3'⟩ := held4
  have blk : ∀ b o us, h4.get? b = some o → o.data = .fields us → b ≠ s3.heap.objs.size := fun b o us e d z => by
    obtain ⟨oL, es, n, hoL, hdat, _⟩ := hn4
    have hoL : h4.get? s3.heap.objs.size = some oL := hoL
    rw [z, hoL] at e
    cases e
    rw [hdat] at d
    cases d
  have k5 : ∀ b, b ≠ s3.heap.objs.size → h5.get? b = h4.get? b := fun b hb => sb5.2 b hb
  have he5 : h5.get? a = some oe := (k5 a (blk a oe vs he hd)).trans he
  have hT5 : h5.get? T = some oT := (k5 T (blk T oT ts hT hdT)).trans hT
  have h3s : 3 < ts.size := (Array.getElem?_eq_some_iff.mp h3').1
  unfold PySem.passOn
  refine wpAny_bind (wpAny_field (s := { s10 with heap := h5 }) he5 hd h1' ?_)
  rw [if_neg (show ¬ ((Value.ref T == Value.none) = true) by simp)]
  have other : ∀ b, b ≠ T → (h5.update T (Obj.mapFields (·.setIfInBounds 3 (rawInt X.env.locals)))).get? b = h5.get? b := fun b hb => Heap.get?_update_other _ _ (Ne.symm hb)
  have fin : X.xe (.ref a) { s10 with heap := h5.update T (Obj.mapFields (·.setIfInBounds 3 (rawInt X.env.locals))) } := by
    have old : ∀ b o, X.s₀.heap.get? b = some o → b ∉ fp ∧ b ≠ s3.heap.objs.size := fun b o e => by
      have lt := Heap.lt_size e
      refine ⟨fun hb => ?_, fun z => ?_⟩
      · rcases (f3 b hb).2.2.2.1 with q | q
        · rw [hx] at q; cases q
        · exact absurd lt (Nat.not_lt.mpr q)
      · have := I3.sz
        rw [z] at lt
        exact absurd lt (Nat.not_lt.mpr this)
    have nx : ∀ b : Addr, b ∉ X.ex := fun b => by rw [hx]; simp
    have bn : ∀ b, B.get? b = none → (PySem.W.hideAll B [s3.heap.objs.size]).get? b = none := fun b e => by
      cases q : (PySem.W.hideAll B [s3.heap.objs.size]).get? b with
      | none => rfl
      | some o => rw [PySem.W.of_hideAll _ q] at e; cases e
    have nb : ∀ b o, (PySem.W.hideAll B [s3.heap.objs.size]).get? b = some o → b ≠ s3.heap.objs.size := fun b o e z => by
      rw [PySem.W.hideAll_none _ (by rw [z]; simp)] at e; cases e
    refine hH pins σ H' { s10 with heap := h5 } _ a Cc I8 ⟨?_, fun b o e hnf => ⟨o.slots, ?_⟩, PySem.W.hideAll B [s3.heap.objs.size], a0, ⟨fun b o e => ?_, bn a en4, ?_, ?_⟩, fun b o e => ?_, fun b o e hm => ?_⟩ qE
    · -- new
      cases q : X.s₀.heap.get? a with
      | none => rfl
      | some o =>
        obtain ⟨o1, e1⟩ := I3.base.there a o q (nx a)
        obtain ⟨o2, e2⟩ := I1.base.there a o1 e1 (old a o q).1
        rw [F.new] at e2; cases e2
    · -- up to slots
      have hb : b ≠ T := fun z => by
        have e : h5.get? b = some o := e
        rw [z, hT5] at e; cases e
        exact hnf ts hdT
      exact (other b hb).trans e
    · -- what stays
      have e1 := PySem.W.of_hideAll _ e
      have hb : b ≠ T := fun z => by rw [z, hnT] at e1; cases e1
      exact (other b hb).trans ((k5 b (nb b o e)).trans (st4 b o e1))
    · -- frames
      rw [hst]
      refine FunFrames_move ff4 (fun L o hm e => ?_) bn
      have hL : L ≠ s3.heap.objs.size := fun z => by
        have hm' : L ∈ X.env.locals :: X.fs := I3.stkSub L (by rw [hst]; exact hm)
        rcases List.mem_cons.mp hm' with q | q
        · exact c1 (z ▸ q)
        · exact c2 (z ▸ q)
      obtain ⟨_, o1, e1, hd1⟩ := ff4.mem hm
      have hT' : L ≠ T := fun z => by
        rw [z, hT] at e1; cases e1
        exact hd1 ts hdT
      exact (other L hT').trans ((k5 L hL).trans e)
    · -- the trace
      refine ⟨oe, vs, T, _, _, (other a (Ne.symm hTe)).trans he5, hc, hd, h1', bn T hnT, hTe, Heap.get?_update_self _ hT5 (Obj.isFreed_of_fields (Obj.data_mapFields hdT _)), Obj.data_mapFields hdT _, ?_⟩
      simp [h3s]
    · -- the objects
      refine (hb' b o e).stay (fun c u hc' q => PySem.W.hideAll_get _ q fun z => ?_) (fun _ q => q) fun _ _ q => q
      have z : c = s3.heap.objs.size := by simpa using z
      rcases hc' with r | r
      · rw [← r, z, c0] at e; cases e
      · rw [z, c0] at r; cases r
    · -- the ground
      obtain ⟨nf, nd⟩ := old b o e
      obtain ⟨o1, e1⟩ := I3.base.there b o e (nx b)
      obtain ⟨o2, e2⟩ := I1.base.there b o1 e1 nf
      have ns : b ∉ frs X.stack := I3.noframe e hm
      obtain ⟨o', e', k⟩ := gr b o2 e2 ns
      refine ⟨o', PySem.W.hideAll_get _ e' (by simpa using nd), fun n => ?_⟩
      have q3 := I3.base.keep b o e n hm (nx b)
      rw [e1] at q3; cases q3
      have f3' := I3.base.free b o e n (nx b)
      have q1 := I1.base.keep b _ e1 f3' ns nf
      rw [e2] at q1; cases q1
      exact k (I1.base.free b _ e1 f3' nf)
  refine wpAny_bind ?_
  unfold setFlight
  refine wpAny_bind (wpAny_field (s := { s10 with heap := h5 }) he5 hd h1' ?_)
  rw [if_pos (show (Value.ref T != Value.none) = true by simp), ce2, hf]
  exact wpAny_setField (s := { s10 with heap := h5 }) hT5 hdT h3s (wpAny_throw fin)
end
end L2
namespace L2
open PySem PySem.Spec PyProof.Rows
/-- the block's context, where an exception may leave -/
abbrev cxCompX (X : Cx) (pins : List (Addr × Obj)) (NY : List Str) (scope : Scope) (cl : List (Str × Addr)) (fp : List Addr) (C : Addr) (s : Shared) (H : Hp) (E : XK) : Cx :=
  (cxComp X pins NY scope cl fp C s H).wish fun e s' => ∃ pins1 σ1 H1 t1 a Cc H', e = .ref a ∧ Inv (cxComp X pins NY scope cl fp C s H) pins1 σ1 H1 t1 ∧ Fly X.prog X.w X.stack H1 t1 a Cc H' s' ∧ E Cc none H'
section
variable {X : Cx}
theorem passC {pins : List (Addr × Obj)} {NY : List Str} {scope : Scope} {cl : List (Str × Addr)} {fp : List Addr} {C : Addr} {s : Shared} {H : Hp} {E : XK} : Passes (CXE X.prog X.w) (cxCompX X pins NY scope cl fp C s H E) E :=
  fun pins1 σ1 H1 t1 e s' I ⟨a, Cc, H', he, F, q⟩ => ⟨pins1, σ1, H1, t1, a, Cc, H', he, I.unwish, F, q⟩
theorem pe_compX {E : XK} {elt tgt iter : Expr} {ifs : List Expr} {scope : Scope} {cl : List (Str × Addr)} {pos : Pos} {wi : TI} {g : TG} {tc : TT} {te : TE} {NY : List Str} {js : List (Option Nat)} (hc : X.calm = true) (hst : X.stack = X.env :: X.outer) (hff : X.env.frame = some X.env.locals) (hxx : X.ex = []) (hH : PassesH X E)
    (hkind : scope.kind = .function) (hclos : closureFor scope X.env = pure cl) (hcl : ClIn X.env.cells cl) (hjs : JsOk X scope js NY)
    (hi : PI X tgt iter wi)
    (hb : ∀ pins fp C s H, PG (cxComp X pins NY scope cl fp C s H) tgt g ∧ PIfs (cxComp X pins NY scope cl fp C s H) ifs tc ∧ PE (cxCompX X pins NY scope cl fp C s H E) elt te)
    (hcell : ∀ y ∈ scope.names, y.2 ≠ .cell := by decide) (hnames : ∀ y ∈ scope.names, y.2 = .local → scope.names.lookup y.1 = some .local := by decide)
    (hfr' : (scope.names.all fun y => !(y.2 == .free) || (cl.lookup y.1).isSome) = true := by first | rfl | with_unfolding_all rfl) (hs : ∀ x, foldedSetIterable iter X.env x = pure x := by intro _; rfl) :
    PE X (.ListComp elt [⟨tgt, iter, ifs, 0⟩] scope pos) (tComp wi g tc te js) := by
  intro pins s σ H Q I h
  have hfr : ∀ y ∈ scope.names, y.2 = .free → (cl.lookup y.1).isSome = true := fun y hy e => by
    have z := List.all_eq_true.mp hfr' y hy
    rw [e] at z
    simpa using z
  rw [eval_ListComp]
  refine comp_run (c0 := ⟨tgt, iter, ifs, 0⟩) (cs := []) rfl hs hclos hkind hnames (thn (hi pins s σ H _ I h) fun v s1 h1 => thn h1 fun itv s2 h2 => ?_)
  obtain ⟨it, fp, tn, J, H2, e, I2, T, st2, f2, q2⟩ := h2
  subst e
  -- the list
  refine wpAny_newObj_type ?_ (by show 0 ≤ sizeLine; exact Nat.zero_le _)
  have nD : H2 s2.heap.objs.size = none := I2.hok.fresh (Nat.le_refl _)
  obtain ⟨W, ⟨m0, w0⟩, turn⟩ := q2 s2.heap.objs.size nD
  have I3 : Inv X pins σ (upd H2 s2.heap.objs.size (.lst [])) { s2 with heap := s2.heap.push { cls := .type "list", data := .seq ([] : List Value).toArray } } := I2.lnew (t' := s2.toks) .nil (Nat.zero_le _)
  have kp3 : ∀ b o, s2.heap.get? b = some o → (s2.heap.push { cls := .type "list", data := .seq ([] : List Value).toArray }).get? b = some o := fun b o e => Heap.get?_push_of_some _ e
  have ob2 : ∀ b ∈ fp, ∃ o, s2.heap.get? b = some o := fun b hb => let ⟨o, e, _⟩ := T.obj _ _ st2 b hb; ⟨o, e⟩
  have f3 : ∀ b ∈ fp, FpOk X pins (upd H2 s2.heap.objs.size (.lst [])) b := fun b hb => by
    obtain ⟨f0, fr⟩ := f2 b hb
    obtain ⟨o, e⟩ := ob2 b hb
    exact ⟨by rw [upd_ne (Nat.ne_of_lt (Heap.lt_size e))]; exact f0, fr⟩
  generalize hs3 : ({ s2 with heap := s2.heap.push { cls := .type "list", data := .seq ([] : List Value).toArray } } : Shared) = s3 at I3
  have hs3' : s3.heap = s2.heap.push { cls := .type "list", data := .seq ([] : List Value).toArray } := by rw [← hs3]
  have st3 : tn 0 s3.heap := T.keep _ _ _ st2 fun b hb o e => by rw [hs3']; exact kp3 b o e
  have ob3 : ∀ b ∈ fp, ∃ o, s3.heap.get? b = some o := fun b hb => by
    obtain ⟨o, e⟩ := ob2 b hb
    exact ⟨o, by rw [hs3']; exact kp3 b o e⟩
  -- the block's dict
  refine wpAny_newFunctionEnv hcell (by intro y hy; simp at hy) (fun h1 hns hsb => ?_) hkind
  have kp4 : ∀ b o, s3.heap.get? b = some o → h1.get? b = some o := fun b o e => hsb.extBut b o (Nat.ne_of_lt (Heap.lt_size e)) (Heap.get?_push_of_some _ e)
  have IY := comp_inv (X := X) (NY := NY) (js := js) (scope := scope) (cl := cl) (fp := fp) (t' := s3.toks + ([] : List (Str × Value)).length) I3 hkind hcell hcl hfr hjs f3 ob3 kp4 hns
  have st4 : tn 0 h1 := T.keep _ _ _ st3 fun b _ o e => kp4 b o e
  have stat : ∀ {pl : List (Addr × Obj)} {H' : Hp}, (∀ b ∈ fp, H' b = none) → (∀ p ∈ pl, p.1 ∉ fp) → ∀ b ∈ fp, FpOk (cxComp X pins NY scope cl fp s3.heap.objs.size s3 (upd H2 s2.heap.objs.size (.lst []))) pl H' b := fun {pl H'} hn hp b hb => by
    obtain ⟨g1, g2⟩ := IY.ok.exf b hb
    refine ⟨hn b hb, g1, IY.ok.exfs b hb, .inl hb, g2, fun p hp' => ?_⟩
    rcases List.mem_append.mp hp' with z | z
    · exact (f3 b hb).2.2.2.2.2 p z
    · intro e
      exact hp p z (e ▸ hb)
  have loop : ∀ s4 : Shared, s4 = { s3 with heap := h1, toks := s3.toks + ([] : List (Str × Value)).length } →
      codeAny (model X.prog X.w) X.A (.compLoop (.ListComp elt [⟨tgt, iter, ifs, 0⟩] scope pos) 0 (.ref it) (.ref s2.heap.objs.size) (compEnvC scope cl s3.heap.objs.size X.env))
        (compEnd (model X.prog X.w) X.A X.xe (EP X pins σ Q) (.ref s2.heap.objs.size) s3.heap.objs.size X.env.frame) s4 := by
    rintro s4 rfl
    refine codeAny_compLoop_gen (fun n s' => ∃ i xs H', Inv (cxComp X pins NY scope cl fp s3.heap.objs.size s3 (upd H2 s2.heap.objs.size (.lst []))) [] (subSt js σ) H' s' ∧ tn i s'.heap ∧ (∀ b ∈ fp, H' b = none) ∧ W i n xs H') ?_ m0
      ⟨0, [], _, IY, st4, fun b hb => (f3 b hb).1, w0⟩
    rintro n s5 ⟨i, xs, H5, I5, st5, fr5, w5⟩
    obtain ⟨hD5, alt⟩ := turn i n xs H5 w5
    obtain ⟨bG, bI, bE⟩ := hb pins fp s3.heap.objs.size s3 (upd H2 s2.heap.objs.size (.lst []))
    rcases alt with ⟨stop, qn⟩ | ⟨go, N, hN, step⟩
    · refine wpAny_mono (T.done (cxComp X pins NY scope cl fp s3.heap.objs.size s3 (upd H2 s2.heap.objs.size (.lst []))) rfl rfl rfl hc i [] s5 (subSt js σ) H5 (fun _ _ => False) I5 (stat fr5 (by simp)) st5 stop) (fun r s6 hr => ?_) fun _ _ z => z.elim
      obtain ⟨hr, I6⟩ := hr
      subst hr
      obtain ⟨m6, hn6, _⟩ := I6.loc
      refine ⟨m6, hn6, fun h7 sb7 => ?_⟩
      have I7 : Inv X pins σ H5 s6 := I3.call' I6.os I6.base I6.hok I6.bare fun b hb => let ⟨_, g1, _, g3, g4, g5⟩ := f3 b hb; ⟨g3, g1, g4, g5⟩
      obtain ⟨c0, c1, c2, c3, c4, c5⟩ := I3.fpOk (b := s3.heap.objs.size) (Nat.le_refl _) (show H5 s3.heap.objs.size = none from I6.free)
      refine ⟨.ref s2.heap.objs.size, H5, ?_, rfl, qn⟩
      exact I7.turned (t' := s6.toks) (fun b o hb e => sb7.extBut b o hb e) c0 c1 c3 c4 c5
    · refine wpAny_mono (T.item (cxComp X pins NY scope cl fp s3.heap.objs.size s3 (upd H2 s2.heap.objs.size (.lst []))) rfl rfl rfl hc i [] s5 (subSt js σ) H5 (fun _ _ => False) I5 (stat fr5 (by simp)) st5 go) (fun r s6 hr => ?_) fun _ _ z => z.elim
      obtain ⟨u, hr, h6⟩ := hr
      subst hr
      refine wpAny_mono h6 (fun _ s7 h7 => ?_) fun _ _ z => z.elim
      obtain ⟨x, H7, I7, r7, y7, st7, fr7⟩ := h7
      have I7' := I7.pinned (stat fr7 (by simp)) (T.obj _ _ st7)
      have back : ∀ {σ8 : St} {H8 : Hp} {s8 : Shared}, Inv (cxComp X pins NY scope cl fp s3.heap.objs.size s3 (upd H2 s2.heap.objs.size (.lst []))) ([] ++ pinsAt fp s7.heap) σ8 H8 s8 → tn (i + 1) s8.heap ∧ (∀ b ∈ fp, H8 b = none) := fun {σ8 H8 s8} I8 => by
        refine ⟨T.keep _ _ _ st7 fun b hb o e => (I8.pin (b, o) (List.mem_append_right _ (List.mem_append_right _ (mem_pinsAt hb e)))).1, fun b hb => ?_⟩
        obtain ⟨o, e, _⟩ := T.obj _ _ st7 b hb
        exact (I8.pin (b, o) (List.mem_append_right _ (List.mem_append_right _ (mem_pinsAt hb e)))).2.1
      refine wpAny_mono (bG _ s7 (subSt js σ) H7 x u _ I7' r7 (step x H7 y7)) (fun _ s8 h8 => ?_) fun _ _ z => z.elim
      obtain ⟨σ8, H8, I8, wk, q8⟩ := h8
      have forget : ∀ {H8 : Hp} {s8 : Shared}, Inv (cxComp X pins NY scope cl fp s3.heap.objs.size s3 (upd H2 s2.heap.objs.size (.lst []))) ([] ++ pinsAt fp s7.heap) σ8 H8 s8 → Inv (cxComp X pins NY scope cl fp s3.heap.objs.size s3 (upd H2 s2.heap.objs.size (.lst []))) [] (subSt js σ) H8 s8 := fun I8 => I8.unpinned.weak wk.1 wk.2
      refine wpAny_mono (bI _ s8 σ8 H8 _ I8 q8) (fun ok s9 h9 => ?_) fun _ _ z => z.elim
      obtain ⟨H9, I9, q9⟩ := h9
      cases ok with
      | false =>
        rw [if_neg Bool.false_ne_true] at q9 ⊢
        obtain ⟨ys, n9⟩ := q9
        obtain ⟨m', hm, w9⟩ := hN _ _ n9
        exact ⟨m', hm, i + 1, ys, H9, forget I9, (back I9).1, (back I9).2, w9⟩
      | true =>
        rw [if_pos rfl] at q9 ⊢
        refine wpAny_mono (bE _ s9 σ8 H9 _ (I9.wish _) q9) (fun xv s10 h10 => ?_) fun e s10 z => ?_
        rotate_left
        · obtain ⟨pins1, σ1, H1, t1, a, Cc, H', rfl, I1, F, qE⟩ := z
          exact comp_flies hst hff hxx hH I3 f3 I1 F qE
        obtain ⟨v, H10, I10', r10, ys, hD, hz, n10⟩ := h10
        have I10 := I10'.unwish
        obtain ⟨m', hm, w10⟩ := hN _ _ n10
        refine wpAny_mono (mt_append (X := cxComp X pins NY scope cl fp s3.heap.objs.size s3 (upd H2 s2.heap.objs.size (.lst []))) _ s10 σ8 H10 (.ref s2.heap.objs.size) [v] _ [xv] (fun _ H11 => H11 = upd H10 s2.heap.objs.size (.lst (ys ++ [v]))) I10 rfl (.cons r10 .nil) ⟨_, ys, v, rfl, rfl, hD, hz, rfl⟩) (fun _ s11 h11 => ?_) fun _ _ z => z.elim
        obtain ⟨_, H11, I11, _, e11⟩ := h11
        subst e11
        exact ⟨m', hm, i + 1, _, _, forget I11, (back I11).1, (back I11).2, w10⟩
  exact codeAny_compStart_list (loop _ rfl) (T.self _ 0 _ _ _ st4 (loop _ rfl))
end
end L2
namespace L2
open PySem PySem.Spec PyProof.Rows
def DictIn (w : World) (K : PySem.W.Frag) (a : Addr) : Prop := (a == sysModules) = false ∧ ∃ es n, K.lookup a = some ⟨.type "dict", none, .dict es n, #[]⟩ ∧ PySem.W.KeysLit w.params es.toList
theorem DictIn.mk' {w : World} {K : PySem.W.Frag} {a : Addr} {es : Array DictEntry} {n : Nat} (s : (a == sysModules) = false) (l : K.lookup a = some ⟨.type "dict", none, .dict es n, #[]⟩) (k : PySem.W.KeysLit w.params es.toList) : DictIn w K a := ⟨s, es, n, l, k⟩
def DKey (K : PySem.W.Frag) (a : Addr) (k : Str) (o : Option V) : Prop := (o = none ∧ PySem.W.nsIn K a k = some none) ∨ ∃ v u, o = some v ∧ RelV v u ∧ PySem.W.nsIn K a k = some (some u)
theorem DKey.no {K : PySem.W.Frag} {a : Addr} {k : Str} (h : PySem.W.nsIn K a k = some none) : DKey K a k none := .inl ⟨rfl, h⟩
theorem DKey.int {K : PySem.W.Frag} {a : Addr} {k : Str} {n : Int} {t : Tok} (h : PySem.W.nsIn K a k = some (some (.int n t))) : DKey K a k (some (.int n)) := .inr ⟨_, _, rfl, ⟨t, rfl⟩, h⟩
theorem GlobIs.ofRef {K : PySem.W.Frag} {x : Str} {a : Addr} (h : PySem.W.nsIn K mainGlobals x = some (some (.ref a))) : GlobIs K x (.ref a) := ⟨_, h, rfl⟩
def tKGet (K : PySem.W.Frag) (a : Addr) (td ty : TE) : TE := fun σ H Q => td σ H fun x H1 => x = .ref a ∧ ty σ H1 fun y H2 => ∃ k o, y = .str k ∧ DKey K a k o ∧ Q (o.getD .non) H2
section
variable {X : Cx} {o e : Expr} {apos cpos : Pos} {td ty : TE} {a : Addr}
theorem pe_kget (D : DictIn X.w X.K a) (ho : PE X o td) (he : PE X e ty) (m : M1 X o "get" apos e cpos) : PE X (.Call (.Attribute o "get" apos) [e] [] cpos) (tKGet X.K a td ty) := by
  intro pins s σ H Q I h
  obtain ⟨hd, es, n, hl, hk⟩ := D
  have mp : ∀ {s1 : Shared} {H1 : Hp}, Inv X pins σ H1 s1 → s1.heap.MapOf (strKind X.prog X.w) a (fun k => findBy Value.isStrOf es k) := fun I1 => PySem.W.mapOf_K (prog := X.prog) I1.kIn hl hk
  refine wpAny_Call_method m.base m.few m.line PySem.F.plainAttrs_dict PySem.F.slot_dict_get PySem.F.type_dict_get (thn (ho pins s σ H _ I h) fun u s1 ⟨x, H1, I1, rx, ex, q1⟩ => ?_)
  subst ex
  obtain rfl : u = Value.ref a := rx
  refine ⟨(mp I1).typeIs, fun b q => ?_, ?_⟩
  · cases q
    exact ⟨_, I1.kIn _ _ hl, rfl⟩
  rw [m.trees]
  refine Calls.callWith_builtin rfl (Calls.evalArgs_plain (Calls.spliced_cons (thn (he pins s1 σ H1 _ I1 q1) fun iv s2 ⟨y, H2, I2, ry, k, ov, ey, g, q2⟩ => Calls.spliced_nil ?_)))
  subst ey
  obtain ⟨t, rfl⟩ := ry
  refine call_meetsIn PySem.F.slot_dict_get (mp I2).typeIs PySem.F.entry_dict_get (PySem.F.args_dict_get_2 _ _) (meets_dict_get (strKind X.prog X.w) a (strKind_is X.prog X.w k t) hd) ⟨_, mp I2, ?_⟩
  rcases g with ⟨rfl, g⟩ | ⟨v, u, rfl, rv, g⟩
  · rw [PySem.W.find_K hl g]
    exact ⟨.non, H2, I2.tok _, rfl, q2⟩
  · rw [PySem.W.find_K hl g]
    exact ⟨v, H2, I2.tok _, rv, q2⟩
end
/-- where no exception can come, it is a plain def -/
theorem FnX.calm {P : Program} {w : World} {K : PySem.W.Frag} {mg : Str → Option Value} {x : Str} {ps : List Str} {k : Nat} {sp sp' : Sp} (F : FnX P w K mg x ps k sp) (h : ∀ vs H Q E, sp' vs H Q E → sp vs H Q fun _ _ _ => False) : FnB P w K mg x ps k sp' := by
  obtain ⟨f, fd, h1, h2, h3, h4⟩ := F
  refine ⟨f, fd, h1, h2, h3, fun base => ?_⟩
  have F := h4 base
  refine ⟨fun vs H Q E q => F.len vs H Q _ (h vs H Q E q), fun A outer s H args us vs Q E hr he hb hv q => codeAny_mono (F.run A outer s H args us vs Q _ hr he hb hv (h vs H Q E q)) fun r s' z => ?_⟩
  match r, z with
  | .ok (.ret u), z => exact z
  | .ok .next, z => exact z
  | .ok .brk, z => exact z
  | .ok .cont, z => exact z
  | .error e, z =>
    obtain ⟨_, _, _, _, _, z⟩ := z
    exact z
end L2
seal L2.PE L2.PT L2.PW L2.PA L2.PS L2.PSs L2.PG L2.PGs L2.PI L2.PIfs L2.OpR L2.UnR L2.CallR L2.IxR L2.SlR L2.PO
namespace K12
open PySem PySem.Spec PyProof.Rows L2
theorem str_ext {a b : Str} (h : a.cps.toList = b.cps.toList) : a = b := by
  obtain ⟨⟨a⟩⟩ := a
  obtain ⟨⟨b⟩⟩ := b
  cases h
  rfl
theorem app_list (a b : Str) : (a ++ b).cps.toList = a.cps.toList ++ b.cps.toList := by
  show (a.cps ++ b.cps).toList = _
  simp
theorem cut {c : Nat} {u v : List Nat} : ∀ {x y : List Nat}, c ∉ x → c ∉ y → x ++ c :: u = y ++ c :: v → x = y ∧ u = v := by
  intro x
  induction x with
  | nil =>
    intro y _ hy h
    cases y with
    | nil => cases h; exact ⟨rfl, rfl⟩
    | cons b y => injection h with h1 h2; subst h1; exact absurd (List.mem_cons_self) hy
  | cons a x ih =>
    intro y hx hy h
    cases y with
    | nil => injection h with h1 h2; subst h1; exact absurd (List.mem_cons_self) hx
    | cons b y =>
      injection h with h1 h2
      obtain ⟨e1, e2⟩ := ih (fun z => hx (List.mem_cons_of_mem _ z)) (fun z => hy (List.mem_cons_of_mem _ z)) h2
      subst h1 e1
      exact ⟨rfl, e2⟩
theorem join2 (z p q : Str) (r : List Str) : (Str.join z (p :: q :: r)).cps.toList = p.cps.toList ++ (z.cps.toList ++ (Str.join z (q :: r)).cps.toList) := by
  show (p ++ z ++ Str.join z (q :: r)).cps.toList = _
  rw [app_list, app_list, List.append_assoc]
theorem join_one {c : Nat} : ∀ {ps qs : List Str}, ps ≠ [] → qs ≠ [] → (∀ p ∈ ps, c ∉ p.cps.toList) → (∀ p ∈ qs, c ∉ p.cps.toList) → (Str.join ⟨#[c]⟩ ps).cps.toList = (Str.join ⟨#[c]⟩ qs).cps.toList → ps = qs := by
  intro ps
  induction ps with
  | nil => intro qs h; exact absurd rfl h
  | cons p ps ih =>
    intro qs _ hq fp fq h
    cases qs with
    | nil => exact absurd rfl hq
    | cons q qs =>
      cases ps with
      | nil =>
        cases qs with
        | nil => exact congrArg (fun x => [x]) (str_ext h)
        | cons q' qs =>
          rw [join2] at h
          have h' : p.cps.toList = q.cps.toList ++ c :: (Str.join ⟨#[c]⟩ (q' :: qs)).cps.toList := h
          exact absurd (by rw [h']; simp) (fp p List.mem_cons_self)
      | cons p' ps =>
        cases qs with
        | nil =>
          rw [join2] at h
          have h' : p.cps.toList ++ c :: (Str.join ⟨#[c]⟩ (p' :: ps)).cps.toList = q.cps.toList := h
          exact absurd (by rw [← h']; simp) (fq q List.mem_cons_self)
        | cons q' qs =>
          rw [join2, join2] at h
          obtain ⟨e1, e2⟩ := cut (fp p List.mem_cons_self) (fq q List.mem_cons_self) h
          rw [str_ext e1, ih (by simp) (by simp) (fun x hx => fp x (List.mem_cons_of_mem _ hx)) (fun x hx => fq x (List.mem_cons_of_mem _ hx)) e2]
theorem split_ne (x y : Str) : Txt.split x y ≠ [] := by
  unfold Txt.split
  split
  · simp
  · split
    · simp
    · intro h
      have := congrArg List.length h
      rw [length_partsBetween] at this
      simp at this
theorem split_join {c : Nat} {ps : List Str} (h : ps ≠ []) (f : ∀ p ∈ ps, c ∉ p.cps.toList) : Txt.split (Str.join ⟨#[c]⟩ ps) ⟨#[c]⟩ = ps :=
  join_one (split_ne _ _) h (StrLaws.split_free _ c) f (by rw [StrLaws.join_split])
theorem sp_one : (" " : Str) = ⟨#[32]⟩ := by decide +kernel
theorem split_sp {ps : List Str} (h : ps ≠ []) (f : ∀ p ∈ ps, 32 ∉ p.cps.toList) : Txt.split (Str.join " " ps) " " = ps := by
  rw [sp_one]
  exact split_join h f
def figsOf (t : Str) : Str := if Txt.startswith t "-" = true then ⟨(t.cps.toList.drop 1).toArray⟩ else t
def inS (s : Str) (c : Nat) : Bool := !(Builtin.Str.occurrences s ⟨#[c]⟩ 0 s.length 1).isEmpty
def madeOf (t s : Str) : Bool := (!decide (V.str t = V.str "")) && (t.cps.toList.map (inS s)).all id
def readNum (t : Str) : Option Int := if madeOf (figsOf t) "0123456789" = true then (if (Txt.startswith (figsOf t) "0" && !decide (V.str t = V.str "0")) = true then none else PySem.intText? t) else none
def plainT (t : Str) : Bool := t.cps.all (· < 128) && decide (t.length ≤ 640)
def okN (t : Str) : Bool := plainT t && (!(madeOf (figsOf t) "0123456789") || (PySem.intText? t).isSome)
theorem inS_mem (s : Str) (c : Nat) : inS s c = decide (c ∈ s.cps.toList) := StrLaws.found_one s c
theorem figs_mem {c : Nat} (h : 48 ≤ c ∧ c ≤ 57) : inS "0123456789" c = true := by
  rw [inS_mem]
  have e : ("0123456789" : Str).cps.toList = [48, 49, 50, 51, 52, 53, 54, 55, 56, 57] := by decide +kernel
  rw [e]
  refine decide_eq_true ?_
  have : c = 48 ∨ c = 49 ∨ c = 50 ∨ c = 51 ∨ c = 52 ∨ c = 53 ∨ c = 54 ∨ c = 55 ∨ c = 56 ∨ c = 57 := by omega
  simpa using this
theorem starts_one {t : Str} {c d : Nat} {r : List Nat} (h : t.cps.toList = d :: r) : Txt.startswith t ⟨#[c]⟩ = decide (d = c) := by
  obtain ⟨⟨l⟩⟩ := t
  have h' : l = d :: r := h
  subst h'
  unfold Txt.startswith
  rw [Bool.eq_iff_iff, Bool.and_eq_true, decide_eq_true_eq, decide_eq_true_eq]
  refine (StrLaws.subAt_one ⟨⟨d :: r⟩⟩ c 0).trans ?_
  simp
theorem starts_len {t y : Str} (h : Txt.startswith t y = true) : y.length ≤ t.length := by
  unfold Txt.startswith at h
  rw [Bool.and_eq_true, decide_eq_true_eq] at h
  omega
theorem minus_one : ("-" : Str) = ⟨#[45]⟩ := by decide +kernel
theorem zero_one : ("0" : Str) = ⟨#[48]⟩ := by decide +kernel
def numT (n : Int) : Str := Str.ofString (toString n)
def dgs (m : Nat) : List Nat := (Nat.toDigits 10 m).map Char.toNat
theorem numT_pos (m : Nat) : (numT (m : Int)).cps.toList = dgs m := PySem.W.KIN.signs_num m
theorem numT_neg (m : Nat) : (numT (Int.negSucc m)).cps.toList = 45 :: dgs (m + 1) := by
  unfold numT dgs
  rw [Str.ofString_eq_toList]
  show ((("-" ++ Nat.repr (m + 1)).toList.map Char.toNat).toArray).toList = _
  rw [String.toList_append, Nat.toList_repr]
  rfl
theorem dgs_in {m c : Nat} (h : c ∈ dgs m) : 48 ≤ c ∧ c ≤ 57 := by
  obtain ⟨ch, hch, e⟩ := List.mem_map.mp h
  rw [← e]
  exact digit_range (Nat.isDigit_of_mem_toDigits (by decide) (by decide) hch)
theorem dgs_len {m k : Nat} (h0 : 0 < k) (h : m < 10 ^ k) : (dgs m).length ≤ k := by
  unfold dgs
  rw [List.length_map]
  exact (Nat.length_toDigits_le_iff (by decide) h0).mpr h
theorem dgs_ne (m : Nat) : dgs m ≠ [] := by
  intro h
  have e := List.map_eq_nil_iff.mp h
  have := Nat.length_toDigits_pos (b := 10) (n := m)
  rw [e] at this
  exact absurd this (by decide)
theorem dgs_app {m : Nat} (h : 10 ≤ m) : dgs m = dgs (m / 10) ++ dgs (m % 10) := by
  have hm : m % 10 < 10 := Nat.mod_lt m (by decide)
  have t : Nat.toDigits 10 (m / 10) ++ Nat.toDigits 10 (m % 10) = Nat.toDigits 10 (10 * (m / 10) + m % 10) := Nat.toDigits_append_toDigits (by decide) (by omega) hm
  rw [Nat.div_add_mod] at t
  unfold dgs
  rw [← t, List.map_append]
theorem dgs_small : ∀ m : Nat, m < 10 → dgs m = [48 + m] := by decide +kernel
theorem dgs_zero : ∀ (m : Nat), (dgs m).head? = some 48 → m = 0 := by
  intro m
  induction m using Nat.strongRecOn with
  | _ m ih =>
    intro h
    by_cases hm : m < 10
    · rw [dgs_small m hm] at h
      injection h with h
      omega
    · rw [dgs_app (by omega)] at h
      cases e : dgs (m / 10) with
      | nil => exact absurd e (dgs_ne _)
      | cons c r =>
        rw [e] at h
        have := ih (m / 10) (by omega) (by rw [e]; exact h)
        omega
theorem made_dgs {t : Str} {m : Nat} (h : t.cps.toList = dgs m) : madeOf t "0123456789" = true := by
  unfold madeOf
  rw [Bool.and_eq_true]
  constructor
  · rw [Bool.not_eq_true', decide_eq_false_iff_not]
    intro e
    injection e with e
    have e2 : t.cps.toList = [] := by rw [e]; decide +kernel
    exact dgs_ne m (by rw [← h, e2])
  · rw [h, List.all_map, List.all_eq_true]
    intro c hc
    exact figs_mem (dgs_in hc)
theorem all_ascii {t : Str} (h : ∀ c ∈ t.cps.toList, c < 128) : t.cps.all (· < 128) = true := by
  rw [← Array.all_toList, List.all_eq_true]
  intro c hc
  exact decide_eq_true (h c hc)
theorem num_back {n : Int} (h : n.natAbs < 10 ^ 100) : readNum (numT n) = some n ∧ okN (numT n) = true ∧ 32 ∉ (numT n).cps.toList ∧ (numT n).length ≤ 101 := by
  have tl : ∀ t : Str, t.length = t.cps.toList.length := fun t => Array.length_toList.symm
  cases n with
  | ofNat m =>
    have hs := numT_pos m
    have hl : (numT (m : Int)).length ≤ 100 := by rw [tl, hs]; exact dgs_len (by decide) h
    have hi : PySem.intText? (numT (m : Int)) = some (m : Int) := by
      have e := PySem.intText_digits (x := numT (m : Int)) (by rw [hs]; exact fun c hc => dgs_in hc) (by rw [hs]; exact dgs_ne m) (by omega)
      rw [e, hs]
      exact congrArg (fun z : Nat => some (z : Int)) (PySem.W.KIN.val_back m)
    show readNum (numT (m : Int)) = some (m : Int) ∧ okN (numT (m : Int)) = true ∧ 32 ∉ (numT (m : Int)).cps.toList ∧ (numT (m : Int)).length ≤ 101
    have hf : figsOf (numT (m : Int)) = numT (m : Int) := by
      unfold figsOf
      cases e : dgs m with
      | nil => exact absurd e (dgs_ne m)
      | cons c r =>
        have hc := dgs_in (m := m) (c := c) (by rw [e]; simp)
        rw [minus_one, starts_one (hs.trans e), if_neg (by rw [decide_eq_true_eq]; omega)]
    have hm := made_dgs hs
    refine ⟨?_, ?_, ?_, by omega⟩
    · unfold readNum
      rw [hf, if_pos hm]
      refine (if_neg ?_).trans hi
      rw [Bool.and_eq_true]
      rintro ⟨h1, h2⟩
      cases e : dgs m with
      | nil => exact absurd e (dgs_ne m)
      | cons c r =>
        rw [zero_one, starts_one (hs.trans e), decide_eq_true_eq] at h1
        have := dgs_zero m (by rw [e, h1]; rfl)
        subst this
        rw [Bool.not_eq_true', decide_eq_false_iff_not] at h2
        exact h2 (by decide +kernel)
    · unfold okN plainT
      rw [hi, all_ascii (by rw [hs]; intro c hc; have := dgs_in hc; omega), decide_eq_true (show (numT (m : Int)).length ≤ 640 by omega)]
      simp
    · rw [hs]
      intro hc
      have := dgs_in hc
      omega
  | negSucc m =>
    have hs := numT_neg m
    have hl : (numT (Int.negSucc m)).length ≤ 101 := by rw [tl, hs]; have := dgs_len (m := m + 1) (k := 100) (by decide) h; simp; omega
    have hi : PySem.intText? (numT (Int.negSucc m)) = some (Int.negSucc m) := by
      have e := PySem.intText_neg (x := numT (Int.negSucc m)) hs (fun c hc => dgs_in hc) (dgs_ne _) (by omega)
      rw [e]
      have v := PySem.W.KIN.val_back (m + 1)
      unfold dgs
      rw [v]
      rfl
    have hf : (figsOf (numT (Int.negSucc m))).cps.toList = dgs (m + 1) := by
      unfold figsOf
      rw [minus_one, starts_one hs, if_pos (by decide), hs]
      rfl
    have hm := made_dgs hf
    refine ⟨?_, ?_, ?_, hl⟩
    · unfold readNum
      rw [if_pos hm]
      refine (if_neg ?_).trans hi
      rw [Bool.and_eq_true]
      rintro ⟨h1, h2⟩
      cases e : dgs (m + 1) with
      | nil => exact absurd e (dgs_ne _)
      | cons c r =>
        rw [zero_one, starts_one (hf.trans e), decide_eq_true_eq] at h1
        have := dgs_zero (m + 1) (by rw [e, h1]; rfl)
        omega
    · unfold okN plainT
      rw [hi, all_ascii (by
        rw [hs]
        intro c hc
        rcases List.mem_cons.mp hc with rfl | hc
        · decide
        · have := dgs_in hc
          omega), decide_eq_true (show (numT (Int.negSucc m)).length ≤ 640 by omega)]
      simp
    · rw [hs]
      intro hc
      rcases List.mem_cons.mp hc with hc | hc
      · omega
      · have := dgs_in hc
        omega
end K12
namespace K12
open PySem PySem.Spec PyProof.Rows L2
inductive Dd where
  | mark (n : Int) | event (w : Str) (a b : Int)
  deriving DecidableEq
def Dd.row : Dd → List V
  | .mark n => [.str "mark", .int n]
  | .event w a b => [.str "event", .str w, .int a, .int b]
def isName (t : Str) : Bool := madeOf t "abcdefghijklmnopqrstuvwxyz"
def readP : List Str → Option Dd
  | [k, a] => if k = "mark" then (readNum a).map Dd.mark else none
  | [k, n, a, b] => if k = "event" then (if isName n = true then (readNum a).bind fun x => (readNum b).map fun y => Dd.event n x y else none) else none
  | _ => none
def readD (z : Str) : Option Dd := readP (Txt.split z " ")
def okL (z : Str) : Bool := decide (z.length ≤ 640) && (Txt.split z " ").all okN
def Word (w : Str) : Prop := w.cps.toList ≠ [] ∧ (∀ c ∈ w.cps.toList, 97 ≤ c ∧ c ≤ 122) ∧ w.length ≤ 20
def Dd.Good : Dd → Prop
  | .mark n => n.natAbs < 10 ^ 100
  | .event w a b => Word w ∧ a.natAbs < 10 ^ 100 ∧ b.natAbs < 10 ^ 100
def Dd.parts : Dd → List Str
  | .mark n => ["mark", numT n]
  | .event w a b => ["event", w, numT a, numT b]
def Dd.line (d : Dd) : Str := Str.join " " d.parts
theorem lets_mem {c : Nat} (h : 97 ≤ c ∧ c ≤ 122) : inS "abcdefghijklmnopqrstuvwxyz" c = true := by
  rw [inS_mem]
  have e : ("abcdefghijklmnopqrstuvwxyz" : Str).cps.toList = (List.range 26).map (97 + ·) := by decide +kernel
  rw [e]
  refine decide_eq_true (List.mem_map.mpr ⟨c - 97, List.mem_range.mpr (by omega), by omega⟩)
theorem figs_no {c : Nat} (h : 97 ≤ c) : inS "0123456789" c = false := by
  rw [inS_mem]
  have e : ("0123456789" : Str).cps.toList = [48, 49, 50, 51, 52, 53, 54, 55, 56, 57] := by decide +kernel
  rw [e, decide_eq_false_iff_not]
  simp
  omega
theorem word_name {w : Str} (h : Word w) : isName w = true ∧ okN w = true ∧ 32 ∉ w.cps.toList := by
  obtain ⟨h1, h2, h3⟩ := h
  refine ⟨?_, ?_, ?_⟩
  · unfold isName madeOf
    rw [Bool.and_eq_true]
    constructor
    · rw [Bool.not_eq_true', decide_eq_false_iff_not]
      intro e
      injection e with e
      exact h1 (by rw [e]; decide +kernel)
    · rw [List.all_map, List.all_eq_true]
      intro c hc
      exact lets_mem (h2 c hc)
  · unfold okN plainT
    rw [all_ascii (fun c hc => by have := h2 c hc; omega), decide_eq_true (show w.length ≤ 640 by omega)]
    have hm : madeOf (figsOf w) "0123456789" = false := by
      cases e : w.cps.toList with
      | nil => exact absurd e h1
      | cons c r =>
        have hc := h2 c (by rw [e]; simp)
        have hf : figsOf w = w := by
          unfold figsOf
          rw [minus_one, starts_one e, if_neg (by rw [decide_eq_true_eq]; omega)]
        unfold madeOf
        rw [hf, e, List.map_cons, List.all_cons, figs_no hc.1]
        simp
    rw [hm]
    rfl
  · intro hc
    have := h2 _ hc
    omega
theorem join_len (z : Str) : ∀ ts : List Str, (Str.join z ts).length ≤ (ts.map (·.length)).sum + ts.length * z.length := StrLaws.join_length_le z
theorem okN_mark : okN "mark" = true ∧ 32 ∉ ("mark" : Str).cps.toList ∧ ("mark" : Str).length = 4 := by decide +kernel
theorem okN_event : okN "event" = true ∧ 32 ∉ ("event" : Str).cps.toList ∧ ("event" : Str).length = 5 := by decide +kernel
theorem sp_len : (" " : Str).length = 1 := by decide +kernel
theorem parts_ok {d : Dd} (h : d.Good) : (∀ p ∈ d.parts, okN p = true ∧ 32 ∉ p.cps.toList) ∧ d.parts ≠ [] ∧ (d.parts.map (·.length)).sum + d.parts.length * (" " : Str).length ≤ 640 := by
  rw [sp_len]
  cases d with
  | mark n =>
    obtain ⟨_, a2, a3, a4⟩ := num_back (show n.natAbs < 10 ^ 100 from h)
    refine ⟨?_, by simp [Dd.parts], ?_⟩
    · intro p hp
      rcases List.mem_cons.mp hp with rfl | hp
      · exact ⟨okN_mark.1, okN_mark.2.1⟩
      · cases List.mem_singleton.mp hp
        exact ⟨a2, a3⟩
    · have := okN_mark.2.2
      simp only [Dd.parts, List.map_cons, List.map_nil, List.sum_cons, List.sum_nil, List.length_cons, List.length_nil]
      omega
  | event w a b =>
    obtain ⟨hw, ha, hb⟩ := h
    obtain ⟨_, a2, a3, a4⟩ := num_back ha
    obtain ⟨_, b2, b3, b4⟩ := num_back hb
    obtain ⟨_, w2, w3⟩ := word_name hw
    refine ⟨?_, by simp [Dd.parts], ?_⟩
    · intro p hp
      rcases List.mem_cons.mp hp with rfl | hp
      · exact ⟨okN_event.1, okN_event.2.1⟩
      rcases List.mem_cons.mp hp with rfl | hp
      · exact ⟨w2, w3⟩
      rcases List.mem_cons.mp hp with rfl | hp
      · exact ⟨a2, a3⟩
      · cases List.mem_singleton.mp hp
        exact ⟨b2, b3⟩
    · have := okN_event.2.2
      have := hw.2.2
      simp only [Dd.parts, List.map_cons, List.map_nil, List.sum_cons, List.sum_nil, List.length_cons, List.length_nil]
      omega
theorem line_split {d : Dd} (h : d.Good) : Txt.split d.line " " = d.parts := split_sp (parts_ok h).2.1 fun p hp => ((parts_ok h).1 p hp).2
theorem line_ok {d : Dd} (h : d.Good) : okL d.line = true ∧ readD d.line = some d := by
  constructor
  · unfold okL
    rw [line_split h, Bool.and_eq_true]
    exact ⟨decide_eq_true (Nat.le_trans (join_len _ _) (parts_ok h).2.2), List.all_eq_true.mpr fun p hp => ((parts_ok h).1 p hp).1⟩
  · unfold readD
    rw [line_split h]
    cases d with
    | mark n =>
      show (if ("mark" : Str) = "mark" then (readNum (numT n)).map Dd.mark else none) = _
      rw [if_pos rfl, (num_back (show n.natAbs < 10 ^ 100 from h)).1]
      rfl
    | event w a b =>
      obtain ⟨hw, ha, hb⟩ := h
      show (if ("event" : Str) = "event" then (if isName w = true then (readNum (numT a)).bind fun x => (readNum (numT b)).map fun y => Dd.event w x y else none) else none) = _
      rw [if_pos rfl, if_pos (word_name hw).1, (num_back ha).1, (num_back hb).1]
      rfl
def bad1 : List Str := ["", "mark", "mark ", "mark 1 2", "mark 01", "mark -0", "mark +1", "mark --1", "Mark 1", "mark x"]
def bad2 : List Str := ["event a 1", "event a 1 2 3", "event A 1 2", "event  1 2", "event a1 1 2", "event a 1 "]
def bad3 : List Str := [" mark 1", "mark 1 ", "mark  1", "event a 1 02", "events a 1 2", "a 1 2", "mark -"]
def badL : List Str := bad1 ++ bad2 ++ bad3
theorem bad_all : badL.all (fun z => okL z && (readD z).isNone) = true := by decide +kernel
theorem mark_12 : okL "mark 1" = true ∧ readD "mark 1" = some (.mark 1) ∧ okL "mark 2" = true ∧ readD "mark 2" = some (.mark 2) := by decide +kernel
inductive Pl where
  | fixed (l g : Int) | sliding (l s g : Int) | pauses (l g : Int)
  deriving DecidableEq
def Pl.row : Pl → List V
  | .fixed l g => [.str "fixed", .int l, .int g]
  | .sliding l s g => [.str "sliding", .int l, .int s, .int g]
  | .pauses l g => [.str "pauses", .int l, .int g]
def Pl.kind : Pl → Str
  | .fixed _ _ => "fixed"
  | .sliding _ _ _ => "sliding"
  | .pauses _ _ => "pauses"
def Pl.len : Pl → Int
  | .fixed l _ => l
  | .sliding l _ _ => l
  | .pauses l _ => l
def Pl.stp : Pl → Int
  | .fixed l _ => l
  | .sliding _ s _ => s
  | .pauses l _ => l
def Pl.grace : Pl → Int
  | .fixed _ g => g
  | .sliding _ _ g => g
  | .pauses _ g => g
def Pl.bad (p : Pl) : Bool := decide (p.len < 1) || decide (p.stp < 1) || decide (p.grace < 0) || decide (100 * p.stp < p.len)
def nums : List Str → Option (List Int)
  | [] => some []
  | t :: r => (readNum t).bind fun n => (nums r).map (n :: ·)
def nb (k : Str) : Option Int := if k = "fixed" then some 2 else if k = "sliding" then some 3 else if k = "pauses" then some 2 else none
def mkPl (k : Str) : List Int → Option Pl
  | [l, g] => if k = "fixed" then some (.fixed l g) else if k = "pauses" then some (.pauses l g) else none
  | [l, s, g] => if k = "sliding" then some (.sliding l s g) else none
  | _ => none
def readPl (z : Str) : Option Pl := match Txt.split z " " with
  | [] => none
  | k :: r => if nb k = some (r.length : Int) then (nums r).bind (mkPl k) else none
def keyOk (z : Str) : Bool := match Txt.split z " " with
  | [] => false
  | k :: _ => (["fixed", "sliding", "pauses", "", "Fixed"] : List Str).contains k
def plans0 : List (Str × (Str ⊕ Pl)) := [("fixed 1 0", .inr (.fixed 1 0)), ("pauses 10 3", .inr (.pauses 10 3)), ("sliding 100 1 0", .inr (.sliding 100 1 0)), ("sliding 3 1000000 1000000", .inr (.sliding 3 1000000 1000000)),
  ("fixed 0 0", .inl "bad plan"), ("fixed -1 0", .inl "bad plan"), ("pauses 1 -1", .inl "bad plan"), ("sliding 101 1 0", .inl "bad plan"), ("sliding 1 0 0", .inl "bad plan")]
def no1 : List Str := ["", "fixed", "fixed 1", "fixed 1 0 0", "sliding 1 1", "pauses 1 1 1", "Fixed 1 0"]
def no2 : List Str := ["fixed 01 0", "fixed 1 0 ", "fixed  1 0", "fixed +1 0", "fixed 1 -0", "fixed x 0"]
def noL (z : Str) : Str × (Str ⊕ Pl) := (z, .inl "no line")
def plansL : List (Str × (Str ⊕ Pl)) := plans0 ++ no1.map noL ++ no2.map noL
def planDue (p : Str × (Str ⊕ Pl)) : Bool := match p.2, readPl p.1 with
  | .inr pl, some q => decide (pl = q) && !q.bad
  | .inr _, none => false
  | .inl s, some q => q.bad && decide (s = "bad plan")
  | .inl s, none => decide (s = "no line")
theorem plans_all : plansL.all (fun p => okL p.1 && keyOk p.1 && planDue p) = true := by decide +kernel
end K12
namespace K1
open PySem PySem.Spec PyProof.Rows L2
def top (i : Nat) : Stmt := PySem.Challenge.pw_weirgauge_k12_lines.main.body.getD i (.Pass ⟨0, 0, 0, 0⟩)
abbrev st_kind_of : Stmt := top 8
theorem sc_kind_of : FnScope ["plan"] ["plan"] (defScope st_kind_of) := ⟨rfl, rfl, rfl, by decide +kernel, rfl, by decide +kernel, by decide +kernel⟩
theorem bd_kind_of (kV doc pm : Value) (an : Option Addr) (cdv ct : Value) (us : List Value) (hl : us.length = [("plan" : Str)].length) : bindArgs (PySem.W.fnOf "kind_of" "kind_of" (defArgs st_kind_of) (defBody st_kind_of) (defScope st_kind_of) .none kV doc pm an cdv ct) ⟨us, []⟩ = pure ((["plan"] : List Str).zip us) := by
  obtain ⟨_, rfl⟩ := len1 hl
  rfl
abbrev st_length_of : Stmt := top 9
theorem sc_length_of : FnScope ["plan"] ["plan"] (defScope st_length_of) := ⟨rfl, rfl, rfl, by decide +kernel, rfl, by decide +kernel, by decide +kernel⟩
theorem bd_length_of (kV doc pm : Value) (an : Option Addr) (cdv ct : Value) (us : List Value) (hl : us.length = [("plan" : Str)].length) : bindArgs (PySem.W.fnOf "length_of" "length_of" (defArgs st_length_of) (defBody st_length_of) (defScope st_length_of) .none kV doc pm an cdv ct) ⟨us, []⟩ = pure ((["plan"] : List Str).zip us) := by
  obtain ⟨_, rfl⟩ := len1 hl
  rfl
abbrev st_step_of : Stmt := top 10
theorem sc_step_of : FnScope ["plan"] ["plan"] (defScope st_step_of) := ⟨rfl, rfl, rfl, by decide +kernel, rfl, by decide +kernel, by decide +kernel⟩
theorem bd_step_of (kV doc pm : Value) (an : Option Addr) (cdv ct : Value) (us : List Value) (hl : us.length = [("plan" : Str)].length) : bindArgs (PySem.W.fnOf "step_of" "step_of" (defArgs st_step_of) (defBody st_step_of) (defScope st_step_of) .none kV doc pm an cdv ct) ⟨us, []⟩ = pure ((["plan"] : List Str).zip us) := by
  obtain ⟨_, rfl⟩ := len1 hl
  rfl
abbrev st_grace_of : Stmt := top 11
theorem sc_grace_of : FnScope ["plan"] ["plan"] (defScope st_grace_of) := ⟨rfl, rfl, rfl, by decide +kernel, rfl, by decide +kernel, by decide +kernel⟩
theorem bd_grace_of (kV doc pm : Value) (an : Option Addr) (cdv ct : Value) (us : List Value) (hl : us.length = [("plan" : Str)].length) : bindArgs (PySem.W.fnOf "grace_of" "grace_of" (defArgs st_grace_of) (defBody st_grace_of) (defScope st_grace_of) .none kV doc pm an cdv ct) ⟨us, []⟩ = pure ((["plan"] : List Str).zip us) := by
  obtain ⟨_, rfl⟩ := len1 hl
  rfl
abbrev st_check_plan : Stmt := top 14
theorem sc_check_plan : FnScope ["plan", "length", "step"] ["plan"] (defScope st_check_plan) := ⟨rfl, rfl, rfl, by decide +kernel, rfl, by decide +kernel, by decide +kernel⟩
theorem bd_check_plan (kV doc pm : Value) (an : Option Addr) (cdv ct : Value) (us : List Value) (hl : us.length = [("plan" : Str)].length) : bindArgs (PySem.W.fnOf "check_plan" "check_plan" (defArgs st_check_plan) (defBody st_check_plan) (defScope st_check_plan) .none kV doc pm an cdv ct) ⟨us, []⟩ = pure ((["plan"] : List Str).zip us) := by
  obtain ⟨_, rfl⟩ := len1 hl
  rfl
abbrev st_shown : Stmt := top 19
theorem sc_shown : FnScope ["deed"] ["deed"] (defScope st_shown) := ⟨rfl, rfl, rfl, by decide +kernel, rfl, by decide +kernel, by decide +kernel⟩
theorem bd_shown (kV doc pm : Value) (an : Option Addr) (cdv ct : Value) (us : List Value) (hl : us.length = [("deed" : Str)].length) : bindArgs (PySem.W.fnOf "shown" "shown" (defArgs st_shown) (defBody st_shown) (defScope st_shown) .none kV doc pm an cdv ct) ⟨us, []⟩ = pure ((["deed"] : List Str).zip us) := by
  obtain ⟨_, rfl⟩ := len1 hl
  rfl
abbrev st_read : Stmt := top 20
theorem sc_read : FnScope ["line", "parts"] ["line"] (defScope st_read) := ⟨rfl, rfl, rfl, by decide +kernel, rfl, by decide +kernel, by decide +kernel⟩
theorem bd_read (kV doc pm : Value) (an : Option Addr) (cdv ct : Value) (us : List Value) (hl : us.length = [("line" : Str)].length) : bindArgs (PySem.W.fnOf "read" "read" (defArgs st_read) (defBody st_read) (defScope st_read) .none kV doc pm an cdv ct) ⟨us, []⟩ = pure ((["line"] : List Str).zip us) := by
  obtain ⟨_, rfl⟩ := len1 hl
  rfl
abbrev st_read_all : Stmt := top 21
theorem sc_read_all : FnScope ["lines"] ["lines"] (defScope st_read_all) := ⟨rfl, rfl, rfl, by decide +kernel, rfl, by decide +kernel, by decide +kernel⟩
theorem bd_read_all (kV doc pm : Value) (an : Option Addr) (cdv ct : Value) (us : List Value) (hl : us.length = [("lines" : Str)].length) : bindArgs (PySem.W.fnOf "read_all" "read_all" (defArgs st_read_all) (defBody st_read_all) (defScope st_read_all) .none kV doc pm an cdv ct) ⟨us, []⟩ = pure ((["lines"] : List Str).zip us) := by
  obtain ⟨_, rfl⟩ := len1 hl
  rfl
abbrev st_read_plan : Stmt := top 22
theorem sc_read_plan : FnScope ["line", "parts", "plan"] ["line"] (defScope st_read_plan) := ⟨rfl, rfl, rfl, by decide +kernel, rfl, by decide +kernel, by decide +kernel⟩
theorem bd_read_plan (kV doc pm : Value) (an : Option Addr) (cdv ct : Value) (us : List Value) (hl : us.length = [("line" : Str)].length) : bindArgs (PySem.W.fnOf "read_plan" "read_plan" (defArgs st_read_plan) (defBody st_read_plan) (defScope st_read_plan) .none kV doc pm an cdv ct) ⟨us, []⟩ = pure ((["line"] : List Str).zip us) := by
  obtain ⟨_, rfl⟩ := len1 hl
  rfl
abbrev st_read_name : Stmt := top 23
theorem sc_read_name : FnScope ["text"] ["text"] (defScope st_read_name) := ⟨rfl, rfl, rfl, by decide +kernel, rfl, by decide +kernel, by decide +kernel⟩
theorem bd_read_name (kV doc pm : Value) (an : Option Addr) (cdv ct : Value) (us : List Value) (hl : us.length = [("text" : Str)].length) : bindArgs (PySem.W.fnOf "read_name" "read_name" (defArgs st_read_name) (defBody st_read_name) (defScope st_read_name) .none kV doc pm an cdv ct) ⟨us, []⟩ = pure ((["text"] : List Str).zip us) := by
  obtain ⟨_, rfl⟩ := len1 hl
  rfl
abbrev st_read_number : Stmt := top 24
theorem sc_read_number : FnScope ["text", "figures"] ["text"] (defScope st_read_number) := ⟨rfl, rfl, rfl, by decide +kernel, rfl, by decide +kernel, by decide +kernel⟩
theorem bd_read_number (kV doc pm : Value) (an : Option Addr) (cdv ct : Value) (us : List Value) (hl : us.length = [("text" : Str)].length) : bindArgs (PySem.W.fnOf "read_number" "read_number" (defArgs st_read_number) (defBody st_read_number) (defScope st_read_number) .none kV doc pm an cdv ct) ⟨us, []⟩ = pure ((["text"] : List Str).zip us) := by
  obtain ⟨_, rfl⟩ := len1 hl
  rfl
abbrev st_is_made_of : Stmt := top 25
theorem sc_is_made_of : FnScope ["text", "signs"] ["text", "signs"] (defScope st_is_made_of) := ⟨rfl, rfl, rfl, by decide +kernel, rfl, by decide +kernel, by decide +kernel⟩
theorem bd_is_made_of (kV doc pm : Value) (an : Option Addr) (cdv ct : Value) (us : List Value) (hl : us.length = [("text" : Str), ("signs" : Str)].length) : bindArgs (PySem.W.fnOf "is_made_of" "is_made_of" (defArgs st_is_made_of) (defBody st_is_made_of) (defScope st_is_made_of) .none kV doc pm an cdv ct) ⟨us, []⟩ = pure ((["text", "signs"] : List Str).zip us) := by
  obtain ⟨_, _, rfl⟩ := len2 hl
  rfl
abbrev st__law_whole : Stmt := top 27
theorem sc__law_whole : FnScope ["_law_found"] ["_law_found"] (defScope st__law_whole) := ⟨rfl, rfl, rfl, by decide +kernel, rfl, by decide +kernel, by decide +kernel⟩
theorem bd__law_whole (kV doc pm : Value) (an : Option Addr) (cdv ct : Value) (us : List Value) (hl : us.length = [("_law_found" : Str)].length) : bindArgs (PySem.W.fnOf "_law_whole" "_law_whole" (defArgs st__law_whole) (defBody st__law_whole) (defScope st__law_whole) .none kV doc pm an cdv ct) ⟨us, []⟩ = pure ((["_law_found"] : List Str).zip us) := by
  obtain ⟨_, rfl⟩ := len1 hl
  rfl
abbrev st__law_deed_of : Stmt := top 28
theorem sc__law_deed_of : FnScope ["_law_cell", "_law_large", "_law_number", "_law_other", "_law_word", "_law_k"] ["_law_cell"] (defScope st__law_deed_of) := ⟨rfl, rfl, rfl, by decide +kernel, rfl, by decide +kernel, by decide +kernel⟩
theorem bd__law_deed_of (kV doc pm : Value) (an : Option Addr) (cdv ct : Value) (us : List Value) (hl : us.length = [("_law_cell" : Str)].length) : bindArgs (PySem.W.fnOf "_law_deed_of" "_law_deed_of" (defArgs st__law_deed_of) (defBody st__law_deed_of) (defScope st__law_deed_of) .none kV doc pm an cdv ct) ⟨us, []⟩ = pure ((["_law_cell"] : List Str).zip us) := by
  obtain ⟨_, rfl⟩ := len1 hl
  rfl
abbrev st__law_is_deed : Stmt := top 29
theorem sc__law_is_deed : FnScope ["_law_found", "_law_due", "_law_k"] ["_law_found", "_law_due"] (defScope st__law_is_deed) := ⟨rfl, rfl, rfl, by decide +kernel, rfl, by decide +kernel, by decide +kernel⟩
theorem bd__law_is_deed (kV doc pm : Value) (an : Option Addr) (cdv ct : Value) (us : List Value) (hl : us.length = [("_law_found" : Str), ("_law_due" : Str)].length) : bindArgs (PySem.W.fnOf "_law_is_deed" "_law_is_deed" (defArgs st__law_is_deed) (defBody st__law_is_deed) (defScope st__law_is_deed) .none kV doc pm an cdv ct) ⟨us, []⟩ = pure ((["_law_found", "_law_due"] : List Str).zip us) := by
  obtain ⟨_, _, rfl⟩ := len2 hl
  rfl
abbrev st__law_line_for : Stmt := top 30
theorem sc__law_line_for : FnScope ["_law_deed"] ["_law_deed"] (defScope st__law_line_for) := ⟨rfl, rfl, rfl, by decide +kernel, rfl, by decide +kernel, by decide +kernel⟩
theorem bd__law_line_for (kV doc pm : Value) (an : Option Addr) (cdv ct : Value) (us : List Value) (hl : us.length = [("_law_deed" : Str)].length) : bindArgs (PySem.W.fnOf "_law_line_for" "_law_line_for" (defArgs st__law_line_for) (defBody st__law_line_for) (defScope st__law_line_for) .none kV doc pm an cdv ct) ⟨us, []⟩ = pure ((["_law_deed"] : List Str).zip us) := by
  obtain ⟨_, rfl⟩ := len1 hl
  rfl
abbrev st__law_refused : Stmt := top 31
theorem sc__law_refused : FnScope ["_law_which", "_law_line", "_law_word"] ["_law_which", "_law_line"] (defScope st__law_refused) := ⟨rfl, rfl, rfl, by decide +kernel, rfl, by decide +kernel, by decide +kernel⟩
theorem bd__law_refused (kV doc pm : Value) (an : Option Addr) (cdv ct : Value) (us : List Value) (hl : us.length = [("_law_which" : Str), ("_law_line" : Str)].length) : bindArgs (PySem.W.fnOf "_law_refused" "_law_refused" (defArgs st__law_refused) (defBody st__law_refused) (defScope st__law_refused) .none kV doc pm an cdv ct) ⟨us, []⟩ = pure ((["_law_which", "_law_line"] : List Str).zip us) := by
  obtain ⟨_, _, rfl⟩ := len2 hl
  rfl
abbrev st__law_under_base : Stmt := top 32
theorem sc__law_under_base : FnScope ["_law_line", "e", "_law_kinds"] ["_law_line"] (defScope st__law_under_base) := ⟨rfl, rfl, rfl, by decide +kernel, rfl, by decide +kernel, by decide +kernel⟩
theorem bd__law_under_base (kV doc pm : Value) (an : Option Addr) (cdv ct : Value) (us : List Value) (hl : us.length = [("_law_line" : Str)].length) : bindArgs (PySem.W.fnOf "_law_under_base" "_law_under_base" (defArgs st__law_under_base) (defBody st__law_under_base) (defScope st__law_under_base) .none kV doc pm an cdv ct) ⟨us, []⟩ = pure ((["_law_line"] : List Str).zip us) := by
  obtain ⟨_, rfl⟩ := len1 hl
  rfl
abbrev st__law_plans : Stmt := top 33
theorem sc__law_plans : FnScope ["_law_rows", "_law_line"] [] (defScope st__law_plans) := ⟨rfl, rfl, rfl, by decide +kernel, rfl, by decide +kernel, by decide +kernel⟩
theorem bd__law_plans (kV doc pm : Value) (an : Option Addr) (cdv ct : Value) (us : List Value) (hl : us.length = ([] : List Str).length) : bindArgs (PySem.W.fnOf "_law_plans" "_law_plans" (defArgs st__law_plans) (defBody st__law_plans) (defScope st__law_plans) .none kV doc pm an cdv ct) ⟨us, []⟩ = pure (([] : List Str).zip us) := by
  cases us with
  | nil => rfl
  | cons a l => cases hl
abbrev st_law : Stmt := top 34
theorem sc_law : FnScope ["_law_script", "_law_deeds", "_law_lines", "_law_k", "_law_deed", "_law_line", "_law_found", "_law_back", "_law_bad", "_law_which", "_law_due"] ["_law_script"] (defScope st_law) := ⟨rfl, rfl, rfl, by decide +kernel, rfl, by decide +kernel, by decide +kernel⟩
theorem bd_law (kV doc pm : Value) (an : Option Addr) (cdv ct : Value) (us : List Value) (hl : us.length = [("_law_script" : Str)].length) : bindArgs (PySem.W.fnOf "law" "law" (defArgs st_law) (defBody st_law) (defScope st_law) .none kV doc pm an cdv ct) ⟨us, []⟩ = pure ((["_law_script"] : List Str).zip us) := by
  obtain ⟨_, rfl⟩ := len1 hl
  rfl
structure Bi (K : PySem.W.Frag) : Prop where
  b_ValueError : PySem.W.nsIn K mainGlobals "ValueError" = some none
  b_all : PySem.W.nsIn K mainGlobals "all" = some none
  b_bool : PySem.W.nsIn K mainGlobals "bool" = some none
  b_int : PySem.W.nsIn K mainGlobals "int" = some none
  b_isinstance : PySem.W.nsIn K mainGlobals "isinstance" = some none
  b_len : PySem.W.nsIn K mainGlobals "len" = some none
  b_list : PySem.W.nsIn K mainGlobals "list" = some none
  b_min : PySem.W.nsIn K mainGlobals "min" = some none
  b_range : PySem.W.nsIn K mainGlobals "range" = some none
  b_str : PySem.W.nsIn K mainGlobals "str" = some none
  b_tuple : PySem.W.nsIn K mainGlobals "tuple" = some none
def spLaw (K : PySem.W.Frag) : Sp := fun vs H Q _ => ∃ (a : Addr) (ns : List Int), vs = [.ref a] ∧ SqL K H a (ns.map V.int) ∧ ns.length ≤ 63 ∧ ∀ H', Q (.bl true) H'
end K1
namespace K12
open PySem PySem.Spec PyProof.Rows L2 K1
theorem n_fs : ¬ (("fixed" : Str) = "sliding") := by decide +kernel
theorem n_ps : ¬ (("pauses" : Str) = "sliding") := by decide +kernel
theorem dstr {a b : Str} (h : decide (V.str a = V.str b) = true) : a = b := by
  have h' := of_decide_eq_true h
  injection h'
theorem row_0 (p : Pl) : atI p.row 0 = some (.str p.kind) := by cases p <;> rfl
theorem row_1 (p : Pl) : atI p.row 1 = some (.int p.len) := by cases p <;> rfl
theorem row_m1 (p : Pl) : atI p.row (-1) = some (.int p.grace) := by cases p <;> rfl
def spKind (K : PySem.W.Frag) : Sp := fun vs H Q _ => ∃ (p : Addr) (pl : Pl), vs = [.ref p] ∧ SqT K H p pl.row ∧ Q (.str pl.kind) H
def spLen (K : PySem.W.Frag) : Sp := fun vs H Q _ => ∃ (p : Addr) (pl : Pl), vs = [.ref p] ∧ SqT K H p pl.row ∧ Q (.int pl.len) H
def spStp (K : PySem.W.Frag) : Sp := fun vs H Q _ => ∃ (p : Addr) (pl : Pl), vs = [.ref p] ∧ SqT K H p pl.row ∧ Q (.int pl.stp) H
def spGrace (K : PySem.W.Frag) : Sp := fun vs H Q _ => ∃ (p : Addr) (pl : Pl), vs = [.ref p] ∧ SqT K H p pl.row ∧ Q (.int pl.grace) H
def spChk (K : PySem.W.Frag) (B : Addr) : Sp := fun vs H Q E => ∃ (p : Addr) (pl : Pl), vs = [.ref p] ∧ SqT K H p pl.row ∧ (pl.bad = true → E (.ref B) none H) ∧ (pl.bad = false → Q .non H)
def spMade : Sp := fun vs H Q _ => ∃ t s : Str, vs = [.str t, .str s] ∧ plainT t = true ∧ ∀ H', Same H H' → Q (.bl (madeOf t s)) H'
theorem plain_len {t : Str} (h : plainT t = true) : t.length ≤ 640 ∧ t.cps.all (· < 128) = true := by
  unfold plainT at h
  rw [Bool.and_eq_true, decide_eq_true_eq] at h
  exact ⟨h.2, h.1⟩
section
variable {P : Program} {w : World} {K : PySem.W.Frag} {mg : Str → Option Value} {C B NL : Addr}
theorem f_kind (D : DefIn K "kind_of" st_kind_of) (M : MG K mg) : FnB P w K mg "kind_of" ["plan"] 1 (spKind K) := by
  refine D.fn M sc_kind_of bd_kind_of (fun vs H Q E h => ?_) (fun f base cdv A outer s H vs Q E hr h => ?_)
  · obtain ⟨p, pl, rfl, _⟩ := h
    rfl
  · obtain ⟨p, pl, rfl, hp, k⟩ := h
    refine ⟨_, (pss_one (ps_ret (pe_ix ix_tup (pv 0) pe_int (fun _ _ => rfl)))), ?_⟩
    exact ⟨_, rfl, p, _, 0, _, rfl, rfl, hp, row_0 pl, k⟩
theorem f_len (D : DefIn K "length_of" st_length_of) (M : MG K mg) : FnB P w K mg "length_of" ["plan"] 1 (spLen K) := by
  refine D.fn M sc_length_of bd_length_of (fun vs H Q E h => ?_) (fun f base cdv A outer s H vs Q E hr h => ?_)
  · obtain ⟨p, pl, rfl, _⟩ := h
    rfl
  · obtain ⟨p, pl, rfl, hp, k⟩ := h
    refine ⟨_, (pss_one (ps_ret (pe_ix ix_tup (pv 0) pe_int (fun _ _ => rfl)))), ?_⟩
    exact ⟨_, rfl, p, _, 1, _, rfl, rfl, hp, row_1 pl, k⟩
theorem f_stp (D : DefIn K "step_of" st_step_of) (M : MG K mg) (G_SLIDING : GlobIs K "SLIDING" (.str "sliding")) (F_kind_of : FnB P w K mg "kind_of" ["plan"] 1 (spKind K)) (F_length_of : FnB P w K mg "length_of" ["plan"] 1 (spLen K)) :
    FnB P w K mg "step_of" ["plan"] 2 (spStp K) := by
  refine D.fn M sc_step_of bd_step_of (fun vs H Q E h => ?_) (fun f base cdv A outer s H vs Q E hr h => ?_)
  · obtain ⟨p, pl, rfl, _⟩ := h
    rfl
  · obtain ⟨p, pl, rfl, hp, k⟩ := h
    refine ⟨_, (pss_cons (ps_if (pt_cmpR op_eq (pcallF F_kind_of (hr.mono (by decide)) rfl (pc (pv 0) pa_nil)) (pe_globC G_SLIDING M rfl) (nomark _)) (pss_one (ps_ret (pe_ix ix_tup (pv 0) pe_int (fun _ _ => rfl)))) pss_nil)
      (pss_one (ps_ret (pcallF F_length_of (hr.mono (by decide)) rfl (pc (pv 0) pa_nil))))), ?_⟩
    refine ⟨_, rfl, p, pl, rfl, hp, rfl, _, rfl, ?_⟩
    refine ite2 (fun h => ?_) (fun h => ?_)
    · have e := dstr h
      cases pl with
      | fixed l g => exact absurd e n_fs
      | pauses l g => exact absurd e n_ps
      | sliding l s g => exact ⟨_, rfl, p, _, 2, _, rfl, rfl, hp, rfl, k⟩
    · refine ⟨_, rfl, p, pl, rfl, hp, ?_⟩
      cases pl with
      | fixed l g => exact k
      | pauses l g => exact k
      | sliding l s g => exact absurd (decide_eq_true rfl) h
theorem f_grace (D : DefIn K "grace_of" st_grace_of) (M : MG K mg) : FnB P w K mg "grace_of" ["plan"] 1 (spGrace K) := by
  refine D.fn M sc_grace_of bd_grace_of (fun vs H Q E h => ?_) (fun f base cdv A outer s H vs Q E hr h => ?_)
  · obtain ⟨p, pl, rfl, _⟩ := h
    rfl
  · obtain ⟨p, pl, rfl, hp, k⟩ := h
    refine ⟨_, (pss_one (ps_ret (pe_ix ix_tup (pv 0) (pe_un uNeg pe_int) (fun _ _ => rfl)))), ?_⟩
    exact ⟨_, rfl, _, rfl, p, _, -1, _, rfl, rfl, hp, row_m1 pl, k⟩
theorem x_chk (D : DefIn K "check_plan" st_check_plan) (M : MG K mg) (G_MOST_STEPS : GlobIs K "MOST_STEPS" (.int 100)) (E_BadPlan : ExcIn K "BadPlan" B) (F_length_of : FnB P w K mg "length_of" ["plan"] 1 (spLen K)) (F_step_of : FnB P w K mg "step_of" ["plan"] 2 (spStp K))
    (F_grace_of : FnB P w K mg "grace_of" ["plan"] 1 (spGrace K)) : FnX P w K mg "check_plan" ["plan"] 3 (spChk K B) := by
  refine D.fnX M sc_check_plan bd_check_plan (fun vs H Q E h => ?_) (fun f base cdv A outer s H vs Q E hr h => ?_)
  · obtain ⟨p, pl, rfl, _⟩ := h
    rfl
  · obtain ⟨p, pl, rfl, hp, kx, k⟩ := h
    refine ⟨_, (pss_cons (pset (i := 1) sc_check_plan.nd rfl (Or.inl rfl) (pcallF F_length_of (hr.mono (by decide)) rfl (pc (pv 0) pa_nil)))
      (pss_cons (pset (i := 2) sc_check_plan.nd rfl (Or.inl rfl) (pcallF F_step_of (hr.mono (by decide)) rfl (pc (pv 0) pa_nil)))
      (pss_cons (ps_if (pt_cmpR oLt (pv 1) pe_int (nomark _)) (pss_one (ps_raise raisesX rfl rfl (M.is _ _ E_BadPlan.at_) E_BadPlan.exc PySem.F.excBase_ValueError (pc pe_str pa_nil))) pss_nil)
      (pss_cons (ps_if (pt_cmpR oLt (pv 2) pe_int (nomark _)) (pss_one (ps_raise raisesX rfl rfl (M.is _ _ E_BadPlan.at_) E_BadPlan.exc PySem.F.excBase_ValueError (pc pe_str pa_nil))) pss_nil)
      (pss_cons (ps_if (pt_cmpR oLt (pcallF F_grace_of (hr.mono (by decide)) rfl (pc (pv 0) pa_nil)) pe_int (nomark _)) (pss_one (ps_raise raisesX rfl rfl (M.is _ _ E_BadPlan.at_) E_BadPlan.exc PySem.F.excBase_ValueError (pc pe_str pa_nil))) pss_nil)
      (pss_one (ps_if (pt_cmpR oGt (pv 1) (pe_op oMul (pe_globC G_MOST_STEPS M rfl) (pv 2)) (nomark _)) (pss_one (ps_raise raisesX rfl rfl (M.is _ _ E_BadPlan.at_) E_BadPlan.exc PySem.F.excBase_ValueError (pc pe_str pa_nil))) pss_nil))))))), ?_⟩
    refine ⟨_, rfl, p, pl, rfl, hp, _, rfl, p, pl, rfl, hp, ?_⟩
    refine ⟨_, rfl, _, _, rfl, rfl, _, rfl, ?_⟩
    refine ite2 (fun h => ⟨by show 1 ≤ sizeLine; decide, kx (by unfold Pl.bad; rw [h]; rfl)⟩) (fun h1 => ?_)
    refine ⟨_, rfl, _, _, rfl, rfl, _, rfl, ?_⟩
    refine ite2 (fun h => ⟨by show 1 ≤ sizeLine; decide, kx (by unfold Pl.bad; rw [h]; simp)⟩) (fun h2 => ?_)
    refine ⟨_, rfl, p, pl, rfl, hp, _, _, rfl, rfl, _, rfl, ?_⟩
    refine ite2 (fun h => ⟨by show 1 ≤ sizeLine; decide, kx (by unfold Pl.bad; rw [h]; simp)⟩) (fun h3 => ?_)
    refine ⟨_, rfl, _, rfl, _, _, rfl, rfl, .inl ⟨by decide, by decide⟩, _, _, rfl, rfl, _, rfl, ?_⟩
    refine ite2 (fun h => ⟨by show 1 ≤ sizeLine; decide, kx (by unfold Pl.bad; rw [h]; simp)⟩) (fun h4 => ?_)
    exact k (by unfold Pl.bad; rw [Bool.eq_false_iff.mpr h1, Bool.eq_false_iff.mpr h2, Bool.eq_false_iff.mpr h3, Bool.eq_false_iff.mpr h4]; rfl)
theorem f_made (D : DefIn K "is_made_of" st_is_made_of) (M : MG K mg) (B : Bi K) : FnB P w K mg "is_made_of" ["text", "signs"] 1 spMade := by
  refine D.fn M sc_is_made_of bd_is_made_of (fun vs H Q E h => ?_) (fun f base cdv A outer s H vs Q E hr h => ?_)
  · obtain ⟨t, s, rfl, _⟩ := h
    rfl
  · obtain ⟨t, sg, rfl, hp, k⟩ := h
    refine ⟨_, (pss_one (ps_ret (pe_and (pe_cmpR op_ne (pv 0) pe_str (nomark _)) (pe_one (pcallB (call_allB rfl) rfl (M.no _ B.b_all) bt_all (pc (pe_comp (NY := ["sign", "signs"]) (js := [none, some 1]) rfl rfl (by with_unfolding_all rfl) (by repeat first | exact ClIn.nil | refine ClIn.cons rfl ?_) (.own (.out rfl rfl (.inl rfl) .nil)) (pi_str (pv 0)) (fun _ _ _ _ _ => ⟨(pg_name (i := 0) (show (["sign", "signs"] : List Str).Nodup from by decide +kernel) rfl (Or.inl rfl)), pif_nil, (pe_cmpR op_in_str (pv 0) (pv 1) (by with_unfolding_all rfl))⟩)) pa_nil)))))), ?_⟩
    refine ⟨_, rfl, rfl, _, rfl, ?_⟩
    refine ite2 (fun h => ?_) (fun h => ?_)
    · have ha := (plain_len hp).2
      have hz := (plain_len hp).1
      have hsz : t.cps.toList.length = t.cps.size := Array.length_toList
      refine ⟨_, rfl, t, rfl, ha, fun l hl => ?_⟩
      refine comp_it (n := t.cps.size) (fun i ys H' => ys = (t.cps.toList.take i).map (fun c => V.bl (inS sg c)) ∧ H' = upd H l (.lst ys)) ⟨rfl, rfl⟩ ?_ ?_ ?_ ?_ ?_
      · rintro i ys H' ⟨_, rfl⟩
        exact upd_same
      · intro i ys H' hi _
        exact hi
      · intro ys H' _
        exact Nat.le_refl _
      · rintro i x ys H' H'' hi ⟨rfl, rfl⟩ ⟨rfl, c, hc, rfl⟩
        have hc' : t.cps.toList[i]? = some c := by rw [← hc]; simp
        refine ⟨weak_set rfl, ?_⟩
        refine ⟨_, rfl, _, rfl, _, _, rfl, rfl, _, upd_same, ?_, ?_⟩
        · rw [List.length_map, List.length_take]
          exact small1000 (by have : t.cps.size = t.length := rfl; omega)
        · refine ⟨?_, ?_⟩
          · rw [List.take_succ, hc', List.map_append]
            rfl
          · rw [upd_upd]
      · rintro ys H' ⟨rfl, rfl⟩
        refine ⟨l, t.cps.toList.map (inS sg), rfl, ?_, ?_⟩
        · rw [List.take_of_length_le (by omega)]
          rw [List.map_map]
          exact SqL.of upd_same
        · have e : madeOf t sg = (t.cps.toList.map (inS sg)).all id := by unfold madeOf; rw [h, Bool.true_and]
          rw [← e]
          exact k _ (Same.new hl)
    · have e : madeOf t sg = false := by unfold madeOf; rw [Bool.eq_false_iff.mpr h]; rfl
      have k' := k H (Same.refl H)
      rw [e] at k'
      exact k'
end
end K12
namespace K12
open PySem PySem.Spec PyProof.Rows L2 K1
def spName (NL : Addr) : Sp := fun vs H Q E => ∃ t : Str, vs = [.str t] ∧ plainT t = true ∧ (∀ H', Same H H' → isName t = true → Q (.str t) H') ∧ (∀ H', Same H H' → isName t = false → E (.ref NL) none H')
def spNum (NL : Addr) : Sp := fun vs H Q E => ∃ t : Str, vs = [.str t] ∧ okN t = true ∧ (∀ n H', Same H H' → readNum t = some n → Q (.int n) H') ∧ (∀ H', Same H H' → readNum t = none → E (.ref NL) none H')
theorem okN_plain {t : Str} (h : okN t = true) : plainT t = true ∧ (madeOf (figsOf t) "0123456789" = true → (PySem.intText? t).isSome = true) := by
  unfold okN at h
  rw [Bool.and_eq_true] at h
  refine ⟨h.1, fun e => ?_⟩
  have := h.2
  rw [e] at this
  simpa using this
theorem figs_plain {t : Str} (h : plainT t = true) : plainT (figsOf t) = true := by
  unfold figsOf
  split
  · obtain ⟨h1, h2⟩ := plain_len h
    unfold plainT
    rw [Bool.and_eq_true]
    rw [← Array.all_toList, List.all_eq_true] at h2
    constructor
    · rw [← Array.all_toList, List.all_eq_true]
      intro c hc
      exact h2 c (List.mem_of_mem_drop hc)
    · refine decide_eq_true ?_
      show (t.cps.toList.drop 1).length ≤ 640
      rw [List.length_drop]
      have : t.cps.toList.length = t.length := Array.length_toList
      omega
  · exact h
section
variable {P : Program} {w : World} {K : PySem.W.Frag} {mg : Str → Option Value} {C B NL : Addr}
theorem x_name (D : DefIn K "read_name" st_read_name) (M : MG K mg) (G_LETTERS : GlobIs K "LETTERS" (.str "abcdefghijklmnopqrstuvwxyz")) (E_NoLine : ExcIn K "NoLine" NL) (F_is_made_of : FnB P w K mg "is_made_of" ["text", "signs"] 1 spMade) : FnX P w K mg "read_name" ["text"] 2 (spName NL) := by
  refine D.fnX M sc_read_name bd_read_name (fun vs H Q E h => ?_) (fun f base cdv A outer s H vs Q E hr h => ?_)
  · obtain ⟨t, rfl, _⟩ := h
    rfl
  · obtain ⟨t, rfl, hp, k, kx⟩ := h
    refine ⟨_, (pss_cons (ps_if (pt_not (pt_val (pcallF F_is_made_of (hr.mono (by decide)) rfl (pc (pv 0) (pc (pe_globC G_LETTERS M rfl) pa_nil))))) (pss_one (ps_raise raisesX rfl rfl (M.is _ _ E_NoLine.at_) E_NoLine.exc PySem.F.excBase_ValueError (pc pe_str pa_nil))) pss_nil)
      (pss_one (ps_ret (pv 0)))), ?_⟩
    refine ⟨_, rfl, t, _, rfl, hp, fun H' s' => ⟨_, rfl, ?_⟩⟩
    refine ite2 (fun h => ?_) (fun h => ?_)
    · exact ⟨by show 1 ≤ sizeLine; decide, kx H' s' (by unfold isName; simpa using h)⟩
    · exact ⟨_, rfl, k H' s' (by unfold isName; simpa using h)⟩
theorem x_num (D : DefIn K "read_number" st_read_number) (M : MG K mg) (B : Bi K) (G_FIGURES : GlobIs K "FIGURES" (.str "0123456789")) (E_NoLine : ExcIn K "NoLine" NL) (F_is_made_of : FnB P w K mg "is_made_of" ["text", "signs"] 1 spMade) : FnX P w K mg "read_number" ["text"] 2 (spNum NL) := by
  refine D.fnX M sc_read_number bd_read_number (fun vs H Q E h => ?_) (fun f base cdv A outer s H vs Q E hr h => ?_)
  · obtain ⟨t, rfl, _⟩ := h
    rfl
  · obtain ⟨t, rfl, hp, k, kx⟩ := h
    obtain ⟨h1, h2⟩ := okN_plain hp
    obtain ⟨hz, ha⟩ := plain_len h1
    refine ⟨_, (pss_consJ (pset (i := 1) sc_read_number.nd rfl (Or.inl rfl) (pe_ifExp (pt_val (pe_bm PySem.F.plainAttrs_str PySem.F.slot_str_startswith PySem.F.type_str_startswith mt_startswith (pv 0) (pc pe_str pa_nil))) (pe_slice sl_str1 (pv 0) (po_some pe_int) po_none) (pv 0)))
      (pss_cons (ps_if (pt_not (pt_val (pcallF F_is_made_of (hr.mono (by decide)) rfl (pc (pv 1) (pc (pe_globC G_FIGURES M rfl) pa_nil))))) (pss_one (ps_raise raisesX rfl rfl (M.is _ _ E_NoLine.at_) E_NoLine.exc PySem.F.excBase_ValueError (pc pe_str pa_nil))) pss_nil)
      (pss_cons (ps_if (PW.pt (pw_and (pt_val (pe_bm PySem.F.plainAttrs_str PySem.F.slot_str_startswith PySem.F.type_str_startswith mt_startswith (pv 1) (pc pe_str pa_nil))) (pw_and1 (pt_cmpR op_ne (pv 0) pe_str (nomark _))))) (pss_one (ps_raise raisesX rfl rfl (M.is _ _ E_NoLine.at_) E_NoLine.exc PySem.F.excBase_ValueError (pc pe_str pa_nil))) pss_nil)
      (pss_one (ps_ret (pcallTy call_intT rfl (M.no _ B.b_int) bt_int (pc (pv 0) pa_nil))))))), ?_⟩
    refine ⟨fun σ' H' => σ' = [some (.str t), some (.str (figsOf t))] ∧ H' = H, ?_, ?_⟩
    · refine ⟨_, rfl, rfl, t, _, rfl, rfl, _, rfl, ?_⟩
      refine ite2 (fun h => ?_) (fun h => ?_)
      · have hl : 1 ≤ t.length := by
          have := starts_len h
          have e : ("-" : Str).length = 1 := by decide +kernel
          omega
        have e : figsOf t = ⟨(t.cps.toList.drop 1).toArray⟩ := if_pos h
        refine ⟨_, rfl, _, rfl, t, rfl, rfl, rfl, hl, by have : (640 : Nat) ≤ sizeLine := by decide
                                                         omega, ?_⟩
        rw [← e]
        exact ⟨rfl, rfl⟩
      · have e : figsOf t = t := if_neg h
        rw [e]
        exact ⟨_, rfl, rfl, rfl⟩
    · rintro σ' H' ⟨rfl, rfl⟩
      refine ⟨_, rfl, _, _, rfl, figs_plain h1, fun H1 s1 => ⟨_, rfl, ?_⟩⟩
      refine ite2 (fun h => ?_) (fun h => ?_)
      · have h' : madeOf (figsOf t) "0123456789" = false := by simpa using h
        exact ⟨by show 1 ≤ sizeLine; decide, kx H1 s1 (by unfold readNum; rw [h']; rfl)⟩
      · have h' : madeOf (figsOf t) "0123456789" = true := by simpa using h
        have er : readNum t = if (Txt.startswith (figsOf t) "0" && !decide (V.str t = V.str "0")) = true then none else PySem.intText? t := if_pos h'
        have fin : (Txt.startswith (figsOf t) "0" && !decide (V.str t = V.str "0")) = false → ∃ n, PySem.intText? t = some n ∧ readNum t = some n := fun z => by
          obtain ⟨n, hn⟩ := Option.isSome_iff_exists.mp (h2 h')
          exact ⟨n, hn, by rw [er, z, hn]; rfl⟩
        refine ⟨_, rfl, rfl, _, _, rfl, rfl, _, rfl, ?_⟩
        refine ite2 (fun h3 => ?_) (fun h3 => ?_)
        · refine ⟨_, rfl, rfl, _, rfl, ?_⟩
          refine ite2 (fun h4 => ?_) (fun h4 => ?_)
          · exact ⟨by show 1 ≤ sizeLine; decide, kx H1 s1 (by rw [er, h3, h4]; rfl)⟩
          · obtain ⟨n, e1, e2⟩ := fin (by rw [Bool.eq_false_iff.mpr h4, Bool.and_false])
            exact ⟨_, rfl, t, n, rfl, e1, hz, k n H1 s1 e2⟩
        · obtain ⟨n, e1, e2⟩ := fin (by rw [Bool.eq_false_iff.mpr h3, Bool.false_and])
          exact ⟨_, rfl, t, n, rfl, e1, hz, k n H1 s1 e2⟩
end
def spRead (NL : Addr) : Sp := fun vs H Q E => ∃ z : Str, vs = [.str z] ∧ okL z = true ∧ (∀ d p H', Same H H' → readD z = some d → H' p = some (.tup d.row) → Q (.ref p) H') ∧ (∀ H', Same H H' → readD z = none → E (.ref NL) none H')
theorem okL_len {z : Str} (h : okL z = true) : z.length ≤ 640 ∧ ∀ p ∈ Txt.split z " ", okN p = true := by
  unfold okL at h
  rw [Bool.and_eq_true, decide_eq_true_eq, List.all_eq_true] at h
  exact h
theorem sp_pos : ((" " : Str).length == 0) = false := by decide +kernel
theorem len640 {n : Nat} (h : n ≤ 640) : n + 2 ≤ sizeLine := by
  have : (1000 : Nat) ≤ sizeLine := by decide
  omega
theorem vstr_ne {a b : Str} (h : ¬ decide (V.str a = V.str b) = true) : ¬ a = b := fun e => h (decide_eq_true (by rw [e]))
theorem vint_eq {a b : Int} (h : decide (V.int a = V.int b) = true) : a = b := by
  have h' := of_decide_eq_true h
  injection h'
theorem vint_ne {a b : Int} (h : ¬ decide (V.int a = V.int b) = true) : ¬ a = b := fun e => h (decide_eq_true (by rw [e]))
theorem readP_no {k : Str} {r : List Str} (h1 : ¬ (k = "mark" ∧ r.length = 1)) (h2 : ¬ (k = "event" ∧ r.length = 3)) : readP (k :: r) = none := by
  match r with
  | [] => rfl
  | [a] => exact if_neg fun e => h1 ⟨e, rfl⟩
  | [a, b] => rfl
  | [a, b, c] => exact if_neg fun e => h2 ⟨e, rfl⟩
  | a :: b :: c :: d :: r => rfl
section
variable {P : Program} {w : World} {K : PySem.W.Frag} {mg : Str → Option Value} {C B NL : Addr}
theorem x_read (D : DefIn K "read" st_read) (M : MG K mg) (B : Bi K) (G_MARK : GlobIs K "MARK" (.str "mark")) (G_EVENT : GlobIs K "EVENT" (.str "event")) (E_NoLine : ExcIn K "NoLine" NL) (X_read_name : FnX P w K mg "read_name" ["text"] 2 (spName NL))
    (X_read_number : FnX P w K mg "read_number" ["text"] 2 (spNum NL)) : FnX P w K mg "read" ["line"] 3 (spRead NL) := by
  refine D.fnX M sc_read bd_read (fun vs H Q E h => ?_) (fun f base cdv A outer s H vs Q E hr h => ?_)
  · obtain ⟨t, rfl, _⟩ := h
    rfl
  · obtain ⟨z, rfl, hp, k, kx⟩ := h
    obtain ⟨hz, ho⟩ := okL_len hp
    refine ⟨_, (pss_cons (pset (i := 1) sc_read.nd rfl (Or.inl rfl) (pe_bm PySem.F.plainAttrs_str PySem.F.slot_str_split PySem.F.type_str_split mt_split (pv 0) (pc pe_str pa_nil)))
      (pss_consJ (ps_if (PW.pt (pw_and (pt_cmpR op_eq (pe_ix ix_list (pv 1) pe_int (fun _ _ => rfl)) (pe_globC G_MARK M rfl) (nomark _)) (pw_and1 (pt_cmpR op_eq (pcallB call_len_seq rfl (M.no _ B.b_len) bt_len (pc (pv 1) pa_nil)) pe_int (nomark _))))) (pss_one (ps_ret (pe_tup (pc (pe_globC G_MARK M rfl) (pc (pe_callX X_read_number passX (hr.mono (by decide)) rfl (pc (pe_ix ix_list (pv 1) pe_int (fun _ _ => rfl)) pa_nil)) pa_nil))))) pss_nil)
      (pss_consJ (ps_if (PW.pt (pw_and (pt_cmpR op_eq (pe_ix ix_list (pv 1) pe_int (fun _ _ => rfl)) (pe_globC G_EVENT M rfl) (nomark _)) (pw_and1 (pt_cmpR op_eq (pcallB call_len_seq rfl (M.no _ B.b_len) bt_len (pc (pv 1) pa_nil)) pe_int (nomark _))))) (pss_one (ps_ret (pe_tup (pc (pe_globC G_EVENT M rfl) (pc (pe_callX X_read_name passX (hr.mono (by decide)) rfl (pc (pe_ix ix_list (pv 1) pe_int (fun _ _ => rfl)) pa_nil)) (pc (pe_callX X_read_number passX (hr.mono (by decide)) rfl (pc (pe_ix ix_list (pv 1) pe_int (fun _ _ => rfl)) pa_nil)) (pc (pe_callX X_read_number passX (hr.mono (by decide)) rfl (pc (pe_ix ix_list (pv 1) pe_int (fun _ _ => rfl)) pa_nil)) pa_nil))))))) pss_nil)
      (pss_one (ps_raise raisesX rfl rfl (M.is _ _ E_NoLine.at_) E_NoLine.exc PySem.F.excBase_ValueError (pc pe_str pa_nil)))))), ?_⟩
    refine ⟨_, rfl, rfl, z, _, rfl, rfl, sp_pos, len640 hz, fun l hl => ?_⟩
    have hne := split_ne z " "
    have s0 := Same.new (o := .lst ((Txt.split z " ").map V.str)) hl
    have hl0 : upd H l (.lst ((Txt.split z " ").map V.str)) l = some (.lst ((Txt.split z " ").map V.str)) := upd_same
    unfold readD at k kx
    generalize upd H l (.lst ((Txt.split z " ").map V.str)) = H1 at s0 hl0 ⊢
    generalize Txt.split z " " = ps at *
    obtain ⟨key, r, rfl⟩ : ∃ key r, ps = key :: r := by
      cases ps with
      | nil => exact absurd rfl hne
      | cons a r => exact ⟨a, r, rfl⟩
    have hle : ∀ n : Nat, decide (V.int (((key :: r).map V.str).length : Int) = V.int ((n : Int) + 1)) = true → r.length = n := fun n h => by
      have := vint_eq h
      rw [List.length_map, List.length_cons] at this
      omega
    have hln : ∀ n : Nat, ¬ decide (V.int (((key :: r).map V.str).length : Int) = V.int ((n : Int) + 1)) = true → ¬ r.length = n := fun n h e => by
      refine vint_ne h ?_
      rw [List.length_map, List.length_cons, e]
      rfl
    refine ⟨fun σ' H' => σ' = [some (.str z), some (.ref l)] ∧ H' = H1 ∧ ¬ (key = "mark" ∧ r.length = 1), ?_, ?_⟩
    · refine ⟨_, rfl, l, _, 0, .str key, rfl, rfl, SqL.of hl0, atI_nat (j := 0) rfl, rfl, _, rfl, ?_⟩
      refine ite2 (fun h => ?_) (fun h => ⟨rfl, rfl, fun e => vstr_ne h e.1⟩)
      refine ⟨_, rfl, l, _, rfl, .inl (SqL.of hl0), rfl, _, rfl, ?_⟩
      refine ite2 (fun h2 => ?_) (fun h2 => ⟨rfl, rfl, fun e => hln 1 h2 e.2⟩)
      have e1 := dstr h
      have e2 := hle 1 h2
      subst e1
      match r, e2 with
      | [a], _ =>
        refine ⟨_, rfl, l, _, 1, _, rfl, rfl, SqL.of hl0, rfl, a, rfl, ho a (by simp), fun n H2 s2 en => ?_, fun H2 s2 en => ?_⟩
        · refine ⟨by show 2 ≤ sizeLine; decide, fun p hp => k (.mark n) p _ (s0.trans (s2.trans (Same.new hp))) ?_ upd_same⟩
          show (if ("mark" : Str) = "mark" then (readNum a).map Dd.mark else none) = _
          rw [if_pos rfl, en]
          rfl
        · refine kx _ (s0.trans s2) ?_
          show (if ("mark" : Str) = "mark" then (readNum a).map Dd.mark else none) = _
          rw [if_pos rfl, en]
          rfl
    · rintro σ' H' ⟨rfl, rfl, n1⟩
      refine ⟨fun σ2 H2 => H2 = H' ∧ ¬ (key = "event" ∧ r.length = 3), ?_, ?_⟩
      · refine ⟨_, rfl, l, _, 0, .str key, rfl, rfl, SqL.of hl0, atI_nat (j := 0) rfl, rfl, _, rfl, ?_⟩
        refine ite2 (fun h => ?_) (fun h => ⟨rfl, fun e => vstr_ne h e.1⟩)
        refine ⟨_, rfl, l, _, rfl, .inl (SqL.of hl0), rfl, _, rfl, ?_⟩
        refine ite2 (fun h2 => ?_) (fun h2 => ⟨rfl, fun e => hln 3 h2 e.2⟩)
        have e1 := dstr h
        have e2 := hle 3 h2
        subst e1
        match r, e2 with
        | [nm, a, b], _ =>
          have er : readP ["event", nm, a, b] = if isName nm = true then (readNum a).bind fun x => (readNum b).map fun y => Dd.event nm x y else none := by
            show (if ("event" : Str) = "event" then _ else none) = _
            exact if_pos rfl
          refine ⟨_, rfl, l, _, 1, _, rfl, rfl, SqL.of hl0, rfl, nm, rfl, (okN_plain (ho nm (by simp))).1, fun H2 s2 en => ?_, fun H2 s2 en => ?_⟩
          · refine ⟨_, rfl, l, _, 2, _, rfl, rfl, SqL.of (s2 _ _ hl0), rfl, a, rfl, ho a (by simp), fun x H3 s3 ex => ?_, fun H3 s3 ex => ?_⟩
            · refine ⟨_, rfl, l, _, 3, _, rfl, rfl, SqL.of (s3 _ _ (s2 _ _ hl0)), rfl, b, rfl, ho b (by simp), fun y H4 s4 ey => ?_, fun H4 s4 ey => ?_⟩
              · exact ⟨by show 4 ≤ sizeLine; decide, fun p hp => k (.event nm x y) p _ (s0.trans (s2.trans (s3.trans (s4.trans (Same.new hp))))) (by rw [er, if_pos en, ex, ey]; rfl) upd_same⟩
              · exact kx _ (s0.trans (s2.trans (s3.trans s4))) (by rw [er, if_pos en, ex, ey]; rfl)
            · exact kx _ (s0.trans (s2.trans s3)) (by rw [er, if_pos en, ex]; rfl)
          · exact kx _ (s0.trans s2) (by rw [er, if_neg (by rw [en]; decide)])
      · rintro σ' H' ⟨rfl, n2⟩
        exact ⟨by show 1 ≤ sizeLine; decide, kx _ s0 (readP_no n1 n2)⟩
end
end K12
namespace K12
open PySem PySem.Spec PyProof.Rows L2 K1
def Tups (H : Hp) : List V → List (List V) → Prop := Paired fun x row => ∃ a, x = .ref a ∧ H a = some (.tup row)
theorem Tups.keep {H H' : Hp} {xs : List V} {rows : List (List V)} (h : Tups H xs rows) (k : ∀ a row, H a = some (.tup row) → H' a = some (.tup row)) : Tups H' xs rows :=
  Paired.imp' (fun _ _ ⟨a, e, h⟩ => ⟨a, e, k a _ h⟩) h
theorem Tups.snoc {H : Hp} {xs : List V} {rows : List (List V)} {a : Addr} {row : List V} (h : Tups H xs rows) (e : H a = some (.tup row)) : Tups H (xs ++ [.ref a]) (rows ++ [row]) := Paired.snoc h ⟨_, rfl, e⟩
theorem Tups.len {H : Hp} {xs : List V} {rows : List (List V)} (h : Tups H xs rows) : xs.length = rows.length := Paired.length h
theorem Tups.get {H : Hp} {xs : List V} {rows : List (List V)} {i : Nat} {row : List V} (h : Tups H xs rows) (e : rows[i]? = some row) : ∃ a, xs[i]? = some (.ref a) ∧ H a = some (.tup row) := by
  obtain ⟨x, ex, a, rfl, r⟩ := Paired.getR h e
  exact ⟨a, ex, r⟩
def spAll (K : PySem.W.Frag) (NL : Addr) : Sp := fun vs H Q E => ∃ (l : Addr) (zs : List Str), vs = [.ref l] ∧ SqL K H l (zs.map V.str) ∧ (∀ z ∈ zs, okL z = true) ∧ zs.length ≤ 1000 ∧
  (∀ (ds : List Dd) p xs H', Same H H' → zs.map readD = ds.map some → H' p = some (.lst xs) → Tups H' xs (ds.map Dd.row) → Q (.ref p) H') ∧ (∀ z H', z ∈ zs → Same H H' → readD z = none → E (.ref NL) none H')
section
variable {P : Program} {w : World} {K : PySem.W.Frag} {mg : Str → Option Value} {C B NL : Addr}
theorem x_all (D : DefIn K "read_all" st_read_all) (M : MG K mg) (X_read : FnX P w K mg "read" ["line"] 3 (spRead NL)) : FnX P w K mg "read_all" ["lines"] 4 (spAll K NL) := by
  refine D.fnX M sc_read_all bd_read_all (fun vs H Q E h => ?_) (fun f base cdv A outer s H vs Q E hr h => ?_)
  · obtain ⟨l, zs, rfl, _⟩ := h
    rfl
  · obtain ⟨l, zs, rfl, hl, ho, hn, k, kx⟩ := h
    refine ⟨_, (pss_one (ps_ret (pe_compX (NY := ["line"]) (js := [none]) rfl rfl rfl rfl heldX rfl (by with_unfolding_all rfl) (by repeat first | exact ClIn.nil | refine ClIn.cons rfl ?_) (.own .nil) (pi_list (pv 0)) (fun _ _ _ _ _ => ⟨(pg_name (i := 0) (show (["line"] : List Str).Nodup from by decide +kernel) rfl (Or.inl rfl)), pif_nil, (pe_callX X_read passC (hr.mono (by decide)) rfl (pc (pv 0) pa_nil))⟩)))), ?_⟩
    refine ⟨_, rfl, l, rfl, ⟨_, hl⟩, fun r hr' => ?_⟩
    refine comp_lst (K := K) (a := l) (xs := zs.map V.str) (fun i ys H' => ∃ ds : List Dd, (zs.take i).map readD = ds.map some ∧ Same H H' ∧ H' r = some (.lst ys) ∧ Tups H' ys (ds.map Dd.row)) ⟨[], rfl, Same.new hr', upd_same, .nil⟩ ?_ ?_ ?_ ?_
    · rintro i ys H' ⟨ds, _, _, h, _⟩
      exact h
    · rintro i ys H' _ ⟨ds, _, s1, _, _⟩
      exact s1.seq hl
    · rintro i x ys H' hi ⟨ds, e1, s1, h1, T1⟩
      rw [List.getElem?_map] at hi
      obtain ⟨z, hz, rfl⟩ := Option.map_eq_some_iff.mp hi
      have hm := List.mem_of_getElem? hz
      refine ⟨weak_set rfl, ?_⟩
      refine ⟨_, rfl, z, rfl, ho z hm, fun d p H2 s2 e2 hp => ?_, fun H2 s2 e2 => kx z _ hm (s1.trans s2) e2⟩
      have hl2 : ys.length ≤ 1000 := by
        rw [T1.len, List.length_map]
        have := congrArg List.length e1
        rw [List.length_map, List.length_map, List.length_take] at this
        omega
      refine ⟨ys, s2 _ _ h1, small1000 hl2, ds ++ [d], ?_, fun b o e => ?_, upd_same, ?_⟩
      · rw [List.take_succ, hz, List.map_append, e1, List.map_append]
        show _ ++ [readD z] = _ ++ [some d]
        rw [e2]
      · rw [upd_ne (ne_of_none e hr')]
        exact s2 _ _ (s1 _ _ e)
      · rw [List.map_append]
        refine Tups.snoc (T1.keep fun b row e => ?_) ?_
        · rw [upd_ne (ne_of e h1 (by intro z; cases z))]
          exact s2 _ _ e
        · rw [upd_ne (ne_of hp (s2 _ _ h1) (by intro z; cases z))]
          exact hp
    · rintro ys H' ⟨ds, e1, s1, h1, T1⟩
      rw [List.length_map, List.take_length] at e1
      exact k ds r ys H' s1 e1 h1 T1
end
structure NB (K : PySem.W.Frag) (N : Addr) : Prop where
  k1 : DKey K N "fixed" (some (.int 2))
  k2 : DKey K N "sliding" (some (.int 3))
  k3 : DKey K N "pauses" (some (.int 2))
  k4 : DKey K N "" none
  k5 : DKey K N "Fixed" none
theorem nb_all : (nb "fixed" = some 2 ∧ nb "sliding" = some 3 ∧ nb "pauses" = some 2 ∧ nb "" = none ∧ nb "Fixed" = none) := by decide +kernel
theorem NB.key {K : PySem.W.Frag} {N : Addr} (h : NB K N) {k : Str} (hk : (["fixed", "sliding", "pauses", "", "Fixed"] : List Str).contains k = true) : DKey K N k ((nb k).map V.int) := by
  have hm : k ∈ (["fixed", "sliding", "pauses", "", "Fixed"] : List Str) := by simpa using hk
  obtain ⟨a1, a2, a3, a4, a5⟩ := nb_all
  rcases List.mem_cons.mp hm with rfl | hm
  · rw [a1]; exact h.k1
  rcases List.mem_cons.mp hm with rfl | hm
  · rw [a2]; exact h.k2
  rcases List.mem_cons.mp hm with rfl | hm
  · rw [a3]; exact h.k3
  rcases List.mem_cons.mp hm with rfl | hm
  · rw [a4]; exact h.k4
  · cases List.mem_singleton.mp hm
    rw [a5]; exact h.k5
def spPlan (NL BP : Addr) : Sp := fun vs H Q E => ∃ z : Str, vs = [.str z] ∧ okL z = true ∧ keyOk z = true ∧ (∀ pl p H', Same H H' → readPl z = some pl → pl.bad = false → H' p = some (.tup pl.row) → Q (.ref p) H') ∧
  (∀ pl H', Same H H' → readPl z = some pl → pl.bad = true → E (.ref BP) none H') ∧ (∀ H', Same H H' → readPl z = none → E (.ref NL) none H')
theorem nums_none {t : Str} : ∀ {r : List Str}, t ∈ r → readNum t = none → nums r = none := by
  intro r
  induction r with
  | nil => intro h; cases h
  | cons a r ih =>
    intro h e
    rcases List.mem_cons.mp h with rfl | h
    · show (readNum t).bind _ = none
      rw [e]; rfl
    · show (readNum a).bind _ = none
      rw [ih h e]
      cases readNum a <;> rfl
theorem nums_some : ∀ {r : List Str} {ns : List Int}, r.map readNum = ns.map some → nums r = some ns := by
  intro r
  induction r with
  | nil =>
    intro ns h
    cases ns with
    | nil => rfl
    | cons n ns => cases h
  | cons a r ih =>
    intro ns h
    cases ns with
    | nil => cases h
    | cons n ns =>
      injection h with h1 h2
      show (readNum a).bind _ = _
      rw [h1, ih h2]
      rfl
theorem cut_one (k : V) (r : List V) : cutV (k :: r) (some 1) none = r := by
  unfold cutV HT.sIx
  simp
theorem nb_few {k : Str} {n : Nat} (h : nb k = some (n : Int)) : n ≤ 3 := by
  unfold nb at h
  repeat' split at h
  all_goals first
    | (injection h with h; omega)
    | cases h
theorem mk_some {k : Str} {ns : List Int} (h : nb k = some (ns.length : Int)) : ∃ pl, mkPl k ns = some pl ∧ pl.row = V.str k :: ns.map V.int := by
  unfold nb at h
  by_cases h1 : k = "fixed"
  · subst h1
    rw [if_pos rfl] at h
    injection h with h
    match ns, h with
    | [l, g], _ => exact ⟨.fixed l g, by simp only [mkPl, if_true], rfl⟩
  · rw [if_neg h1] at h
    by_cases h2 : k = "sliding"
    · subst h2
      rw [if_pos rfl] at h
      injection h with h
      match ns, h with
      | [l, s, g], _ => exact ⟨.sliding l s g, by simp only [mkPl, if_true], rfl⟩
    · rw [if_neg h2] at h
      by_cases h3 : k = "pauses"
      · subst h3
        rw [if_pos rfl] at h
        injection h with h
        match ns, h with
        | [l, g], _ => exact ⟨.pauses l g, by simp only [mkPl, if_neg h1, if_true], rfl⟩
      · rw [if_neg h3] at h
        cases h
section
variable {P : Program} {w : World} {K : PySem.W.Frag} {mg : Str → Option Value} {C BP NL N_ : Addr}
theorem x_plan (D : DefIn K "read_plan" st_read_plan) (M : MG K mg) (B : Bi K) (G_NUMBERS_BEHIND : GlobIs K "NUMBERS_BEHIND" (.ref N_)) (DI : DictIn w K N_) (nbk : NB K N_) (E_NoLine : ExcIn K "NoLine" NL) (X_read_number : FnX P w K mg "read_number" ["text"] 2 (spNum NL))
    (X_check_plan : FnX P w K mg "check_plan" ["plan"] 3 (spChk K BP)) : FnX P w K mg "read_plan" ["line"] 4 (spPlan NL BP) := by
  refine D.fnX M sc_read_plan bd_read_plan (fun vs H Q E h => ?_) (fun f base cdv A outer s H vs Q E hr h => ?_)
  · obtain ⟨t, rfl, _⟩ := h
    rfl
  · obtain ⟨z, rfl, hp, hk, k, kb, kx⟩ := h
    obtain ⟨hz, ho⟩ := okL_len hp
    refine ⟨_, (pss_cons (pset (i := 1) sc_read_plan.nd rfl (Or.inl rfl) (pe_bm PySem.F.plainAttrs_str PySem.F.slot_str_split PySem.F.type_str_split mt_split (pv 0) (pc pe_str pa_nil)))
      (pss_cons (ps_if (pt_cmpR op_ne (pe_kget DI (pe_globC G_NUMBERS_BEHIND M rfl) (pe_ix ix_list (pv 1) pe_int (fun _ _ => rfl)) ⟨rfl, rfl, rfl, rfl⟩) (pe_op oSub (pcallB call_len_seq rfl (M.no _ B.b_len) bt_len (pc (pv 1) pa_nil)) pe_int) (nomark _)) (pss_one (ps_raise raisesX rfl rfl (M.is _ _ E_NoLine.at_) E_NoLine.exc PySem.F.excBase_ValueError (pc pe_str pa_nil))) pss_nil)
      (pss_cons (pset (i := 2) sc_read_plan.nd rfl (Or.inl rfl) (pcallTy call_tuple_of rfl (M.no _ B.b_tuple) bt_tuple (pc (pe_op op_cat (pe_lst (pc (pe_ix ix_list (pv 1) pe_int (fun _ _ => rfl)) pa_nil)) (pe_compX (NY := ["part"]) (js := [none]) rfl rfl rfl rfl heldX rfl (by with_unfolding_all rfl) (by repeat first | exact ClIn.nil | refine ClIn.cons rfl ?_) (.own .nil) (pi_list (pe_slice sl_list (pv 1) (po_some pe_int) po_none)) (fun _ _ _ _ _ => ⟨(pg_name (i := 0) (show (["part"] : List Str).Nodup from by decide +kernel) rfl (Or.inl rfl)), pif_nil, (pe_callX X_read_number passC (hr.mono (by decide)) rfl (pc (pv 0) pa_nil))⟩))) pa_nil)))
      (pss_cons (pexpr (pe_callX X_check_plan passX (hr.mono (by decide)) rfl (pc (pv 2) pa_nil)))
      (pss_one (ps_ret (pv 2))))))), ?_⟩
    refine ⟨_, rfl, rfl, z, _, rfl, rfl, sp_pos, len640 hz, fun l hl => ?_⟩
    have hne := split_ne z " "
    have s0 := Same.new (o := .lst ((Txt.split z " ").map V.str)) hl
    have hl0 : upd H l (.lst ((Txt.split z " ").map V.str)) l = some (.lst ((Txt.split z " ").map V.str)) := upd_same
    unfold readPl at k kb kx
    unfold keyOk at hk
    generalize upd H l (.lst ((Txt.split z " ").map V.str)) = H1 at s0 hl0 ⊢
    generalize Txt.split z " " = ps at *
    obtain ⟨key, r, rfl⟩ : ∃ key r, ps = key :: r := by
      cases ps with
      | nil => exact absurd rfl hne
      | cons a r => exact ⟨a, r, rfl⟩
    have dk := nbk.key hk
    dsimp only at k kb kx
    refine ⟨rfl, _, rfl, l, _, 0, .str key, rfl, rfl, SqL.of hl0, atI_nat (j := 0) rfl, key, _, rfl, dk, _, rfl, l, _, rfl, .inl (SqL.of hl0), _, _, rfl, rfl, ?_⟩
    refine ⟨(by cases nb key <;> rfl), _, rfl, ?_⟩
    have hle : (((key :: r).map V.str).length : Int) - 1 = (r.length : Int) := by
      rw [List.length_map, List.length_cons]
      omega
    rw [hle]
    refine ite2 (fun h => ?_) (fun h => ?_)
    · refine ⟨by show 1 ≤ sizeLine; decide, kx H1 s0 (if_neg fun e => ?_)⟩
      rw [e] at h
      simp at h
    · have en : nb key = some (r.length : Int) := by
        cases e : nb key with
        | none => rw [e] at h; exact absurd (by simp) h
        | some n =>
          rw [e] at h
          have h' : decide (V.int n = V.int (r.length : Int)) = true := by simpa using h
          rw [vint_eq h']
      rw [if_pos en] at k kb kx
      have hr3 := nb_few en
      refine ⟨_, rfl, l, _, 0, .str key, rfl, rfl, SqL.of hl0, atI_nat (j := 0) rfl, (by show 1 ≤ sizeLine; decide), fun l1 hl1 => ?_⟩
      have s1 := Same.new (o := .lst [.str key]) hl1
      have n1 : l ≠ l1 := ne_of_none hl0 hl1
      refine ⟨_, rfl, _, rfl, l, _, rfl, SqL.of (s1 _ _ hl0), fun l2 hl2 => ?_⟩
      rw [List.map_cons, cut_one]
      have s2 := Same.new (o := .lst (r.map V.str)) hl2
      have n2 : l1 ≠ l2 := ne_of_none upd_same hl2
      have h1' : upd (upd H1 l1 (.lst [.str key])) l2 (.lst (r.map V.str)) l1 = some (.lst [.str key]) := by rw [upd_ne n2, upd_same]
      have h2' : upd (upd H1 l1 (.lst [.str key])) l2 (.lst (r.map V.str)) l2 = some (.lst (r.map V.str)) := upd_same
      have s3 := s0.trans (s1.trans s2)
      generalize upd (upd H1 l1 (.lst [.str key])) l2 (.lst (r.map V.str)) = H2 at s3 h1' h2' ⊢
      refine ⟨l2, rfl, ⟨_, SqL.of h2'⟩, fun l3 hl3 => ?_⟩
      refine comp_lR (K := K) (a := l2) (xs := r.map V.str) (fun i ys H' => ∃ ns : List Int, (r.take i).map readNum = ns.map some ∧ Same H2 H' ∧ H' l3 = some (.lst ys) ∧ ys = ns.map V.int) ⟨[], rfl, Same.new hl3, upd_same, rfl⟩ ?_ ?_ ?_ ?_
      · rintro i ys H' ⟨ns, _, _, h, _⟩
        exact h
      · rintro i ys H' _ ⟨ns, _, s4, _, _⟩
        exact s4.seq (SqL.of h2')
      · rintro i x ys H' hi ⟨ns, e1, s4, h4, rfl⟩
        rw [List.getElem?_map] at hi
        obtain ⟨t, ht, rfl⟩ := Option.map_eq_some_iff.mp hi
        have hm := List.mem_of_getElem? ht
        refine ⟨weak_set rfl, ?_⟩
        refine ⟨_, rfl, t, rfl, ho t (List.mem_cons_of_mem _ hm), fun n H3 s5 e2 => ?_, fun H3 s5 e2 => kx _ (s3.trans (s4.trans s5)) (by rw [nums_none hm e2]; rfl)⟩
        have hl2 : (ns.map V.int).length ≤ 1000 := by
          have := congrArg List.length e1
          rw [List.length_map, List.length_map, List.length_take] at this
          rw [List.length_map]
          omega
        refine ⟨_, s5 _ _ h4, small1000 hl2, ns ++ [n], ?_, fun b o e => ?_, upd_same, ?_⟩
        · rw [List.take_succ, ht, List.map_append, e1, List.map_append]
          show _ ++ [readNum t] = _ ++ [some n]
          rw [e2]
        · rw [upd_ne (ne_of_none e hl3)]
          exact s5 _ _ (s4 _ _ e)
        · rw [List.map_append]
          rfl
      · rintro ys H3 ⟨ns, e1, s4, h4, rfl⟩
        rw [List.length_map, List.take_length] at e1
        have hnl : ns.length = r.length := by
          have := congrArg List.length e1
          rw [List.length_map, List.length_map] at this
          omega
        obtain ⟨pl, em, er⟩ := mk_some (k := key) (ns := ns) (by rw [hnl]; exact en)
        have ew : (nums r).bind (mkPl key) = some pl := by rw [nums_some e1]; exact em
        refine ⟨l1, l3, _, _, rfl, rfl, s4 _ _ h1', h4, (by rw [List.length_map]; exact Nat.le_of_lt (small1000 (by simp; omega))), fun l5 hl5 => ?_⟩
        have s5 := Same.new (o := .lst ([.str key] ++ ns.map V.int)) hl5
        refine ⟨l5, _, rfl, .inl ⟨SqL.of upd_same, fun p hp => ?_⟩⟩
        have s6 := Same.new (o := .tup ([.str key] ++ ns.map V.int)) hp
        have s7 := s3.trans (s4.trans (s5.trans s6))
        have hp' : upd (upd H3 l5 (.lst ([.str key] ++ ns.map V.int))) p (.tup ([.str key] ++ ns.map V.int)) p = some (.tup pl.row) := by rw [upd_same, er]; rfl
        generalize upd (upd H3 l5 (.lst ([.str key] ++ ns.map V.int))) p (.tup ([.str key] ++ ns.map V.int)) = H5 at s7 hp' ⊢
        refine ⟨_, rfl, p, pl, rfl, SqT.of hp', fun hb => kb pl _ s7 ew hb, fun hb => ⟨_, rfl, k pl p _ s7 ew hb hp'⟩⟩
end
end K12
namespace K12
open PySem PySem.Spec PyProof.Rows L2 K1
def valT : V → Str
  | .str z => z
  | .int n => numT n
  | _ => ""
def Plain (x : V) : Prop := (∃ z, x = .str z) ∨ ∃ n : Int, x = .int n
theorem row_vals (d : Dd) : d.row.map valT = d.parts := by cases d <;> rfl
theorem row_plain (d : Dd) : ∀ x ∈ d.row, Plain x := by
  cases d with
  | mark n =>
    intro x hx
    rcases List.mem_cons.mp hx with rfl | hx
    · exact .inl ⟨_, rfl⟩
    · cases List.mem_singleton.mp hx
      exact .inr ⟨_, rfl⟩
  | event w a b =>
    intro x hx
    rcases List.mem_cons.mp hx with rfl | hx
    · exact .inl ⟨_, rfl⟩
    rcases List.mem_cons.mp hx with rfl | hx
    · exact .inl ⟨_, rfl⟩
    rcases List.mem_cons.mp hx with rfl | hx
    · exact .inr ⟨_, rfl⟩
    · cases List.mem_singleton.mp hx
      exact .inr ⟨_, rfl⟩
theorem row_fig {d : Dd} (h : d.Good) {n : Int} (hm : V.int n ∈ d.row) : n.natAbs < 10 ^ 100 := by
  cases d with
  | mark m =>
    rcases List.mem_cons.mp hm with e | hx
    · cases e
    · cases List.mem_singleton.mp hx
      exact h
  | event w a b =>
    obtain ⟨_, ha, hb⟩ := h
    rcases List.mem_cons.mp hm with e | hx
    · cases e
    rcases List.mem_cons.mp hx with e | hx
    · cases e
    rcases List.mem_cons.mp hx with e | hx
    · cases e; exact ha
    · cases List.mem_singleton.mp hx
      exact hb
theorem row_few (d : Dd) : d.row.length ≤ 4 := by cases d <;> simp [Dd.row]
set_option exponentiation.threshold 2000 in
theorem log_few {n : Int} (h : n.natAbs < 10 ^ 100) : n.natAbs.log2 < 1920 := by
  rcases Nat.eq_zero_or_pos n.natAbs with e | e
  · rw [e]; decide
  · exact (Nat.log2_lt (by omega)).mpr (Nat.lt_trans h (by decide +kernel))
theorem app_len (a b : Str) : (a ++ b).length = a.length + b.length := by
  show (a.cps ++ b.cps).size = _
  rw [Array.size_append]
  rfl
theorem mark_sp : ("mark " : Str) = "mark" ++ " " := by decide +kernel
theorem event_sp : ("event " : Str) = "event" ++ " " := by decide +kernel
theorem line_mark (n : Int) : ("mark " : Str) ++ numT n = Dd.line (.mark n) := by
  rw [mark_sp]
  rfl
theorem line_event (w : Str) (a b : Int) : ("event " : Str) ++ w ++ " " ++ numT a ++ " " ++ numT b = Dd.line (.event w a b) := by
  rw [event_sp]
  show _ = ("event" : Str) ++ " " ++ (w ++ " " ++ (numT a ++ " " ++ numT b))
  apply str_ext
  simp only [app_list, List.append_assoc]
def spShown (K : PySem.W.Frag) : Sp := fun vs H Q _ => ∃ (p : Addr) (d : Dd), vs = [.ref p] ∧ SqT K H p d.row ∧ d.Good ∧ ∀ H', Same H H' → Q (.str d.line) H'
def spWhole : Sp := fun vs H Q _ => ∃ i : Int, vs = [.int i] ∧ Q (.bl true) H
def spIsD : Sp := fun vs H Q _ => ∃ (p q : Addr) (row : List V), vs = [.ref p, .ref q] ∧ H p = some (.tup row) ∧ H q = some (.tup row) ∧ (∀ x ∈ row, Plain x) ∧ row.length ≤ 4 ∧ Q (.bl true) H
def spLine : Sp := fun vs H Q _ => ∃ (p : Addr) (d : Dd), vs = [.ref p] ∧ H p = some (.tup d.row) ∧ d.Good ∧ Q (.str d.line) H
section
variable {P : Program} {w : World} {K : PySem.W.Frag} {mg : Str → Option Value} {C B NL : Addr}
theorem f_shown (D : DefIn K "shown" st_shown) (M : MG K mg) (B : Bi K) : FnB P w K mg "shown" ["deed"] 1 (spShown K) := by
  refine D.fn M sc_shown bd_shown (fun vs H Q E h => ?_) (fun f base cdv A outer s H vs Q E hr h => ?_)
  · obtain ⟨p, d, rfl, _⟩ := h
    rfl
  · obtain ⟨p, d, rfl, hp, hg, k⟩ := h
    refine ⟨_, (pss_one (ps_ret (pe_bm PySem.F.plainAttrs_str PySem.F.slot_str_join PySem.F.type_str_join mt_join pe_str (pc (pe_comp (NY := ["part"]) (js := [none]) rfl rfl (by with_unfolding_all rfl) (by repeat first | exact ClIn.nil | refine ClIn.cons rfl ?_) (.own .nil) (pi_tup (pv 0)) (fun _ _ _ _ _ => ⟨(pg_name (i := 0) (show (["part"] : List Str).Nodup from by decide +kernel) rfl (Or.inl rfl)), pif_nil, (pcallTy call_strX rfl (M.no _ B.b_str) bt_str (pc (pv 0) pa_nil))⟩)) pa_nil)))), ?_⟩
    refine ⟨rfl, _, rfl, p, rfl, ⟨_, hp⟩, fun l hl => ?_⟩
    have hlen : d.parts.length = d.row.length := by rw [← row_vals, List.length_map]
    refine comp_it (J := Itt K p) (n := d.row.length) (fun i ys H' => ys = (d.parts.take i).map V.str ∧ H' = upd H l (.lst ys)) ⟨rfl, rfl⟩ ?_ ?_ ?_ ?_ ?_
    · rintro i ys H' ⟨_, rfl⟩
      exact upd_same
    · rintro i ys H' hi ⟨_, rfl⟩
      exact ⟨d.row, d.row[i], (Same.new hl).seqT hp, by simp [hi]⟩
    · rintro ys H' ⟨_, rfl⟩
      exact ⟨d.row, (Same.new hl).seqT hp, Nat.le_refl _⟩
    · rintro i x ys H' H'' hi ⟨rfl, rfl⟩ ⟨rfl, hy⟩
      have hx := hy d.row ((Same.new hl).seqT hp)
      have hm := List.mem_of_getElem? hx
      have hv : d.parts[i]? = some (valT x) := by rw [← row_vals, List.getElem?_map, hx]; rfl
      have few := row_few d
      have fin : ∃ zs, upd H l (.lst ((d.parts.take i).map V.str)) l = some (.lst zs) ∧ zs.length < sizeLine ∧ (zs ++ [V.str (valT x)] = (d.parts.take (i + 1)).map V.str ∧ upd (upd H l (.lst ((d.parts.take i).map V.str))) l (.lst (zs ++ [V.str (valT x)])) = upd H l (.lst (zs ++ [V.str (valT x)]))) := by
        refine ⟨_, upd_same, small1000 ?_, ?_, upd_upd⟩
        · rw [List.length_map, List.length_take]
          omega
        · rw [List.take_succ, hv, List.map_append]
          rfl
      refine ⟨weak_set rfl, ?_⟩
      rcases row_plain d x hm with ⟨z, rfl⟩ | ⟨n, rfl⟩
      · exact ⟨_, rfl, .inr ⟨z, rfl, fin⟩⟩
      · exact ⟨_, rfl, .inl ⟨n, rfl, log_few (row_fig hg hm), fin⟩⟩
    · rintro ys H' ⟨rfl, rfl⟩
      rw [← hlen, List.take_length]
      refine ⟨_, l, d.parts, rfl, rfl, SqL.of upd_same, Nat.le_trans (parts_ok hg).2.2 (by decide), k _ (Same.new hl)⟩
theorem kit_ib : PySem.W.kitOne K (.type "int") (.type "bool") = some false := by with_unfolding_all rfl
theorem kit_is : PySem.W.kitOne K (.type "int") (.type "str") = some false := by with_unfolding_all rfl
theorem kit_ts : PySem.W.kitOne K (.type "tuple") (.type "str") = some false := by with_unfolding_all rfl
theorem f_whole (D : DefIn K "_law_whole" st__law_whole) (M : MG K mg) (B : Bi K) : FnB P w K mg "_law_whole" ["_law_found"] 1 spWhole := by
  refine D.fn M sc__law_whole bd__law_whole (fun vs H Q E h => ?_) (fun f base cdv A outer s H vs Q E hr h => ?_)
  · obtain ⟨i, rfl, _⟩ := h
    rfl
  · obtain ⟨i, rfl, k⟩ := h
    refine ⟨_, (pss_one (ps_ret (pe_and (pcallB call_isinst rfl (M.no _ B.b_isinstance) bt_isinstance (pc (pv 0) (pc (pe_bltn (v := .ty "int") rfl (M.no _ B.b_int) bt_int rfl) pa_nil))) (pe_one (pe_not (pcallB call_isinst rfl (M.no _ B.b_isinstance) bt_isinstance (pc (pv 0) (pc (pe_bltn (v := .ty "bool") rfl (M.no _ B.b_bool) bt_bool rfl) pa_nil)))))))), ?_⟩
    exact ⟨_, rfl, _, _, _, true, rfl, .int i, kit_same, true, rfl, ite2 (fun _ => ⟨_, rfl, _, _, _, false, rfl, .int i, kit_ib, false, rfl, k⟩) (fun h => absurd rfl h)⟩
theorem f_isd (D : DefIn K "_law_is_deed" st__law_is_deed) (M : MG K mg) (B : Bi K) (F__law_whole : FnB P w K mg "_law_whole" ["_law_found"] 1 spWhole) : FnB P w K mg "_law_is_deed" ["_law_found", "_law_due"] 2 spIsD := by
  refine D.fn M sc__law_is_deed bd__law_is_deed (fun vs H Q E h => ?_) (fun f base cdv A outer s H vs Q E hr h => ?_)
  · obtain ⟨p, q, row, rfl, _⟩ := h
    rfl
  · obtain ⟨p, q, row, rfl, hp, hq, hpl, hf, k⟩ := h
    refine ⟨_, (pss_cons (ps_if (PW.pt (pw_or (pt_not (pt_val (pcallB call_isinst rfl (M.no _ B.b_isinstance) bt_isinstance (pc (pv 0) (pc (pe_bltn (v := .ty "tuple") rfl (M.no _ B.b_tuple) bt_tuple rfl) pa_nil))))) (pw_or1 (pt_cmpR op_ne (pcallB call_len_seq rfl (M.no _ B.b_len) bt_len (pc (pv 0) pa_nil)) (pcallB call_len_seq rfl (M.no _ B.b_len) bt_len (pc (pv 1) pa_nil)) (nomark _))))) (pss_one (ps_ret pe_bl)) pss_nil)
      (pss_cons (ps_for PassesOwn.never rfl (pi_range1 rfl (M.no _ B.b_range) (pc (pcallB call_len_seq rfl (M.no _ B.b_len) bt_len (pc (pv 1) pa_nil)) pa_nil)) (pg_name (i := 2) sc__law_is_deed.nd rfl (Or.inl rfl))
      (pss_one (ps_if (pt_val (pcallB call_isinst rfl (M.no _ B.b_isinstance) bt_isinstance (pc (pe_ix ix_tup (pv 1) (pv 2) (fun _ _ => rfl)) (pc (pe_bltn (v := .ty "str") rfl (M.no _ B.b_str) bt_str rfl) pa_nil)))) (pss_one (ps_if (PW.pt (pw_or (pt_not (pt_val (pcallB call_isinst rfl (M.no _ B.b_isinstance) bt_isinstance (pc (pe_ix ix_tup (pv 0) (pv 2) (fun _ _ => rfl)) (pc (pe_bltn (v := .ty "str") rfl (M.no _ B.b_str) bt_str rfl) pa_nil))))) (pw_or1 (pt_cmpR op_ne (pe_ix ix_tup (pv 0) (pv 2) (fun _ _ => rfl)) (pe_ix ix_tup (pv 1) (pv 2) (fun _ _ => rfl)) (nomark _))))) (pss_one (ps_ret pe_bl)) pss_nil)) (pss_one (ps_if (PW.pt (pw_or (pt_not (pt_val (pcallF F__law_whole (hr.mono (by decide)) rfl (pc (pe_ix ix_tup (pv 0) (pv 2) (fun _ _ => rfl)) pa_nil)))) (pw_or1 (pt_cmpR op_ne (pe_ix ix_tup (pv 0) (pv 2) (fun _ _ => rfl)) (pe_ix ix_tup (pv 1) (pv 2) (fun _ _ => rfl)) (nomark _))))) (pss_one (ps_ret pe_bl)) pss_nil)))))
      (pss_one (ps_ret pe_bl)))), ?_⟩
    have no : ∀ {A : Prop}, (!true) = true → A := fun h => nomatch h
    refine ⟨_, rfl, _, _, _, true, rfl, .tup hp, kit_same, true, rfl, ite2 no fun _ => ?_⟩
    refine ⟨_, rfl, p, _, rfl, .inr (SqT.of hp), _, rfl, q, _, rfl, .inr (SqT.of hq), rfl, _, rfl, ?_⟩
    refine iteNS rfl ?_
    refine ⟨_, rfl, q, _, rfl, .inr (SqT.of hq), _, rfl, by omega, by omega, ?_⟩
    refine for_range (fun i σ H' => (∃ v, σ = [some (.ref p), some (.ref q), v]) ∧ H' = H) ⟨⟨none, rfl⟩, rfl⟩ ?_ ?_
    · rintro i σ H' hi ⟨⟨v, rfl⟩, rfl⟩
      obtain ⟨x, hx⟩ : ∃ x, row[i]? = some x := ⟨row[i]'(by omega), by simp⟩
      have ix : atI row (0 + (i : Int)) = some x := by rw [Int.zero_add]; exact atI_nat hx
      rcases hpl x (List.mem_of_getElem? hx) with ⟨z, rfl⟩ | ⟨n, rfl⟩
      · refine ⟨_, rfl, _, rfl, q, row, _, _, rfl, rfl, SqT.of hq, ix, _, _, _, true, rfl, .str z, kit_same, true, rfl, ite2 (fun _ => ?_) fun h => absurd rfl h⟩
        refine ⟨_, rfl, _, rfl, p, row, _, _, rfl, rfl, SqT.of hp, ix, _, _, _, true, rfl, .str z, kit_same, true, rfl, ite2 no fun _ => ?_⟩
        refine ⟨_, rfl, _, rfl, p, row, _, _, rfl, rfl, SqT.of hp, ix, _, rfl, _, rfl, q, row, _, _, rfl, rfl, SqT.of hq, ix, rfl, _, rfl, ?_⟩
        exact iteNS rfl ⟨⟨_, rfl⟩, rfl⟩
      · refine ⟨_, rfl, _, rfl, q, row, _, _, rfl, rfl, SqT.of hq, ix, _, _, _, false, rfl, .int n, kit_is, false, rfl, ite2 (fun h => nomatch h) fun _ => ?_⟩
        refine ⟨_, rfl, _, rfl, p, row, _, _, rfl, rfl, SqT.of hp, ix, n, rfl, _, rfl, ite2 no fun _ => ?_⟩
        refine ⟨_, rfl, _, rfl, p, row, _, _, rfl, rfl, SqT.of hp, ix, _, rfl, _, rfl, q, row, _, _, rfl, rfl, SqT.of hq, ix, rfl, _, rfl, ?_⟩
        exact iteNS rfl ⟨⟨_, rfl⟩, rfl⟩
    · rintro σ H' ⟨⟨v, rfl⟩, rfl⟩
      exact k
theorem f_line (D : DefIn K "_law_line_for" st__law_line_for) (M : MG K mg) (B : Bi K) : FnB P w K mg "_law_line_for" ["_law_deed"] 1 spLine := by
  refine D.fn M sc__law_line_for bd__law_line_for (fun vs H Q E h => ?_) (fun f base cdv A outer s H vs Q E hr h => ?_)
  · obtain ⟨p, d, rfl, _⟩ := h
    rfl
  · obtain ⟨p, d, rfl, hp, hg, k⟩ := h
    refine ⟨_, (pss_cons (ps_if (pt_cmpR op_eq (pe_ix ix_tup (pv 0) pe_int (fun _ _ => rfl)) pe_str (nomark _)) (pss_one (ps_ret (pe_op op_add_str pe_str (pcallTy call_str_int rfl (M.no _ B.b_str) bt_str (pc (pe_ix ix_tup (pv 0) pe_int (fun _ _ => rfl)) pa_nil))))) pss_nil)
      (pss_one (ps_ret (pe_op op_add_str (pe_op op_add_str (pe_op op_add_str (pe_op op_add_str (pe_op op_add_str pe_str (pe_ix ix_tup (pv 0) pe_int (fun _ _ => rfl))) pe_str) (pcallTy call_str_int rfl (M.no _ B.b_str) bt_str (pc (pe_ix ix_tup (pv 0) pe_int (fun _ _ => rfl)) pa_nil))) pe_str) (pcallTy call_str_int rfl (M.no _ B.b_str) bt_str (pc (pe_ix ix_tup (pv 0) pe_int (fun _ _ => rfl)) pa_nil)))))), ?_⟩
    have big : (1000 : Nat) ≤ sizeLine := by decide
    cases d with
    | mark n =>
      have hn : n.natAbs < 10 ^ 100 := hg
      have l1 := (num_back hn).2.2.2
      refine ⟨_, rfl, p, _, 0, _, rfl, rfl, SqT.of hp, rfl, rfl, _, rfl, ite2 (fun _ => ?_) fun h => absurd (decide_eq_true rfl) h⟩
      refine ⟨_, rfl, p, _, 1, _, rfl, rfl, SqT.of hp, rfl, n, rfl, log_few hn, _, _, rfl, rfl, ?_, ?_⟩
      · have : ("mark " : Str).length = 5 := by decide +kernel
        show _ + (numT n).length ≤ _
        omega
      · have e := line_mark n
        show Q (.str (("mark " : Str) ++ numT n)) H
        rw [e]
        exact k
    | event wd a b =>
      obtain ⟨hw, ha, hb⟩ := hg
      have l1 := (num_back ha).2.2.2
      have l2 := (num_back hb).2.2.2
      have l3 := hw.2.2
      have l4 : ("event " : Str).length = 6 := by decide +kernel
      have l5 := sp_len
      refine ⟨_, rfl, p, _, 0, _, rfl, rfl, SqT.of hp, rfl, rfl, _, rfl, ite2 (fun h => ?_) fun _ => ?_⟩
      · exact absurd (dstr h) (by decide +kernel)
      refine ⟨_, rfl, p, _, 1, _, rfl, rfl, SqT.of hp, rfl, _, _, rfl, rfl, (by omega), _, _, rfl, rfl, (by rw [app_len]; omega), ?_⟩
      refine ⟨_, rfl, p, _, 2, _, rfl, rfl, SqT.of hp, rfl, a, rfl, log_few ha, _, _, rfl, rfl, ?_, _, _, rfl, rfl, ?_, ?_⟩
      · show _ + (numT a).length ≤ _
        rw [app_len, app_len]; omega
      · show (_ ++ numT a).length + _ ≤ _
        rw [app_len, app_len, app_len]; omega
      refine ⟨_, rfl, p, _, 3, _, rfl, rfl, SqT.of hp, rfl, b, rfl, log_few hb, _, _, rfl, rfl, ?_, ?_⟩
      · show (_ ++ numT a ++ _).length + (numT b).length ≤ _
        rw [app_len, app_len, app_len, app_len]; omega
      · have e := line_event wd a b
        show Q (.str (("event " : Str) ++ wd ++ " " ++ numT a ++ " " ++ numT b)) H
        rw [e]
        exact k
end
def spDeed : Sp := fun vs H Q _ => ∃ c : Int, vs = [.int c] ∧ ∀ (d : Dd) (p : Addr) (H' : Hp), Same H H' → d.Good → H' p = some (.tup d.row) → Q (.ref p) H'
theorem at_int (ls : List Int) {i : Int} (h0 : 0 ≤ i) (h1 : i < ls.length) : atI (ls.map V.int) i = some (.int (ls.getD i.toNat 0)) := by
  obtain ⟨n, rfl⟩ : ∃ n : Nat, i = n := ⟨i.toNat, by omega⟩
  have hn : n < ls.length := by omega
  refine atI_nat ?_
  simp [List.getD, hn]
theorem at_mem {α : Type} {xs : List α} {i : Int} (h0 : 0 ≤ i) (h1 : i < xs.length) : ∃ x, atI xs i = some x ∧ x ∈ xs := by
  have hl : i.toNat < xs.length := by omega
  refine ⟨xs[i.toNat], ?_, List.getElem_mem hl⟩
  have := atI_nat (xs := xs) (j := i.toNat) (v := xs[i.toNat]) (List.getElem?_eq_getElem hl)
  rwa [Int.toNat_of_nonneg h0] at this
theorem mod2 (a b c : Int) (h : 0 < c) : 0 ≤ a % b % c ∧ a % b % c < c := ⟨Int.emod_nonneg _ (by omega), Int.emod_lt_of_pos _ h⟩
def numL : List V := [.int 0, .int (-1), .int 1, .int 10, .int 100000000000000000000, .int (0 - 100000000000000000000)]
def wordL : List V := [.str "a", .str "z", .str "event", .str "mark", .str "bell"]
theorem num_in {x : V} (h : x ∈ numL) : ∃ n : Int, x = .int n ∧ n.natAbs < 10 ^ 100 := by
  rcases List.mem_cons.mp h with rfl | h
  · exact ⟨_, rfl, by decide⟩
  rcases List.mem_cons.mp h with rfl | h
  · exact ⟨_, rfl, by decide⟩
  rcases List.mem_cons.mp h with rfl | h
  · exact ⟨_, rfl, by decide⟩
  rcases List.mem_cons.mp h with rfl | h
  · exact ⟨_, rfl, by decide⟩
  rcases List.mem_cons.mp h with rfl | h
  · exact ⟨_, rfl, by decide⟩
  · cases List.mem_singleton.mp h
    exact ⟨_, rfl, by decide⟩
def WordN (w : Str) (n : Nat) : Prop := w.cps.toList ≠ [] ∧ (∀ c ∈ w.cps.toList, 97 ≤ c ∧ c ≤ 122) ∧ w.length ≤ n
theorem word_lit {w : Str} (h : (decide (w.cps.toList ≠ []) && w.cps.toList.all (fun c => decide (97 ≤ c) && decide (c ≤ 122)) && decide (w.length ≤ 5)) = true) : WordN w 5 := by
  simp only [Bool.and_eq_true, decide_eq_true_eq, List.all_eq_true] at h
  exact ⟨h.1.1, h.1.2, h.2⟩
theorem word_in {x : V} (h : x ∈ wordL) : ∃ w : Str, x = .str w ∧ WordN w 5 := by
  rcases List.mem_cons.mp h with rfl | h
  · exact ⟨_, rfl, word_lit (by decide +kernel)⟩
  rcases List.mem_cons.mp h with rfl | h
  · exact ⟨_, rfl, word_lit (by decide +kernel)⟩
  rcases List.mem_cons.mp h with rfl | h
  · exact ⟨_, rfl, word_lit (by decide +kernel)⟩
  rcases List.mem_cons.mp h with rfl | h
  · exact ⟨_, rfl, word_lit (by decide +kernel)⟩
  · cases List.mem_singleton.mp h
    exact ⟨_, rfl, word_lit (by decide +kernel)⟩
theorem abc_all : ("abcdefghijklmnopqrstuvwxyz" : Str).cps.toList.all (fun c => decide (97 ≤ c) && decide (c ≤ 122)) = true ∧ ("abcdefghijklmnopqrstuvwxyz" : Str).cps.toList.length = 26 := by decide +kernel
theorem word_step {w : Str} {n c : Nat} (h : WordN w n) (hc : c ∈ ("abcdefghijklmnopqrstuvwxyz" : Str).cps.toList) : WordN (w ++ ⟨#[c]⟩) (n + 1) := by
  obtain ⟨h1, h2, h3⟩ := h
  refine ⟨?_, ?_, ?_⟩
  · rw [app_list]
    simp
  · rw [app_list]
    intro d hd
    rcases List.mem_append.mp hd with hd | hd
    · exact h2 d hd
    · cases List.mem_singleton.mp hd
      have := List.all_eq_true.mp abc_all.1 _ hc
      simpa using this
  · rw [app_len]
    have : (⟨#[c]⟩ : Str).length = 1 := rfl
    omega
section
variable {P : Program} {w : World} {K : PySem.W.Frag} {mg : Str → Option Value} {C B NL : Addr}
theorem f_deed (D : DefIn K "_law_deed_of" st__law_deed_of) (M : MG K mg) (B : Bi K) : FnB P w K mg "_law_deed_of" ["_law_cell"] 1 spDeed := by
  refine D.fn M sc__law_deed_of bd__law_deed_of (fun vs H Q E h => ?_) (fun f base cdv A outer s H vs Q E hr h => ?_)
  · obtain ⟨c, rfl, _⟩ := h
    rfl
  · obtain ⟨c, rfl, k⟩ := h
    refine ⟨_, (pss_cons (pset (i := 1) sc__law_deed_of.nd rfl (Or.inl rfl) pe_int)
      (pss_cons (pset (i := 2) sc__law_deed_of.nd rfl (Or.inl rfl) (pe_ix ix_list (pe_lst (pc pe_int (pc (pe_un uNeg pe_int) (pc pe_int (pc pe_int (pc (pv 1) (pc (pe_op oSub pe_int (pv 1)) pa_nil))))))) (pe_op oMod (pe_op oMod (pe_op oMul (pv 0) pe_int) pe_int) pe_int) (fun _ _ => rfl)))
      (pss_cons (pset (i := 3) sc__law_deed_of.nd rfl (Or.inl rfl) (pe_op oSub (pe_op oMod (pe_op oFdiv (pv 0) pe_int) pe_int) pe_int))
      (pss_consJ (ps_if (pt_cmpR op_eq (pe_op oMod (pe_op oMod (pe_op oMul (pv 0) pe_int) pe_int) pe_int) pe_int (nomark _)) (pss_one (pset (i := 3) sc__law_deed_of.nd rfl (Or.inl rfl) (pe_op oMulB (pe_op oMulB (pe_op oMulB (pv 3) (pv 1)) (pv 1)) (pv 1)))) pss_nil)
      (pss_cons (ps_if (pt_cmpR op_eq (pe_op oMod (pe_op oMod (pe_op oMul (pv 0) pe_int) pe_int) pe_int) pe_int (nomark _)) (pss_one (ps_ret (pe_tup (pc pe_str (pc (pv 2) pa_nil))))) pss_nil)
      (pss_cons (pset (i := 4) sc__law_deed_of.nd rfl (Or.inl rfl) (pe_ix ix_list (pe_lst (pc pe_str (pc pe_str (pc pe_str (pc pe_str (pc pe_str pa_nil)))))) (pe_op oMod (pe_op oMod (pe_op oMul (pv 0) pe_int) pe_int) pe_int) (fun _ _ => rfl)))
      (pss_cons (ps_for PassesOwn.never rfl (pi_range1 rfl (M.no _ B.b_range) (pc (pe_op oMod (pe_op oMod (pe_op oMul (pv 0) pe_int) pe_int) pe_int) pa_nil)) (pg_name (i := 5) sc__law_deed_of.nd rfl (Or.inl rfl))
      (pss_one (pset (i := 4) sc__law_deed_of.nd rfl (Or.inl rfl) (pe_op op_add_str (pv 4) (pe_ix ix_str pe_str (pe_op oMod (pe_op oMod (pe_op oMul (pe_op oAdd (pv 0) (pe_op oMul pe_int (pv 5))) pe_int) pe_int) pe_int) (fun _ _ => rfl))))))
      (pss_cons (ps_if (pt_cmpR op_eq (pe_op oMod (pe_op oMod (pe_op oMul (pv 0) pe_int) pe_int) pe_int) pe_int (nomark _)) (pss_one (ps_ret (pe_tup (pc pe_str (pc (pv 4) (pc (pv 3) (pc (pv 2) pa_nil))))))) pss_nil)
      (pss_one (ps_ret (pe_tup (pc pe_str (pc (pv 4) (pc (pv 2) (pc (pv 3) pa_nil))))))))))))))), ?_⟩
    refine ⟨_, rfl, _, rfl, _, rfl, _, _, rfl, rfl, (by show 6 ≤ sizeLine; decide), fun lb eb => ?_⟩
    have sb := Same.new (o := .lst numL) eb
    refine ⟨_, rfl, _, _, rfl, rfl, .inr ⟨by decide, by decide⟩, _, _, rfl, rfl, (by show (0 : Int) < _; decide), _, _, rfl, rfl, (by show (0 : Int) < _; decide), ?_⟩
    have b1 := mod2 (c * 48271) 1009 6 (by decide)
    obtain ⟨x, ix, hx⟩ := at_mem (xs := numL) b1.1 (by show _ < (6 : Int); omega)
    obtain ⟨n, rfl, hn⟩ := num_in hx
    refine ⟨lb, numL, _, _, rfl, rfl, SqL.of upd_same, ix, ?_⟩
    refine ⟨_, rfl, _, _, rfl, rfl, ⟨by decide, by decide, by decide⟩, _, _, rfl, rfl, (by show (0 : Int) < _; decide), _, _, rfl, rfl, ?_⟩
    have o1 : -1000 ≤ c / 6 % 2001 - 1000 ∧ c / 6 % 2001 - 1000 ≤ 1000 := by omega
    generalize c / 6 % 2001 - 1000 = o at *
    generalize hH1 : upd H lb (.lst numL) = H1 at *
    refine ⟨fun σ' H' => ∃ o' : Int, σ' = [some (.int c), some (.int 100000000000000000000), some (.int n), some (.int o'), none, none] ∧ H' = H1 ∧ o'.natAbs < 10 ^ 100, ?_, ?_⟩
    · refine ⟨_, rfl, _, _, rfl, rfl, .inr ⟨by decide, by decide⟩, _, _, rfl, rfl, (by show (0 : Int) < _; decide), _, _, rfl, rfl, (by show (0 : Int) < _; decide), rfl, _, rfl, ?_⟩
      refine ite2 (fun _ => ?_) (fun _ => ⟨o, rfl, hH1, by omega⟩)
      refine ⟨_, rfl, _, rfl, _, _, rfl, rfl, ⟨⟨by omega, by omega⟩, by decide, by decide⟩, _, rfl, _, _, rfl, rfl, ⟨⟨by omega, by omega⟩, by decide, by decide⟩, _, rfl, _, _, rfl, rfl, ⟨⟨by omega, by omega⟩, by decide, by decide⟩, ?_⟩
      exact ⟨_, rfl, hH1, by omega⟩
    · rintro σ' H' ⟨o', rfl, rfl, ho⟩
      refine ⟨_, rfl, _, _, rfl, rfl, .inr ⟨by decide, by decide⟩, _, _, rfl, rfl, (by show (0 : Int) < _; decide), _, _, rfl, rfl, (by show (0 : Int) < _; decide), rfl, _, rfl, ?_⟩
      refine ite2 (fun _ => ?_) (fun _ => ?_)
      · exact ⟨_, rfl, by show 2 ≤ sizeLine; decide, fun p hp => k (.mark n) p _ (sb.trans (Same.new hp)) hn upd_same⟩
      refine ⟨(by show 5 ≤ sizeLine; decide), fun lw ew => ?_⟩
      have sw := sb.trans (Same.new (o := .lst wordL) ew)
      refine ⟨_, rfl, _, _, rfl, rfl, .inr ⟨by decide, by decide⟩, _, _, rfl, rfl, (by show (0 : Int) < _; decide), _, _, rfl, rfl, (by show (0 : Int) < _; decide), ?_⟩
      have b2 := mod2 (c * 48271) 1019 5 (by decide)
      obtain ⟨x2, ix2, hx2⟩ := at_mem (xs := wordL) b2.1 (by show _ < (5 : Int); omega)
      obtain ⟨wd, rfl, hw⟩ := word_in hx2
      refine ⟨lw, wordL, _, _, rfl, rfl, SqL.of upd_same, ix2, ?_⟩
      generalize hH2 : upd H' lw (.lst wordL) = H2 at *
      have b3 := mod2 (c * 48271) 1033 7 (by decide)
      refine ⟨_, rfl, _, _, rfl, rfl, .inr ⟨by decide, by decide⟩, _, _, rfl, rfl, (by show (0 : Int) < _; decide), _, _, rfl, rfl, (by show (0 : Int) < _; decide), _, rfl, by omega, by omega, ?_⟩
      refine for_range (fun i σ H3 => ∃ (wd : Str) (kk : Option V), σ = [some (.int c), some (.int 100000000000000000000), some (.int n), some (.int o'), some (.str wd), kk] ∧ H3 = H2 ∧ WordN wd (5 + i)) ⟨wd, none, rfl, hH2, hw⟩ ?_ ?_
      · rintro i σ H3 hi ⟨wd, kk, rfl, rfl, hw⟩
        refine ⟨_, rfl, _, rfl, _, rfl, _, _, rfl, rfl, .inl ⟨by decide, by decide⟩, _, _, rfl, rfl, _, _, rfl, rfl, .inr ⟨by decide, by decide⟩, _, _, rfl, rfl, (by show (0 : Int) < _; decide), _, _, rfl, rfl, (by show (0 : Int) < _; decide), ?_⟩
        have b4 := mod2 ((c + 5 * (0 + (i : Int))) * 48271) 1039 26 (by decide)
        obtain ⟨ch, ix3, hc⟩ := at_mem (xs := ("abcdefghijklmnopqrstuvwxyz" : Str).cps.toList) b4.1 (by rw [abc_all.2]; omega)
        refine ⟨_, _, ch, rfl, rfl, ?_, ix3, _, _, rfl, rfl, ?_, ?_⟩
        · have : ("abcdefghijklmnopqrstuvwxyz" : Str).length = 26 := abc_all.2
          rw [this]
          decide
        · have := hw.2.2
          have big : (1000 : Nat) ≤ sizeLine := by decide
          show wd.length + 1 ≤ _
          omega
        · exact ⟨_, _, rfl, rfl, word_step hw hc⟩
      · rintro σ H3 ⟨wd, kk, rfl, rfl, h1, h2, h3⟩
        have hw : Word wd := ⟨h1, h2, by omega⟩
        refine ⟨_, rfl, _, _, rfl, rfl, .inr ⟨by decide, by decide⟩, _, _, rfl, rfl, (by show (0 : Int) < _; decide), _, _, rfl, rfl, (by show (0 : Int) < _; decide), rfl, _, rfl, ?_⟩
        refine ite2 (fun _ => ?_) (fun _ => ?_)
        · exact ⟨_, rfl, _, rfl, _, rfl, by show 4 ≤ sizeLine; decide, fun p hp => k (.event wd o' n) p _ (sw.trans (Same.new hp)) ⟨hw, ho, hn⟩ upd_same⟩
        · exact ⟨_, rfl, _, rfl, _, rfl, by show 4 ≤ sizeLine; decide, fun p hp => k (.event wd n o') p _ (sw.trans (Same.new hp)) ⟨hw, hn, ho⟩ upd_same⟩
end
end K12
namespace K12
open PySem PySem.Spec PyProof.Rows L2 K1
def spRef : Sp := fun vs H Q _ => ∃ (wh : Int) (z s : Str), vs = [.int wh, .str z] ∧ okL z = true ∧ (((wh = 0 ∨ wh = 1) ∧ readD z = none ∧ s = "no line") ∨ (wh = 2 ∧ keyOk z = true ∧ ((readPl z = none ∧ s = "no line") ∨ ∃ pl, readPl z = some pl ∧ pl.bad = true ∧ s = "bad plan"))) ∧ ∀ H', Same H H' → Q (.str s) H'
def spUnder : Sp := fun vs H Q _ => ∃ z : Str, vs = [.str z] ∧ okL z = true ∧ readD z = none ∧ ∀ H', Same H H' → Q (.bl true) H'
section
variable {P : Program} {w : World} {K : PySem.W.Frag} {mg : Str → Option Value} {C BP NL GE : Addr}
theorem f_ref (D : DefIn K "_law_refused" st__law_refused) (M : MG K mg) (E_NoLine : ExcIn K "NoLine" NL) (E_BadPlan : ExcIn K "BadPlan" BP) (x0 : PySem.W.exmOne K (.ref NL) (.ref NL) = some true) (x2 : PySem.W.exmOne K (.ref BP) (.ref NL) = some false) (x3 : PySem.W.exmOne K (.ref BP) (.ref BP) = some true)
    (X_read : FnX P w K mg "read" ["line"] 3 (spRead NL)) (X_read_all : FnX P w K mg "read_all" ["lines"] 4 (spAll K NL)) (X_read_plan : FnX P w K mg "read_plan" ["line"] 4 (spPlan NL BP)) : FnB P w K mg "_law_refused" ["_law_which", "_law_line"] 5 spRef := by
  refine D.fn M sc__law_refused bd__law_refused (fun vs H Q E h => ?_) (fun f base cdv A outer s H vs Q E hr h => ?_)
  · obtain ⟨i, z, s, rfl, _⟩ := h
    rfl
  · obtain ⟨i, z, sd, rfl, hz, hw, k⟩ := h
    refine ⟨_, (pss_cons (pset (i := 2) sc__law_refused.nd rfl (Or.inl rfl) pe_str)
      (pss_cons (ps_try2 rfl rfl rfl (M.is _ _ E_NoLine.at_) rfl (M.is _ _ E_BadPlan.at_) (fun pins E => (pss_one (ps_if (pt_cmpR op_eq (pv 0) pe_int (nomark _)) (pss_one (pexpr (pe_callX X_read passT (hr.mono (by decide)) rfl (pc (pv 1) pa_nil)))) (pss_one (ps_if (pt_cmpR op_eq (pv 0) pe_int (nomark _)) (pss_one (pexpr (pe_callX X_read_all passT (hr.mono (by decide)) rfl (pc (pe_lst (pc pe_str (pc (pv 1) (pc pe_str pa_nil)))) pa_nil)))) (pss_one (pexpr (pe_callX X_read_plan passT (hr.mono (by decide)) rfl (pc (pv 1) pa_nil))))))))) (fun a => (pss_one (pset (i := 2) sc__law_refused.nd rfl (Or.inl rfl) pe_str))) (fun a => (pss_one (pset (i := 2) sc__law_refused.nd rfl (Or.inl rfl) pe_str))))
      (pss_one (ps_ret (pv 2))))), ?_⟩
    rcases hw with ⟨hi, hd, rfl⟩ | ⟨rfl, hk, hpl⟩
    · refine ⟨_, rfl, rfl, _, rfl, ite2 (fun _ => ?_) (fun h0 => ?_)⟩
      · exact ⟨_, rfl, z, rfl, hz, fun d p H' s' e => (by rw [hd] at e; cases e), fun H' s' _ => .inl ⟨x0, _, rfl, k H' s'⟩⟩
      · refine ⟨_, rfl, rfl, _, rfl, ite2 (fun _ => ?_) (fun h1 => ?_)⟩
        · refine ⟨_, rfl, (by show 3 ≤ sizeLine; decide), fun l hl => ⟨l, ["mark 1", z, "mark 2"], rfl, SqL.of upd_same, ?_, (by show 3 ≤ 1000; decide), fun ds p xs H' s' e => ?_, fun z' H' _ s' _ => .inl ⟨x0, _, rfl, k H' ((Same.new hl).trans s')⟩⟩⟩
          · intro y hy
            rcases List.mem_cons.mp hy with rfl | hy
            · exact mark_12.1
            rcases List.mem_cons.mp hy with rfl | hy
            · exact hz
            · cases List.mem_singleton.mp hy
              exact mark_12.2.2.1
          · have e' : [readD "mark 1", readD z, readD "mark 2"] = ds.map some := e
            rw [hd] at e'
            have hm : (none : Option Dd) ∈ ds.map some := by rw [← e']; simp
            obtain ⟨y, _, hy⟩ := List.mem_map.mp hm
            cases hy
        · exfalso
          rcases hi with rfl | rfl
          · exact h0 (decide_eq_true rfl)
          · exact h1 (decide_eq_true rfl)
    · refine ⟨_, rfl, rfl, _, rfl, ite2 (fun h => absurd (vint_eq h) (by decide)) (fun _ => ?_)⟩
      refine ⟨_, rfl, rfl, _, rfl, ite2 (fun h => absurd (vint_eq h) (by decide)) (fun _ => ?_)⟩
      refine ⟨_, rfl, z, rfl, hz, hk, ?_⟩
      rcases hpl with ⟨hn, rfl⟩ | ⟨pl, hs, hb, rfl⟩
      · refine ⟨fun pl p H' s' e => (by rw [hn] at e; cases e), fun pl H' s' e => (by rw [hn] at e; cases e), fun H' s' _ => .inl ⟨x0, _, rfl, k H' s'⟩⟩
      · refine ⟨fun q p H' s' e hq => ?_, fun q H' s' e _ => .inr ⟨x2, x3, _, rfl, k H' s'⟩, fun H' s' e => (by rw [hs] at e; cases e)⟩
        rw [hs] at e
        cases e
        rw [hb] at hq
        cases hq
theorem f_under (D : DefIn K "_law_under_base" st__law_under_base) (M : MG K mg) (B : K1.Bi K) (E_BadPlan : ExcIn K "BadPlan" BP) (E_GaugeError : ExcIn K "GaugeError" GE) (E_NoLine : ExcIn K "NoLine" NL) (hx : PySem.W.exmOne K (.ref NL) (.ref GE) = some true)
    (i1 : PySem.W.kitOne K (.ref NL) (.ref BP) = some false) (i2 : PySem.W.kitOne K (.ref NL) (.ref NL) = some true) (i3 : PySem.W.kitOne K (.ref NL) (.type "ValueError") = some true)
    (X_read : FnX P w K mg "read" ["line"] 3 (spRead NL)) : FnB P w K mg "_law_under_base" ["_law_line"] 4 spUnder := by
  refine D.fn M sc__law_under_base bd__law_under_base (fun vs H Q E h => ?_) (fun f base cdv A outer s H vs Q E hr h => ?_)
  · obtain ⟨z, rfl, _⟩ := h
    rfl
  · obtain ⟨z, rfl, hz, hd, k⟩ := h
    refine ⟨_, (pss_cons (ps_tryAs (i := 1) rfl rfl rfl rfl (M.is _ _ E_GaugeError.at_) sc__law_under_base.nd rfl rfl (fun pins E => (pss_one (pexpr (pe_callX X_read passT (hr.mono (by decide)) rfl (pc (pv 0) pa_nil))))) (fun a => (pss_cons (pset (i := 2) sc__law_under_base.nd rfl (Or.inl rfl) (pe_lst (pc (pcallB (callK_isinstX (K := K) rfl) rfl (M.no _ B.b_isinstance) bt_isinstance (pc (pv 1) (pc (pe_glob rfl (M.is _ _ E_BadPlan.at_) (show RelV (.ref _) (.ref _) from rfl)) pa_nil))) (pc (pcallB (callK_isinstX (K := K) rfl) rfl (M.no _ B.b_isinstance) bt_isinstance (pc (pv 1) (pc (pe_glob rfl (M.is _ _ E_NoLine.at_) (show RelV (.ref _) (.ref _) from rfl)) pa_nil))) pa_nil))))
      (pss_one (ps_ret (pe_and (pcallB (callK_isinstX (K := K) rfl) rfl (M.no _ B.b_isinstance) bt_isinstance (pc (pv 1) (pc (pe_bltn (v := .ty "ValueError") rfl (M.no _ B.b_ValueError) bt_ValueError rfl) pa_nil))) (pe_one (pe_cmpR op_eq (pe_bmK (K := K) rfl PySem.F.plainAttrs_list PySem.F.slot_list_count PySem.F.type_list_count mt_count (pv 2) (pc pe_bl pa_nil)) pe_int (nomark _)))))))))
      (pss_one (ps_ret pe_bl))), ?_⟩
    refine ⟨_, rfl, z, rfl, hz, fun d p H' s' e => (by rw [hd] at e; cases e), fun H' s' _ => ⟨hx, fun a ha => ?_⟩⟩
    refine ⟨_, rfl, a, _, _, false, rfl, upd_same, ⟨_, E_NoLine⟩, .inl ⟨_, rfl, i1⟩, ?_⟩
    refine ⟨_, rfl, a, _, _, true, rfl, upd_same, ⟨_, E_NoLine⟩, .inl ⟨_, rfl, i2⟩, ?_⟩
    refine ⟨(by show 2 ≤ sizeLine; decide), fun l hl => ?_⟩
    have hal : a ≠ l := ne_of_none upd_same hl
    refine ⟨_, rfl, a, _, _, true, rfl, (by rw [upd_ne hal, upd_same]), ⟨_, E_NoLine⟩, .inr ⟨_, rfl, i3⟩, true, rfl, ?_⟩
    refine ⟨_, rfl, .inl ⟨rfl, _, SqL.of upd_same⟩, l, [false, true], true, rfl, rfl, upd_same, rfl, ?_⟩
    exact k _ (s'.trans ((Same.new ha).trans (Same.new hl)))
end
end K12
namespace K12
open PySem PySem.Spec PyProof.Rows L2 K1
def DueR (H : Hp) (v : V) : Str ⊕ Pl → Prop
  | .inl s => v = .str s
  | .inr pl => ∃ b, v = .ref b ∧ H b = some (.tup pl.row)
def PrR (H : Hp) (x : V) (p : Str × (Str ⊕ Pl)) : Prop := ∃ a v, x = .ref a ∧ H a = some (.tup [.str p.1, v]) ∧ DueR H v p.2
def Prs (H : Hp) : List V → List (Str × (Str ⊕ Pl)) → Prop := Paired (PrR H)
theorem Prs.keep {H H' : Hp} {xs : List V} {ps : List (Str × (Str ⊕ Pl))} (h : Prs H xs ps) (k : ∀ a row, H a = some (.tup row) → H' a = some (.tup row)) : Prs H' xs ps :=
  Paired.imp' (fun _ p ⟨a, v, e, h, d⟩ => ⟨a, v, e, k a _ h, by
    obtain ⟨z, q⟩ := p
    cases q with
    | inl s => exact d
    | inr pl =>
      obtain ⟨b, e, h⟩ := d
      exact ⟨b, e, k b _ h⟩⟩) h
theorem Prs.same {H H' : Hp} {xs : List V} {ps : List (Str × (Str ⊕ Pl))} (h : Prs H xs ps) (s : Same H H') : Prs H' xs ps := h.keep fun a row e => s _ _ e
theorem Prs.add1 {H : Hp} {xs : List V} {ps : List (Str × (Str ⊕ Pl))} {a : Addr} {z s : Str} (h : Prs H xs ps) (ha : H a = none) : Prs (upd H a (.tup [.str z, .str s])) (xs ++ [.ref a]) (ps ++ [(z, .inl s)]) :=
  Paired.snoc (h.same (Same.new ha)) ⟨a, _, rfl, upd_same, rfl⟩
theorem Prs.add2 {H : Hp} {xs : List V} {ps : List (Str × (Str ⊕ Pl))} {a b : Addr} {z : Str} {pl : Pl} (h : Prs H xs ps) (hb : H b = none) (ha : upd H b (.tup pl.row) a = none) : Prs (upd (upd H b (.tup pl.row)) a (.tup [.str z, .ref b])) (xs ++ [.ref a]) (ps ++ [(z, .inr pl)]) :=
  Paired.snoc (h.same ((Same.new hb).trans (Same.new ha))) ⟨a, _, rfl, upd_same, b, rfl, by rw [upd_ne (ne_of_none upd_same ha), upd_same]⟩
theorem Prs.put {H : Hp} {xs ys zs : List V} {ps : List (Str × (Str ⊕ Pl))} {l : Addr} (h : Prs H xs ps) (hl : H l = some (.lst ys)) : Prs (upd H l (.lst zs)) xs ps :=
  h.keep fun a row e => by rw [upd_ne (ne_of e hl (by intro z; cases z))]; exact e
structure Mid (H0 H : Hp) (ps : List (Str × (Str ⊕ Pl))) (xs : List V) : Prop where
  same : Same H0 H
  prs : Prs H xs ps
structure Laid (H0 H : Hp) (l : Addr) (ps : List (Str × (Str ⊕ Pl))) (xs : List V) : Prop where
  same : Same H0 H
  new : H0 l = none
  at_ : H l = some (.lst xs)
  prs : Prs H xs ps
theorem Mid.add1 {H0 H : Hp} {xs : List V} {ps : List (Str × (Str ⊕ Pl))} {a : Addr} (z s : Str) (h : Mid H0 H ps xs) (ha : H a = none) : Mid H0 (upd H a (.tup [.str z, .str s])) (ps ++ [(z, .inl s)]) (xs ++ [.ref a]) :=
  ⟨h.same.trans (Same.new ha), h.prs.add1 ha⟩
theorem Mid.add2 {H0 H : Hp} {xs : List V} {ps : List (Str × (Str ⊕ Pl))} {a b : Addr} (z : Str) (pl : Pl) (h : Mid H0 H ps xs) (hb : H b = none) (ha : upd H b (.tup pl.row) a = none) : Mid H0 (upd (upd H b (.tup pl.row)) a (.tup [.str z, .ref b])) (ps ++ [(z, .inr pl)]) (xs ++ [.ref a]) :=
  ⟨h.same.trans ((Same.new hb).trans (Same.new ha)), h.prs.add2 hb ha⟩
theorem Mid.laid {H0 H : Hp} {xs : List V} {ps : List (Str × (Str ⊕ Pl))} {l : Addr} (h : Mid H0 H ps xs) (hl : H l = none) : Laid H0 (upd H l (.lst xs)) l ps xs :=
  ⟨h.same.trans (Same.new hl), h.same.free hl, upd_same, h.prs.same (Same.new hl)⟩
theorem Laid.mid {H0 H : Hp} {l : Addr} {ps : List (Str × (Str ⊕ Pl))} {xs : List V} (h : Laid H0 H l ps xs) : Mid H H ps xs := ⟨Same.refl _, h.prs⟩
theorem Laid.put {H0 H H' : Hp} {l : Addr} {ps qs : List (Str × (Str ⊕ Pl))} {xs ys : List V} (h : Laid H0 H l ps xs) (m : Mid H H' qs ys) : Laid H0 (upd H' l (.lst ys)) l qs ys :=
  ⟨fun b o e => by rw [upd_ne (ne_of_none e h.new)]; exact m.same _ _ (h.same _ _ e), h.new, upd_same, m.prs.put (m.same _ _ h.at_)⟩
theorem Laid.ext {H0 H H' : Hp} {l e : Addr} {ps qs : List (Str × (Str ⊕ Pl))} {xs ys zs : List V} (h : Laid H0 H l ps xs) (m : Mid H H' qs ys) (he : H' e = none) : Laid H0 (upd (upd H' e (.lst zs)) l (.lst ys)) l qs ys :=
  h.put ⟨m.same.trans (Same.new he), m.prs.same (Same.new he)⟩
theorem Laid.few {H0 H : Hp} {l : Addr} {ps : List (Str × (Str ⊕ Pl))} {xs : List V} (h : Laid H0 H l ps xs) {n : Nat} (hn : ps.length ≤ n) (h2 : n + 100 ≤ 1000) : xs.length < sizeLine ∧ xs.length + 10 ≤ sizeLine := by
  have e : xs.length = ps.length := Paired.length h.prs
  have : (1000 : Nat) ≤ sizeLine := by decide
  omega
def spPlans : Sp := fun vs H Q _ => vs = [] ∧ ∀ (l : Addr) (xs : List V) (H' : Hp), Same H H' → H' l = some (.lst xs) → Prs H' xs plansL → Q (.ref l) H'
section
variable {P : Program} {w : World} {K : PySem.W.Frag} {mg : Str → Option Value}
theorem prs_len {H : Hp} {xs : List V} {ps : List (Str × (Str ⊕ Pl))} (h : Prs H xs ps) : xs.length = ps.length := Paired.length h
theorem f_plans (D : DefIn K "_law_plans" st__law_plans) (M : MG K mg) : FnB P w K mg "_law_plans" [] 1 spPlans := by
  refine D.fn M sc__law_plans bd__law_plans (fun vs H Q E h => ?_) (fun f base cdv A outer s H vs Q E hr h => ?_)
  · obtain ⟨rfl, _⟩ := h
    rfl
  · obtain ⟨rfl, k⟩ := h
    have le2 : (2 : Nat) ≤ sizeLine := by decide
    have le3 : (3 : Nat) ≤ sizeLine := by decide
    have le4 : (4 : Nat) ≤ sizeLine := by decide
    refine ⟨_, (pss_consJ (pset (i := 0) sc__law_plans.nd rfl (Or.inl rfl) (pe_lst (pc (pe_tup (pc pe_str (pc (pe_tup (pc pe_str (pc pe_int (pc pe_int pa_nil)))) pa_nil))) (pc (pe_tup (pc pe_str (pc (pe_tup (pc pe_str (pc pe_int (pc pe_int pa_nil)))) pa_nil))) pa_nil))))
      (pss_consJ (pexpr (pe_bm PySem.F.plainAttrs_list PySem.F.slot_list_append PySem.F.type_list_append mt_append (pv 0) (pc (pe_tup (pc pe_str (pc (pe_tup (pc pe_str (pc pe_int (pc pe_int (pc pe_int pa_nil))))) pa_nil))) pa_nil)))
      (pss_consJ (pexpr (pe_bm PySem.F.plainAttrs_list PySem.F.slot_list_append PySem.F.type_list_append mt_append (pv 0) (pc (pe_tup (pc pe_str (pc (pe_tup (pc pe_str (pc pe_int (pc pe_int (pc pe_int pa_nil))))) pa_nil))) pa_nil)))
      (pss_consJ (pexpr (pe_bm PySem.F.plainAttrs_list PySem.F.slot_list_extend PySem.F.type_list_extend mt_extend (pv 0) (pc (pe_lst (pc (pe_tup (pc pe_str (pc pe_str pa_nil))) (pc (pe_tup (pc pe_str (pc pe_str pa_nil))) (pc (pe_tup (pc pe_str (pc pe_str pa_nil))) pa_nil)))) pa_nil)))
      (pss_consJ (pexpr (pe_bm PySem.F.plainAttrs_list PySem.F.slot_list_extend PySem.F.type_list_extend mt_extend (pv 0) (pc (pe_lst (pc (pe_tup (pc pe_str (pc pe_str pa_nil))) (pc (pe_tup (pc pe_str (pc pe_str pa_nil))) pa_nil))) pa_nil)))
      (pss_cons (ps_for PassesOwn.never rfl (pi_list (pe_lst (pc pe_str (pc pe_str (pc pe_str (pc pe_str (pc pe_str (pc pe_str (pc pe_str pa_nil))))))))) (pg_name (i := 1) sc__law_plans.nd rfl (Or.inl rfl))
      (pss_one (pexpr (pe_bm PySem.F.plainAttrs_list PySem.F.slot_list_append PySem.F.type_list_append mt_append (pv 0) (pc (pe_tup (pc (pv 1) (pc pe_str pa_nil))) pa_nil)))))
      (pss_cons (ps_for PassesOwn.never rfl (pi_list (pe_lst (pc pe_str (pc pe_str (pc pe_str (pc pe_str (pc pe_str (pc pe_str pa_nil)))))))) (pg_name (i := 1) sc__law_plans.nd rfl (Or.inl rfl))
      (pss_one (pexpr (pe_bm PySem.F.plainAttrs_list PySem.F.slot_list_append PySem.F.type_list_append mt_append (pv 0) (pc (pe_tup (pc (pv 1) (pc pe_str pa_nil))) pa_nil)))))
      (pss_one (ps_ret (pv 0)))))))))), ?_⟩
    refine ⟨fun σ H2 => ∃ l xs, σ = [some (.ref l), none] ∧ Laid H H2 l [("fixed 1 0", .inr (.fixed 1 0)), ("pauses 10 3", .inr (.pauses 10 3))] xs, ?_, ?_⟩
    · refine ⟨le3, fun b1 hb1 => ⟨le2, fun a1 ha1 => ⟨le3, fun b2 hb2 => ⟨le2, fun a2 ha2 => ⟨le2, fun l hl => ?_⟩⟩⟩⟩⟩
      exact ⟨l, [.ref a1, .ref a2], rfl, Mid.laid (Mid.add2 "pauses 10 3" (.pauses 10 3) (Mid.add2 "fixed 1 0" (.fixed 1 0) (⟨Same.refl _, .nil⟩ : Mid H H [] []) hb1 ha1) hb2 ha2) hl⟩
    rintro σ H2 ⟨l, xs2, rfl, L2⟩
    refine ⟨fun σ H3 => ∃ xs, σ = [some (.ref l), none] ∧ Laid H H3 l [("fixed 1 0", .inr (.fixed 1 0)), ("pauses 10 3", .inr (.pauses 10 3)), ("sliding 100 1 0", .inr (.sliding 100 1 0))] xs, ?_, ?_⟩
    · refine ⟨_, rfl, .inl ⟨rfl, _, SqL.of L2.at_⟩, le4, fun b3 hb3 => ⟨le2, fun a3 ha3 => ?_⟩⟩
      have m3 := L2.mid.add2 "sliding 100 1 0" (.sliding 100 1 0) hb3 ha3
      exact ⟨l, _, _, rfl, rfl, m3.same _ _ L2.at_, (L2.few (n := 2) (by decide) (by decide)).1, _, rfl, L2.put m3⟩
    rintro σ H3 ⟨xs3, rfl, L3⟩
    refine ⟨fun σ H3 => ∃ xs, σ = [some (.ref l), none] ∧ Laid H H3 l [("fixed 1 0", .inr (.fixed 1 0)), ("pauses 10 3", .inr (.pauses 10 3)), ("sliding 100 1 0", .inr (.sliding 100 1 0)), ("sliding 3 1000000 1000000", .inr (.sliding 3 1000000 1000000))] xs, ?_, ?_⟩
    · refine ⟨_, rfl, .inl ⟨rfl, _, SqL.of L3.at_⟩, le4, fun b3 hb3 => ⟨le2, fun a3 ha3 => ?_⟩⟩
      have m3 := L3.mid.add2 "sliding 3 1000000 1000000" (.sliding 3 1000000 1000000) hb3 ha3
      exact ⟨l, _, _, rfl, rfl, m3.same _ _ L3.at_, (L3.few (n := 3) (by decide) (by decide)).1, _, rfl, L3.put m3⟩
    rintro σ H4 ⟨xs4, rfl, L4⟩
    refine ⟨fun σ H3 => ∃ xs, σ = [some (.ref l), none] ∧ Laid H H3 l ([("fixed 1 0", .inr (.fixed 1 0)), ("pauses 10 3", .inr (.pauses 10 3)), ("sliding 100 1 0", .inr (.sliding 100 1 0)), ("sliding 3 1000000 1000000", .inr (.sliding 3 1000000 1000000)), ("fixed 0 0", .inl "bad plan"), ("fixed -1 0", .inl "bad plan"), ("pauses 1 -1", .inl "bad plan")]) xs, ?_, ?_⟩
    · refine ⟨_, rfl, .inl ⟨rfl, _, SqL.of L4.at_⟩, le2, fun a1 h1 => ⟨le2, fun a2 h2 => ⟨le2, fun a3 h3 => ⟨le3, fun e he => ?_⟩⟩⟩⟩
      have m := ((L4.mid.add1 "fixed 0 0" "bad plan" h1).add1 "fixed -1 0" "bad plan" h2).add1 "pauses 1 -1" "bad plan" h3
      have few := (L4.few (n := 4) (by decide) (by decide)).2
      refine ⟨l, e, xs4, [.ref a1, .ref a2, .ref a3], rfl, rfl, (Same.new he) _ _ (m.same _ _ L4.at_), upd_same, (by show xs4.length + 3 ≤ _; omega), xs4 ++ [.ref a1, .ref a2, .ref a3], rfl, ?_⟩
      have L := L4.ext (zs := [.ref a1, .ref a2, .ref a3]) m he
      have e3 : xs4 ++ [V.ref a1] ++ [V.ref a2] ++ [V.ref a3] = xs4 ++ [.ref a1, .ref a2, .ref a3] := by simp
      rw [e3] at L
      exact L
    rintro σ H5 ⟨xs5, rfl, L5⟩
    refine ⟨fun σ H3 => ∃ xs, σ = [some (.ref l), none] ∧ Laid H H3 l plans0 xs, ?_, ?_⟩
    · refine ⟨_, rfl, .inl ⟨rfl, _, SqL.of L5.at_⟩, le2, fun a1 h1 => ⟨le2, fun a2 h2 => ⟨le2, fun e he => ?_⟩⟩⟩
      have m := (L5.mid.add1 "sliding 101 1 0" "bad plan" h1).add1 "sliding 1 0 0" "bad plan" h2
      have few := (L5.few (n := 7) (by decide) (by decide)).2
      refine ⟨l, e, xs5, [.ref a1, .ref a2], rfl, rfl, (Same.new he) _ _ (m.same _ _ L5.at_), upd_same, (by show xs5.length + 2 ≤ _; omega), xs5 ++ [.ref a1, .ref a2], rfl, ?_⟩
      have L := L5.ext (zs := [.ref a1, .ref a2]) m he
      have e3 : xs5 ++ [V.ref a1] ++ [V.ref a2] = xs5 ++ [.ref a1, .ref a2] := by simp
      rw [e3] at L
      exact L
    rintro σ H6 ⟨xs6, rfl, L6⟩
    refine ⟨(by show 7 ≤ sizeLine; decide), fun c1 hc1 => ⟨c1, rfl, ⟨_, SqL.of upd_same⟩, ?_⟩⟩
    have nc1 : l ≠ c1 := ne_of_none L6.at_ hc1
    refine for_list (K := K) (a := c1) (xs := no1.map V.str) (fun i σ H' => (∃ v, σ = [some (.ref l), v]) ∧ H' c1 = some (.lst (no1.map V.str)) ∧ ∃ xs, Laid H H' l (plans0 ++ (no1.take i).map noL) xs)
      ⟨⟨_, rfl⟩, upd_same, xs6, L6.same.trans (Same.new hc1), L6.new, (Same.new hc1) _ _ L6.at_, (by rw [List.take_zero, List.map_nil, List.append_nil]; exact L6.prs.same (Same.new hc1))⟩ (fun i σ H' _ h => SqL.of h.2.1) ?_ ?_
    · rintro i x σ H' hx ⟨⟨v, rfl⟩, hc, xs, L⟩
      rw [List.getElem?_map] at hx
      obtain ⟨z, hz, rfl⟩ := Option.map_eq_some_iff.mp hx
      refine ⟨_, rfl, .inl ⟨rfl, _, SqL.of L.at_⟩, _, rfl, le2, fun a ha => ?_⟩
      have m := L.mid.add1 z "no line" ha
      have hi : (plans0 ++ (no1.take i).map noL).length ≤ 100 := by
        rw [List.length_append, List.length_map, List.length_take]
        have h1 : (plans0).length = 9 := rfl
        have h2 : no1.length = 7 := rfl
        omega
      refine ⟨l, xs, _, rfl, rfl, m.same _ _ L.at_, (L.few hi (by decide)).1, ⟨_, rfl⟩, ?_, xs ++ [.ref a], ?_⟩
      · rw [upd_ne nc1.symm]
        exact m.same _ _ hc
      · have L' := L.put m
        rw [List.take_succ, hz, List.map_append, ← List.append_assoc]
        exact L'
    rintro σ H7 ⟨⟨vc1, rfl⟩, _, xs7, L7⟩
    have e7 : no1.take (no1.map V.str).length = no1 := rfl
    rw [e7] at L7
    refine ⟨(by show 6 ≤ sizeLine; decide), fun c2 hc2 => ⟨c2, rfl, ⟨_, SqL.of upd_same⟩, ?_⟩⟩
    have nc2 : l ≠ c2 := ne_of_none L7.at_ hc2
    refine for_list (K := K) (a := c2) (xs := no2.map V.str) (fun i σ H' => (∃ v, σ = [some (.ref l), v]) ∧ H' c2 = some (.lst (no2.map V.str)) ∧ ∃ xs, Laid H H' l (plans0 ++ no1.map noL ++ (no2.take i).map noL) xs)
      ⟨⟨_, rfl⟩, upd_same, xs7, L7.same.trans (Same.new hc2), L7.new, (Same.new hc2) _ _ L7.at_, (by rw [List.take_zero, List.map_nil, List.append_nil]; exact L7.prs.same (Same.new hc2))⟩ (fun i σ H' _ h => SqL.of h.2.1) ?_ ?_
    · rintro i x σ H' hx ⟨⟨v, rfl⟩, hc, xs, L⟩
      rw [List.getElem?_map] at hx
      obtain ⟨z, hz, rfl⟩ := Option.map_eq_some_iff.mp hx
      refine ⟨_, rfl, .inl ⟨rfl, _, SqL.of L.at_⟩, _, rfl, le2, fun a ha => ?_⟩
      have m := L.mid.add1 z "no line" ha
      have hi : (plans0 ++ no1.map noL ++ (no2.take i).map noL).length ≤ 100 := by
        rw [List.length_append, List.length_map, List.length_take]
        have h1 : (plans0 ++ no1.map noL).length = 16 := rfl
        have h2 : no2.length = 6 := rfl
        omega
      refine ⟨l, xs, _, rfl, rfl, m.same _ _ L.at_, (L.few hi (by decide)).1, ⟨_, rfl⟩, ?_, xs ++ [.ref a], ?_⟩
      · rw [upd_ne nc2.symm]
        exact m.same _ _ hc
      · have L' := L.put m
        rw [List.take_succ, hz, List.map_append, ← List.append_assoc]
        exact L'
    rintro σ H8 ⟨⟨vc2, rfl⟩, _, xs8, L8⟩
    exact ⟨_, rfl, k l xs8 H8 L8.same L8.at_ L8.prs⟩
end
end K12
namespace K12
open PySem PySem.Spec PyProof.Rows L2 K1
def spReadF : Sp := fun vs H Q _ => ∃ d : Dd, vs = [.str d.line] ∧ d.Good ∧ ∀ p H', Same H H' → H' p = some (.tup d.row) → Q (.ref p) H'
def spAllF (K : PySem.W.Frag) : Sp := fun vs H Q _ => ∃ (l : Addr) (ds : List Dd), vs = [.ref l] ∧ SqL K H l (ds.map fun d => V.str d.line) ∧ (∀ d ∈ ds, d.Good) ∧ ds.length ≤ 1000 ∧
  ∀ p xs H', Same H H' → H' p = some (.lst xs) → Tups H' xs (ds.map Dd.row) → Q (.ref p) H'
def spPlanF : Sp := fun vs H Q _ => ∃ (z : Str) (pl : Pl), vs = [.str z] ∧ okL z = true ∧ keyOk z = true ∧ readPl z = some pl ∧ pl.bad = false ∧ ∀ p H', Same H H' → H' p = some (.tup pl.row) → Q (.ref p) H'
theorem read_all_good {ds : List Dd} (h : ∀ d ∈ ds, d.Good) : (ds.map Dd.line).map readD = ds.map some := by
  rw [List.map_map]
  exact List.map_congr_left fun d hd => (line_ok (h d hd)).2
theorem some_inj {α : Type} : ∀ {as bs : List α}, as.map some = bs.map some → as = bs := by
  intro as
  induction as with
  | nil =>
    intro bs h
    cases bs with
    | nil => rfl
    | cons b bs => cases h
  | cons a as ih =>
    intro bs h
    cases bs with
    | nil => cases h
    | cons b bs =>
      injection h with h1 h2
      cases h1
      rw [ih h2]
theorem pl_plain (pl : Pl) : (∀ x ∈ pl.row, Plain x) ∧ pl.row.length ≤ 4 := by
  have h1 : ∀ s : Str, Plain (.str s) := fun s => .inl ⟨s, rfl⟩
  have h2 : ∀ n : Int, Plain (.int n) := fun n => .inr ⟨n, rfl⟩
  cases pl <;> simp [Pl.row, h1, h2]
section
variable {P : Program} {w : World} {K : PySem.W.Frag} {mg : Str → Option Value} {BP NL : Addr}
theorem f_read (X : FnX P w K mg "read" ["line"] 3 (spRead NL)) : FnB P w K mg "read" ["line"] 3 spReadF := by
  refine X.calm fun vs H Q E h => ?_
  obtain ⟨d, rfl, hg, k⟩ := h
  obtain ⟨h1, h2⟩ := line_ok hg
  refine ⟨d.line, rfl, h1, fun d' p H' s' e hp => ?_, fun H' s' e => ?_⟩
  · rw [h2] at e
    cases e
    exact k p H' s' hp
  · rw [h2] at e
    cases e
theorem f_all (X : FnX P w K mg "read_all" ["lines"] 4 (spAll K NL)) : FnB P w K mg "read_all" ["lines"] 4 (spAllF K) := by
  refine X.calm fun vs H Q E h => ?_
  obtain ⟨l, ds, rfl, hl, hg, hn, k⟩ := h
  refine ⟨l, ds.map Dd.line, rfl, by rw [List.map_map]; exact hl, fun z hz => ?_, by rw [List.length_map]; exact hn, fun ds' p xs H' s' e hp T => ?_, fun z H' hz s' e => ?_⟩
  · obtain ⟨d, hd, rfl⟩ := List.mem_map.mp hz
    exact (line_ok (hg d hd)).1
  · rw [read_all_good hg] at e
    cases some_inj e
    exact k p xs H' s' hp T
  · obtain ⟨d, hd, rfl⟩ := List.mem_map.mp hz
    rw [(line_ok (hg d hd)).2] at e
    cases e
theorem f_plan (X : FnX P w K mg "read_plan" ["line"] 4 (spPlan NL BP)) : FnB P w K mg "read_plan" ["line"] 4 spPlanF := by
  refine X.calm fun vs H Q E h => ?_
  obtain ⟨z, pl, rfl, h1, h2, h3, h4, k⟩ := h
  refine ⟨z, rfl, h1, h2, fun q p H' s' e _ hp => ?_, fun q H' s' e hb => ?_, fun H' s' e => ?_⟩
  · rw [h3] at e
    cases e
    exact k p H' s' hp
  · rw [h3] at e
    cases e
    rw [h4] at hb
    cases hb
  · rw [h3] at e
    cases e
theorem f_law (D : DefIn K "law" st_law) (M : MG K mg) (B : Bi K) (F__law_deed_of : FnB P w K mg "_law_deed_of" ["_law_cell"] 1 spDeed) (F__law_line_for : FnB P w K mg "_law_line_for" ["_law_deed"] 1 spLine) (F_shown : FnB P w K mg "shown" ["deed"] 1 (spShown K))
    (F__law_is_deed : FnB P w K mg "_law_is_deed" ["_law_found", "_law_due"] 2 spIsD) (F_read : FnB P w K mg "read" ["line"] 3 spReadF) (F_read_all : FnB P w K mg "read_all" ["lines"] 4 (spAllF K)) (F_read_plan : FnB P w K mg "read_plan" ["line"] 4 spPlanF)
    (F__law_refused : FnB P w K mg "_law_refused" ["_law_which", "_law_line"] 5 spRef) (F__law_under_base : FnB P w K mg "_law_under_base" ["_law_line"] 4 spUnder) (F__law_plans : FnB P w K mg "_law_plans" [] 1 spPlans) : FnB P w K mg "law" ["_law_script"] 6 (spLaw K) := by
  refine D.fn M sc_law bd_law (fun vs H Q E h => ?_) (fun f base cdv A outer s H vs Q E hr h => ?_)
  · obtain ⟨a, ns, rfl, _⟩ := h
    rfl
  · obtain ⟨a, ns, rfl, hS, hlen, k⟩ := h
    have no : ∀ {A : Prop}, (!true) = true → A := fun h => nomatch h
    have le0 : (0 : Nat) ≤ sizeLine := Nat.zero_le _
    refine ⟨_, (pss_cons (pset (i := 1) sc_law.nd rfl (Or.inl rfl) (pe_lst pa_nil))
      (pss_cons (pset (i := 2) sc_law.nd rfl (Or.inl rfl) (pe_lst pa_nil))
      (pss_cons (ps_for PassesOwn.never rfl (pi_range1 rfl (M.no _ B.b_range) (pc (pcallB (call_min2 rfl) rfl (M.no _ B.b_min) bt_min (pc pe_int (pc (pcallB call_len_seq rfl (M.no _ B.b_len) bt_len (pc (pv 0) pa_nil)) pa_nil))) pa_nil)) (pg_name (i := 3) sc_law.nd rfl (Or.inl rfl))
      (pss_cons (pset (i := 4) sc_law.nd rfl (Or.inl rfl) (pcallF F__law_deed_of (hr.mono (by decide)) rfl (pc (pe_op oAdd (pe_ix ix_list (pv 0) (pv 3) (fun _ _ => rfl)) (pe_op oMul pe_int (pv 3))) pa_nil)))
      (pss_cons (pset (i := 5) sc_law.nd rfl (Or.inl rfl) (pcallF F__law_line_for (hr.mono (by decide)) rfl (pc (pv 4) pa_nil)))
      (pss_cons (pset (i := 6) sc_law.nd rfl (Or.inl rfl) (pcallF F_shown (hr.mono (by decide)) rfl (pc (pv 4) pa_nil)))
      (pss_cons (ps_if (PW.pt (pw_or (pt_not (pt_val (pcallB call_isinst rfl (M.no _ B.b_isinstance) bt_isinstance (pc (pv 6) (pc (pe_bltn (v := .ty "str") rfl (M.no _ B.b_str) bt_str rfl) pa_nil))))) (pw_or (pt_cmpR op_ne (pv 6) (pv 5) (nomark _)) (pw_or1 (pt_not (pt_val (pcallF F__law_is_deed (hr.mono (by decide)) rfl (pc (pcallF F_read (hr.mono (by decide)) rfl (pc (pv 5) pa_nil)) (pc (pv 4) pa_nil))))))))) (pss_one (ps_ret pe_bl)) pss_nil)
      (pss_cons (pexpr (pe_bm PySem.F.plainAttrs_list PySem.F.slot_list_append PySem.F.type_list_append mt_append (pv 1) (pc (pv 4) pa_nil)))
      (pss_one (pexpr (pe_bm PySem.F.plainAttrs_list PySem.F.slot_list_append PySem.F.type_list_append mt_append (pv 2) (pc (pv 5) pa_nil))))))))))
      (pss_cons (pset (i := 7) sc_law.nd rfl (Or.inl rfl) (pcallF F_read_all (hr.mono (by decide)) rfl (pc (pcallTy call_list_of rfl (M.no _ B.b_list) bt_list (pc (pv 2) pa_nil)) pa_nil)))
      (pss_cons (ps_if (PW.pt (pw_or (pt_not (pt_val (pcallB call_isinst rfl (M.no _ B.b_isinstance) bt_isinstance (pc (pv 7) (pc (pe_bltn (v := .ty "list") rfl (M.no _ B.b_list) bt_list rfl) pa_nil))))) (pw_or1 (pt_cmpR op_ne (pcallB call_len_seq rfl (M.no _ B.b_len) bt_len (pc (pv 7) pa_nil)) (pcallB call_len_seq rfl (M.no _ B.b_len) bt_len (pc (pv 1) pa_nil)) (nomark _))))) (pss_one (ps_ret pe_bl)) pss_nil)
      (pss_cons (ps_for PassesOwn.never rfl (pi_range1 rfl (M.no _ B.b_range) (pc (pcallB call_len_seq rfl (M.no _ B.b_len) bt_len (pc (pv 1) pa_nil)) pa_nil)) (pg_name (i := 3) sc_law.nd rfl (Or.inl rfl))
      (pss_one (ps_if (pt_not (pt_val (pcallF F__law_is_deed (hr.mono (by decide)) rfl (pc (pe_ix ix_list (pv 7) (pv 3) (fun _ _ => rfl)) (pc (pe_ix ix_list (pv 1) (pv 3) (fun _ _ => rfl)) pa_nil))))) (pss_one (ps_ret pe_bl)) pss_nil)))
      (pss_cons (pset (i := 8) sc_law.nd rfl (Or.inl rfl) (pe_lst (pc pe_str (pc pe_str (pc pe_str (pc pe_str (pc pe_str (pc pe_str (pc pe_str (pc pe_str (pc pe_str (pc pe_str pa_nil))))))))))))
      (pss_cons (pset (i := 8) sc_law.nd rfl (Or.inl rfl) (pe_op op_cat (pv 8) (pe_lst (pc pe_str (pc pe_str (pc pe_str (pc pe_str (pc pe_str (pc pe_str pa_nil)))))))))
      (pss_cons (pset (i := 8) sc_law.nd rfl (Or.inl rfl) (pe_op op_cat (pv 8) (pe_lst (pc pe_str (pc pe_str (pc pe_str (pc pe_str (pc pe_str (pc pe_str (pc pe_str pa_nil))))))))))
      (pss_cons (ps_for PassesOwn.never rfl (pi_list (pv 8)) (pg_name (i := 5) sc_law.nd rfl (Or.inl rfl))
      (pss_cons (ps_for PassesOwn.never rfl (pi_range1 rfl (M.no _ B.b_range) (pc pe_int pa_nil)) (pg_name (i := 9) sc_law.nd rfl (Or.inl rfl))
      (pss_one (ps_if (pt_cmpR op_ne (pcallF F__law_refused (hr.mono (by decide)) rfl (pc (pv 9) (pc (pv 5) pa_nil))) pe_str (nomark _)) (pss_one (ps_ret pe_bl)) pss_nil)))
      (pss_one (ps_if (pt_not (pt_val (pcallF F__law_under_base (hr.mono (by decide)) rfl (pc (pv 5) pa_nil)))) (pss_one (ps_ret pe_bl)) pss_nil))))
      (pss_cons (ps_for PassesOwn.never rfl (pi_list (pe_callF0 F__law_plans (hr.mono (by decide)) rfl)) (pg_tup rfl (pgs_cons (pg_name (i := 5) sc_law.nd rfl (Or.inl rfl)) (pgs_cons (pg_name (i := 10) sc_law.nd rfl (Or.inl rfl)) pgs_nil)))
      (pss_one (ps_if (pt_val (pcallB call_isinst rfl (M.no _ B.b_isinstance) bt_isinstance (pc (pv 10) (pc (pe_bltn (v := .ty "str") rfl (M.no _ B.b_str) bt_str rfl) pa_nil)))) (pss_one (ps_if (pt_cmpR op_ne (pcallF F__law_refused (hr.mono (by decide)) rfl (pc pe_int (pc (pv 5) pa_nil))) (pv 10) (nomark _)) (pss_one (ps_ret pe_bl)) pss_nil)) (pss_one (ps_if (pt_not (pt_val (pcallF F__law_is_deed (hr.mono (by decide)) rfl (pc (pcallF F_read_plan (hr.mono (by decide)) rfl (pc (pv 5) pa_nil)) (pc (pv 10) pa_nil))))) (pss_one (ps_ret pe_bl)) pss_nil)))))
      (pss_one (ps_ret pe_bl))))))))))))), ?_⟩
    refine ⟨le0, fun ld hd => ⟨le0, fun ll hl => ?_⟩⟩
    have ndl : ld ≠ ll := ne_of_none upd_same hl
    have s0 := (Same.new (o := .lst []) hd).trans (Same.new (o := .lst []) hl)
    have nll : H ll = none := (Same.new (o := .lst []) hd).free hl
    refine ⟨_, rfl, a, _, rfl, .inl (s0.seq hS), _, _, rfl, ?_⟩
    generalize hmn : (if ((ns.map V.int).length : Int) < 150 then ((ns.map V.int).length : Int) else 150) = mn
    have hm : 0 ≤ mn ∧ mn ≤ 63 ∧ mn ≤ ns.length := by
      rw [← hmn, List.length_map]
      split <;> omega
    refine ⟨_, rfl, by omega, by omega, ?_⟩
    refine for_range (fun i σ H1 => ∃ (v3 v4 v5 v6 : Option V) (ds : List Dd) (xs : List V), σ = [some (.ref a), some (.ref ld), some (.ref ll), v3, v4, v5, v6, none, none, none, none] ∧ Same H H1 ∧ H1 ld = some (.lst xs) ∧ Tups H1 xs (ds.map Dd.row) ∧ H1 ll = some (.lst (ds.map fun d => V.str d.line)) ∧ (∀ d ∈ ds, d.Good) ∧ ds.length = i)
      ⟨_, _, _, _, [], [], rfl, s0, by rw [upd_ne ndl, upd_same], .nil, upd_same, (fun d hd => by cases hd), rfl⟩ ?_ ?_
    · rintro i σ H1 hi ⟨v3, v4, v5, v6, ds, xs, rfl, s1, h1, T1, h2, hg, hn⟩
      refine ⟨_, rfl, _, rfl, a, _, _, _, rfl, rfl, s1.seq hS, at_int ns (by omega) (by omega), _, rfl, _, _, rfl, rfl, .inl ⟨by decide, by decide⟩, _, _, rfl, rfl, _, rfl, fun d p H2 s2 g2 hp => ?_⟩
      refine ⟨_, rfl, p, d, rfl, hp, g2, ?_⟩
      refine ⟨_, rfl, p, d, rfl, SqT.of hp, g2, fun H3 s3 => ?_⟩
      refine ⟨_, rfl, _, _, _, true, rfl, .str _, kit_same, true, rfl, ite2 no fun _ => ?_⟩
      refine ⟨_, rfl, _, rfl, rfl, _, rfl, iteNS rfl ?_⟩
      refine ⟨_, rfl, d, rfl, g2, fun q H4 s4 hq => ?_⟩
      have hp4 := s4 _ _ (s3 _ _ hp)
      refine ⟨_, rfl, q, p, d.row, rfl, hq, hp4, row_plain d, row_few d, true, rfl, ite2 no fun _ => ?_⟩
      have s14 := s2.trans (s3.trans s4)
      have hx : xs.length = ds.length := by rw [T1.len, List.length_map]
      refine ⟨_, rfl, .inl ⟨rfl, _, SqL.of (s14 _ _ h1)⟩, _, rfl, ld, xs, _, rfl, rfl, s14 _ _ h1, small1000 (by omega), ?_⟩
      have h2' : upd H4 ld (.lst (xs ++ [.ref p])) ll = some (.lst (ds.map fun d => V.str d.line)) := by rw [upd_ne ndl.symm]; exact s14 _ _ h2
      refine ⟨_, rfl, .inl ⟨rfl, _, SqL.of h2'⟩, _, rfl, ll, _, _, rfl, rfl, h2', small1000 (by rw [List.length_map]; omega), ?_⟩
      refine ⟨_, _, _, _, ds ++ [d], xs ++ [.ref p], rfl, fun b o e => ?_, by rw [upd_ne ndl, upd_same], ?_, ?_, ?_, by rw [List.length_append, hn]; rfl⟩
      · rw [upd_ne (ne_of_none e nll), upd_ne (ne_of_none e hd)]
        exact s14 _ _ (s1 _ _ e)
      · rw [List.map_append]
        refine Tups.snoc (T1.keep fun b row e => ?_) ?_
        · rw [upd_ne (ne_of e h2 (by intro z; cases z)), upd_ne (ne_of e h1 (by intro z; cases z))]
          exact s14 _ _ e
        · rw [upd_ne (ne_of hp4 (s14 _ _ h2) (by intro z; cases z)), upd_ne (ne_of hp4 (s14 _ _ h1) (by intro z; cases z))]
          exact hp4
      · rw [List.map_append, upd_same]
        rfl
      · intro y hy
        rcases List.mem_append.mp hy with hy | hy
        · exact hg y hy
        · cases List.mem_singleton.mp hy
          exact g2
    · rintro σ H1 ⟨v3, v4, v5, v6, ds, xs, rfl, s1, h1, T1, h2, hg, hn⟩
      have hx : xs.length = ds.length := by rw [T1.len, List.length_map]
      have hn' : ds.length ≤ 63 := by omega
      refine ⟨_, rfl, ll, _, rfl, .inl (SqL.of h2), fun l2 hl2 => ?_⟩
      have s2 := Same.new (o := .lst (ds.map fun d => V.str d.line)) hl2
      refine ⟨l2, ds, rfl, SqL.of upd_same, hg, by omega, fun bk ys H2 s3 hb T2 => ?_⟩
      have s12 := s2.trans s3
      have h1' := s12 _ _ h1
      have T1' : Tups H2 xs (ds.map Dd.row) := T1.keep fun b row e => s12 _ _ e
      refine ⟨_, rfl, _, _, _, true, rfl, .lst hb, kit_same, true, rfl, ite2 no fun _ => ?_⟩
      refine ⟨_, rfl, bk, ys, rfl, .inl (SqL.of hb), _, rfl, ld, xs, rfl, .inl (SqL.of h1'), rfl, _, rfl, ?_⟩
      have ey : ys.length = xs.length := by rw [T2.len, T1'.len]
      refine iteNS (by rw [ey]) ?_
      refine ⟨_, rfl, ld, xs, rfl, .inl (SqL.of h1'), _, rfl, by omega, by omega, ?_⟩
      refine for_range (fun i σ H3 => (∃ v3 v4 v5 v6, σ = [some (.ref a), some (.ref ld), some (.ref ll), v3, v4, v5, v6, some (.ref bk), none, none, none]) ∧ H3 = H2) ⟨⟨_, _, _, _, rfl⟩, rfl⟩ ?_ ?_
      · rintro i σ H3 hi ⟨⟨v3, v4, v5, v6, rfl⟩, rfl⟩
        have hi' : i < ds.length := by omega
        have er : (ds.map Dd.row)[i]? = some (ds[i].row) := by simp [hi']
        obtain ⟨p, ep, hp⟩ := T2.get er
        obtain ⟨q, eq, hq⟩ := T1'.get er
        refine ⟨_, rfl, _, rfl, bk, ys, _, _, rfl, rfl, SqL.of hb, (by rw [Int.zero_add]; exact atI_nat ep), _, rfl, _, rfl, ld, xs, _, _, rfl, rfl, SqL.of h1', (by rw [Int.zero_add]; exact atI_nat eq), p, q, _, rfl, hp, hq, row_plain _, row_few _, true, rfl, ite2 no fun _ => ?_⟩
        exact ⟨⟨_, _, _, _, rfl⟩, rfl⟩
      · rintro σ H3 ⟨⟨v3, v4, v5, v6, rfl⟩, rfl⟩
        clear T2 T1' T1 h1' h1 h2 hb hg s12 s3 s2 hl2 hx ey hn hn' s1
        refine ⟨(by show 10 ≤ sizeLine; decide), fun c1 e1 => ?_⟩
        refine ⟨_, rfl, (by show 6 ≤ sizeLine; decide), fun c2 e2 => ⟨c1, c2, bad1.map V.str, bad2.map V.str, rfl, rfl, (Same.new e2) _ _ upd_same, upd_same, (by show 16 ≤ sizeLine; decide), fun c3 e3 => ?_⟩⟩
        refine ⟨_, rfl, (by show 7 ≤ sizeLine; decide), fun c4 e4 => ⟨c3, c4, bad1.map V.str ++ bad2.map V.str, bad3.map V.str, rfl, rfl, (Same.new e4) _ _ upd_same, upd_same, (by show 23 ≤ sizeLine; decide), fun c5 e5 => ?_⟩⟩
        refine ⟨_, rfl, c5, rfl, ⟨_, SqL.of upd_same⟩, ?_⟩
        refine for_list (K := K) (a := c5) (xs := badL.map V.str) (fun i σ H4 => (∃ v3 v4 v5 v6 v9, σ = [some (.ref a), some (.ref ld), some (.ref ll), v3, v4, v5, v6, some (.ref bk), some (.ref c5), v9, none]) ∧ H4 c5 = some (.lst (badL.map V.str))) ⟨⟨_, _, _, _, _, rfl⟩, upd_same⟩ (fun i σ H' _ h => SqL.of h.2) ?_ ?_
        · rintro i x σ H4 hx ⟨⟨v3, v4, v5, v6, v9, rfl⟩, h4⟩
          rw [List.getElem?_map] at hx
          obtain ⟨z, hz, rfl⟩ := Option.map_eq_some_iff.mp hx
          have hb := List.all_eq_true.mp bad_all z (List.mem_of_getElem? hz)
          rw [Bool.and_eq_true] at hb
          have hno : readD z = none := by simpa using hb.2
          refine ⟨2, rfl, by decide, by decide, ?_⟩
          refine for_range (n := 2) (fun j σ H5 => (∃ v9, σ = [some (.ref a), some (.ref ld), some (.ref ll), v3, v4, some (.str z), v6, some (.ref bk), some (.ref c5), v9, none]) ∧ Same H4 H5) ⟨⟨_, rfl⟩, Same.refl _⟩ ?_ ?_
          · rintro j σ H5 hj ⟨⟨v9, rfl⟩, s5⟩
            refine ⟨_, rfl, _, rfl, _, z, _, rfl, hb.1, .inl ⟨by omega, hno, rfl⟩, fun H6 s6 => ⟨rfl, _, rfl, iteNS rfl ?_⟩⟩
            exact ⟨⟨_, rfl⟩, s5.trans s6⟩
          · rintro σ H5 ⟨⟨v9, rfl⟩, s5⟩
            refine ⟨_, rfl, z, rfl, hb.1, hno, fun H6 s6 => ⟨true, rfl, ite2 no fun _ => ?_⟩⟩
            exact ⟨⟨_, _, _, _, _, rfl⟩, s6 _ _ (s5 _ _ h4)⟩
        · rintro σ H4 ⟨⟨v3, v4, v5, v6, v9, rfl⟩, h4⟩
          refine ⟨rfl, fun lp xp H5 s5 hp5 P5 => ⟨lp, rfl, ⟨_, SqL.of hp5⟩, ?_⟩⟩
          have hxl : xp.length = plansL.length := prs_len P5
          refine for_list (K := K) (a := lp) (xs := xp) (fun i σ H6 => (∃ v3 v4 v5 v6 v9 v10, σ = [some (.ref a), some (.ref ld), some (.ref ll), v3, v4, v5, v6, some (.ref bk), some (.ref c5), v9, v10]) ∧ Same H5 H6) ⟨⟨_, _, _, _, _, _, rfl⟩, Same.refl _⟩ (fun i σ H' _ h => SqL.of (h.2 _ _ hp5)) ?_ ?_
          · rintro i x σ H6 hx ⟨⟨v3, v4, v5, v6, v9, v10, rfl⟩, s6⟩
            obtain ⟨⟨z, due⟩, hz⟩ : ∃ p, plansL[i]? = some p := by
              have hi : i < xp.length := (List.getElem?_eq_some_iff.mp hx).1
              exact ⟨plansL[i]'(by omega), by simp⟩
            have hall := List.all_eq_true.mp plans_all _ (List.mem_of_getElem? hz)
            simp only [Bool.and_eq_true] at hall
            obtain ⟨⟨hok, hkey⟩, hdue⟩ := hall
            obtain ⟨x', hx', b, v, rfl, hb, dr⟩ := Paired.getR P5 hz
            rw [hx] at hx'
            cases hx'
            refine ⟨b, _, rfl, SqT.of (s6 _ _ hb), rfl, ?_⟩
            refine ⟨_, _, rfl, _, _, rfl, rfl, ?_⟩
            cases due with
            | inl sd =>
              cases (show v = .str sd from dr)
              have hc : (readPl z = none ∧ sd = "no line") ∨ ∃ pl, readPl z = some pl ∧ pl.bad = true ∧ sd = "bad plan" := by
                unfold planDue at hdue
                cases e : readPl z with
                | none =>
                  rw [e] at hdue
                  exact .inl ⟨rfl, of_decide_eq_true hdue⟩
                | some pl =>
                  rw [e] at hdue
                  have h' : (pl.bad && decide (sd = "bad plan")) = true := hdue
                  rw [Bool.and_eq_true] at h'
                  exact .inr ⟨pl, rfl, h'.1, of_decide_eq_true h'.2⟩
              refine ⟨_, rfl, _, _, _, true, rfl, .str sd, kit_same, true, rfl, ite2 (fun _ => ?_) fun h => absurd rfl h⟩
              refine ⟨_, rfl, 2, z, sd, rfl, hok, .inr ⟨rfl, hkey, hc⟩, fun H7 s7 => ⟨_, rfl, rfl, _, rfl, iteNS rfl ?_⟩⟩
              exact ⟨⟨_, _, _, _, _, _, rfl⟩, s6.trans s7⟩
            | inr pl =>
              obtain ⟨q, rfl, hq⟩ := dr
              have hc : readPl z = some pl ∧ pl.bad = false := by
                unfold planDue at hdue
                cases e : readPl z with
                | none => rw [e] at hdue; cases hdue
                | some pl' =>
                  rw [e] at hdue
                  have h' : (decide (pl = pl') && !pl'.bad) = true := hdue
                  rw [Bool.and_eq_true] at h'
                  cases of_decide_eq_true h'.1
                  exact ⟨rfl, by simpa using h'.2⟩
              refine ⟨_, rfl, _, _, _, false, rfl, .tup (s6 _ _ hq), kit_ts, false, rfl, ite2 (fun h => nomatch h) fun _ => ?_⟩
              refine ⟨_, rfl, z, pl, rfl, hok, hkey, hc.1, hc.2, fun p H7 s7 hp => ?_⟩
              refine ⟨_, rfl, p, q, pl.row, rfl, hp, s7 _ _ (s6 _ _ hq), (pl_plain pl).1, (pl_plain pl).2, true, rfl, ite2 no fun _ => ?_⟩
              exact ⟨⟨_, _, _, _, _, _, rfl⟩, s6.trans s7⟩
          · rintro σ H6 _
            exact k H6
end
end K12
open PySem PySem.W PyProof.Rows
set_option maxRecDepth 100000 in
set_option maxHeartbeats 0 in
theorem PySem.Challenge.cw_weirgauge_k12_lines_holds : PySem.Challenge.rw_weirgauge_k12_lines.Holds := by
  w_on; o_law; k_head; (case hw => w_witness2)
  k_fill
  refine L2.walkB (l := PySem.Challenge.rw_weirgauge_k12_lines) (x := "_law_script") 6 ⟨rfl, by decide, by decide⟩ rfl rfl (fun w h Y => PySem.W.kIn_of Y) K1.spLaw (fun K H a ns hl hS => ⟨a, ns, rfl, hS, hl, fun _ => rfl⟩) ?F
  case F =>
    intro w mg M
    have D_kind_of : L2.DefIn (L2.KOfM M) "kind_of" K1.st_kind_of := by
      dsimp only [L2.KOfM]
      refine' L2.DefIn.mk' ?a ?l ?c ?k
      (case a => k_is); (case l => k_is); (case c => k_is); (case k => k_is)
    have D_length_of : L2.DefIn (L2.KOfM M) "length_of" K1.st_length_of := by
      dsimp only [L2.KOfM]
      refine' L2.DefIn.mk' ?a ?l ?c ?k
      (case a => k_is); (case l => k_is); (case c => k_is); (case k => k_is)
    have D_step_of : L2.DefIn (L2.KOfM M) "step_of" K1.st_step_of := by
      dsimp only [L2.KOfM]
      refine' L2.DefIn.mk' ?a ?l ?c ?k
      (case a => k_is); (case l => k_is); (case c => k_is); (case k => k_is)
    have D_grace_of : L2.DefIn (L2.KOfM M) "grace_of" K1.st_grace_of := by
      dsimp only [L2.KOfM]
      refine' L2.DefIn.mk' ?a ?l ?c ?k
      (case a => k_is); (case l => k_is); (case c => k_is); (case k => k_is)
    have D_check_plan : L2.DefIn (L2.KOfM M) "check_plan" K1.st_check_plan := by
      dsimp only [L2.KOfM]
      refine' L2.DefIn.mk' ?a ?l ?c ?k
      (case a => k_is); (case l => k_is); (case c => k_is); (case k => k_is)
    have D_shown : L2.DefIn (L2.KOfM M) "shown" K1.st_shown := by
      dsimp only [L2.KOfM]
      refine' L2.DefIn.mk' ?a ?l ?c ?k
      (case a => k_is); (case l => k_is); (case c => k_is); (case k => k_is)
    have D_read : L2.DefIn (L2.KOfM M) "read" K1.st_read := by
      dsimp only [L2.KOfM]
      refine' L2.DefIn.mk' ?a ?l ?c ?k
      (case a => k_is); (case l => k_is); (case c => k_is); (case k => k_is)
    have D_read_all : L2.DefIn (L2.KOfM M) "read_all" K1.st_read_all := by
      dsimp only [L2.KOfM]
      refine' L2.DefIn.mk' ?a ?l ?c ?k
      (case a => k_is); (case l => k_is); (case c => k_is); (case k => k_is)
    have D_read_plan : L2.DefIn (L2.KOfM M) "read_plan" K1.st_read_plan := by
      dsimp only [L2.KOfM]
      refine' L2.DefIn.mk' ?a ?l ?c ?k
      (case a => k_is); (case l => k_is); (case c => k_is); (case k => k_is)
    have D_read_name : L2.DefIn (L2.KOfM M) "read_name" K1.st_read_name := by
      dsimp only [L2.KOfM]
      refine' L2.DefIn.mk' ?a ?l ?c ?k
      (case a => k_is); (case l => k_is); (case c => k_is); (case k => k_is)
    have D_read_number : L2.DefIn (L2.KOfM M) "read_number" K1.st_read_number := by
      dsimp only [L2.KOfM]
      refine' L2.DefIn.mk' ?a ?l ?c ?k
      (case a => k_is); (case l => k_is); (case c => k_is); (case k => k_is)
    have D_is_made_of : L2.DefIn (L2.KOfM M) "is_made_of" K1.st_is_made_of := by
      dsimp only [L2.KOfM]
      refine' L2.DefIn.mk' ?a ?l ?c ?k
      (case a => k_is); (case l => k_is); (case c => k_is); (case k => k_is)
    have D__law_whole : L2.DefIn (L2.KOfM M) "_law_whole" K1.st__law_whole := by
      dsimp only [L2.KOfM]
      refine' L2.DefIn.mk' ?a ?l ?c ?k
      (case a => k_is); (case l => k_is); (case c => k_is); (case k => k_is)
    have D__law_deed_of : L2.DefIn (L2.KOfM M) "_law_deed_of" K1.st__law_deed_of := by
      dsimp only [L2.KOfM]
      refine' L2.DefIn.mk' ?a ?l ?c ?k
      (case a => k_is); (case l => k_is); (case c => k_is); (case k => k_is)
    have D__law_is_deed : L2.DefIn (L2.KOfM M) "_law_is_deed" K1.st__law_is_deed := by
      dsimp only [L2.KOfM]
      refine' L2.DefIn.mk' ?a ?l ?c ?k
      (case a => k_is); (case l => k_is); (case c => k_is); (case k => k_is)
    have D__law_line_for : L2.DefIn (L2.KOfM M) "_law_line_for" K1.st__law_line_for := by
      dsimp only [L2.KOfM]
      refine' L2.DefIn.mk' ?a ?l ?c ?k
      (case a => k_is); (case l => k_is); (case c => k_is); (case k => k_is)
    have D__law_refused : L2.DefIn (L2.KOfM M) "_law_refused" K1.st__law_refused := by
      dsimp only [L2.KOfM]
      refine' L2.DefIn.mk' ?a ?l ?c ?k
      (case a => k_is); (case l => k_is); (case c => k_is); (case k => k_is)
    have D__law_under_base : L2.DefIn (L2.KOfM M) "_law_under_base" K1.st__law_under_base := by
      dsimp only [L2.KOfM]
      refine' L2.DefIn.mk' ?a ?l ?c ?k
      (case a => k_is); (case l => k_is); (case c => k_is); (case k => k_is)
    have D__law_plans : L2.DefIn (L2.KOfM M) "_law_plans" K1.st__law_plans := by
      dsimp only [L2.KOfM]
      refine' L2.DefIn.mk' ?a ?l ?c ?k
      (case a => k_is); (case l => k_is); (case c => k_is); (case k => k_is)
    have D_law : L2.DefIn (L2.KOfM M) "law" K1.st_law := by
      dsimp only [L2.KOfM]
      refine' L2.DefIn.mk' ?a ?l ?c ?k
      (case a => k_is); (case l => k_is); (case c => k_is); (case k => k_is)
    have G_EVENT : L2.GlobIs (L2.KOfM M) "EVENT" (.str "event") := by
      dsimp only [L2.KOfM]
      refine' L2.GlobIs.ofStr ?a
      (case a => k_is)
    have G_FIGURES : L2.GlobIs (L2.KOfM M) "FIGURES" (.str "0123456789") := by
      dsimp only [L2.KOfM]
      refine' L2.GlobIs.ofStr ?a
      (case a => k_is)
    have G_LETTERS : L2.GlobIs (L2.KOfM M) "LETTERS" (.str "abcdefghijklmnopqrstuvwxyz") := by
      dsimp only [L2.KOfM]
      refine' L2.GlobIs.ofStr ?a
      (case a => k_is)
    have G_MARK : L2.GlobIs (L2.KOfM M) "MARK" (.str "mark") := by
      dsimp only [L2.KOfM]
      refine' L2.GlobIs.ofStr ?a
      (case a => k_is)
    have G_MOST_STEPS : L2.GlobIs (L2.KOfM M) "MOST_STEPS" (.int 100) := by
      dsimp only [L2.KOfM]
      refine' L2.GlobIs.ofInt ?a
      (case a => k_is)
    have G_SLIDING : L2.GlobIs (L2.KOfM M) "SLIDING" (.str "sliding") := by
      dsimp only [L2.KOfM]
      refine' L2.GlobIs.ofStr ?a
      (case a => k_is)
    obtain ⟨C_GaugeError, C_BadPlan, C_NoLine, E_GaugeError, E_BadPlan, E_NoLine, x0, x1, x2, x3, x4, x5, x6⟩ : ∃ C_GaugeError C_BadPlan C_NoLine : PySem.Addr, L2.ExcIn (L2.KOfM M) "GaugeError" C_GaugeError ∧ L2.ExcIn (L2.KOfM M) "BadPlan" C_BadPlan ∧ L2.ExcIn (L2.KOfM M) "NoLine" C_NoLine ∧ PySem.W.exmOne (L2.KOfM M) (.ref C_NoLine) (.ref C_NoLine) = some true ∧ PySem.W.exmOne (L2.KOfM M) (.ref C_NoLine) (.ref C_GaugeError) = some true ∧ PySem.W.exmOne (L2.KOfM M) (.ref C_BadPlan) (.ref C_NoLine) = some false ∧ PySem.W.exmOne (L2.KOfM M) (.ref C_BadPlan) (.ref C_BadPlan) = some true ∧ PySem.W.kitOne (L2.KOfM M) (.ref C_NoLine) (.ref C_BadPlan) = some false ∧ PySem.W.kitOne (L2.KOfM M) (.ref C_NoLine) (.ref C_NoLine) = some true ∧ PySem.W.kitOne (L2.KOfM M) (.ref C_NoLine) (.type "ValueError") = some true := by
      dsimp only [L2.KOfM]
      refine' ⟨_, _, _, ⟨?aGaugeError, ?xGaugeError, ?gGaugeError, ?tGaugeError, ?cGaugeError, ?sGaugeError, ?oGaugeError, ?kGaugeError⟩, ⟨?aBadPlan, ?xBadPlan, ?gBadPlan, ?tBadPlan, ?cBadPlan, ?sBadPlan, ?oBadPlan, ?kBadPlan⟩, ⟨?aNoLine, ?xNoLine, ?gNoLine, ?tNoLine, ?cNoLine, ?sNoLine, ?oNoLine, ?kNoLine⟩, ?x0, ?x1, ?x2, ?x3, ?x4, ?x5, ?x6⟩
      (case aGaugeError => k_is)
      (case xGaugeError => k_exc)
      (case gGaugeError => k_is)
      (case tGaugeError => k_is)
      (case cGaugeError => k_is)
      (case sGaugeError => k_is)
      (case oGaugeError => k_is)
      (case kGaugeError => k_is)
      (case aBadPlan => k_is)
      (case xBadPlan => k_exc)
      (case gBadPlan => k_is)
      (case tBadPlan => k_is)
      (case cBadPlan => k_is)
      (case sBadPlan => k_is)
      (case oBadPlan => k_is)
      (case kBadPlan => k_is)
      (case aNoLine => k_is)
      (case xNoLine => k_exc)
      (case gNoLine => k_is)
      (case tNoLine => k_is)
      (case cNoLine => k_is)
      (case sNoLine => k_is)
      (case oNoLine => k_is)
      (case kNoLine => k_is)
      (case x0 => kts_exm)
      (case x1 => kts_exm)
      (case x2 => kts_exm)
      (case x3 => kts_exm)
      (case x4 => kit_is)
      (case x5 => kit_is)
      (case x6 => kit_is)
    have B : K1.Bi (L2.KOfM M) := by
      dsimp only [L2.KOfM]
      refine' ⟨?b0, ?b1, ?b2, ?b3, ?b4, ?b5, ?b6, ?b7, ?b8, ?b9, ?b10⟩
      (case b0 => k_is); (case b1 => k_is); (case b2 => k_is); (case b3 => k_is); (case b4 => k_is); (case b5 => k_is); (case b6 => k_is); (case b7 => k_is); (case b8 => k_is); (case b9 => k_is); (case b10 => k_is)
    obtain ⟨N_, DG, DI, d1, d2, d3, d4, d5⟩ : ∃ N_ : PySem.Addr, L2.GlobIs (L2.KOfM M) "NUMBERS_BEHIND" (.ref N_) ∧ L2.DictIn w (L2.KOfM M) N_ ∧ L2.DKey (L2.KOfM M) N_ "fixed" (some (.int 2)) ∧ L2.DKey (L2.KOfM M) N_ "sliding" (some (.int 3)) ∧ L2.DKey (L2.KOfM M) N_ "pauses" (some (.int 2)) ∧ L2.DKey (L2.KOfM M) N_ "" none ∧ L2.DKey (L2.KOfM M) N_ "Fixed" none := by
      dsimp only [L2.KOfM]
      refine' ⟨_, L2.GlobIs.ofRef ?g, L2.DictIn.mk' ?s ?l ?k, L2.DKey.int ?a, L2.DKey.int ?b, L2.DKey.int ?c, L2.DKey.no ?d, L2.DKey.no ?e⟩
      (case g => k_is); (case l => k_is); (case k => k_keys); (case s => decide); (case a => k_is); (case b => k_is); (case c => k_is); (case d => k_is); (case e => k_is)
    have NBK : K12.NB (L2.KOfM M) N_ := ⟨d1, d2, d3, d4, d5⟩
    have Fk := K12.f_kind (P := PySem.Challenge.rw_weirgauge_k12_lines.prog) (w := w) D_kind_of M
    have Fl := K12.f_len (P := PySem.Challenge.rw_weirgauge_k12_lines.prog) (w := w) D_length_of M
    have Fs := K12.f_stp D_step_of M G_SLIDING Fk Fl
    have Fg := K12.f_grace (P := PySem.Challenge.rw_weirgauge_k12_lines.prog) (w := w) D_grace_of M
    have Xc := K12.x_chk D_check_plan M G_MOST_STEPS E_BadPlan Fl Fs Fg
    have Fm := K12.f_made (P := PySem.Challenge.rw_weirgauge_k12_lines.prog) (w := w) D_is_made_of M B
    have Xn := K12.x_name D_read_name M G_LETTERS E_NoLine Fm
    have Xi := K12.x_num D_read_number M B G_FIGURES E_NoLine Fm
    have Xr := K12.x_read D_read M B G_MARK G_EVENT E_NoLine Xn Xi
    have Xa := K12.x_all D_read_all M Xr
    have Xp := K12.x_plan D_read_plan M B DG DI NBK E_NoLine Xi Xc
    exact K12.f_law D_law M B (K12.f_deed D__law_deed_of M B) (K12.f_line D__law_line_for M B) (K12.f_shown D_shown M B) (K12.f_isd D__law_is_deed M B (K12.f_whole D__law_whole M B)) (K12.f_read Xr) (K12.f_all Xa) (K12.f_plan Xp)
      (K12.f_ref D__law_refused M E_NoLine E_BadPlan x0 x2 x3 Xr Xa Xp) (K12.f_under D__law_under_base M B E_BadPlan E_GaugeError E_NoLine x1 x4 x5 x6 Xr) (K12.f_plans D__law_plans M)
