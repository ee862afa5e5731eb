import PyProof.Rows.All
import Wide.All
import OpenK.AllK
import Wide.FinOn
import Lean
import PyProof.EqAt
import PyProof.EqKinds
import PyProof.TupleCall
import PyProof.NeKinds
import PyProof.Rows.SortRuns
import PyProof.Rows.SortWalk
import KE.KSortTup
import KE.RegKTryMore
import KE.RegKIsAll
import KE.KPairComp
import PyProof.ExcAttrAll.ValueError
import PySem.Challenge.RW_weirgauge_k02_plans_refused
set_option Elab.async false
set_option linter.all false
set_option maxRecDepth 100000
set_option maxHeartbeats 4000000
namespace L2
open PySem PySem.Spec PyProof.Rows
/-- a key: an int or a str -/
abbrev Key := Sum Int Str
def keyIs : Key → Value → Bool
  | .inl k, v => Value.isInt k v
  | .inr x, v => Value.isStrOf x v
def keyH (w : World) : Key → Int
  | .inl k => hashInt k
  | .inr x => hashStr w x
theorem keyIs_shape : ∀ {k : Key} {v : Value}, keyIs k v = true → (∃ i t, k = Sum.inl i ∧ v = Value.int i t) ∨ (∃ x t, k = Sum.inr x ∧ v = Value.str x t)
  | .inl i, v, h => by
    obtain ⟨t, e⟩ := Value.isInt_shape (k := i) (v := v) h
    exact .inl ⟨i, t, rfl, e⟩
  | .inr x, v, h => by
    obtain ⟨t, e⟩ := Value.isStrOf_shape (x := x) (v := v) h
    exact .inr ⟨x, t, rfl, e⟩
theorem key_ll (a b : Int) : decide ((Sum.inl a : Key) = Sum.inl b) = (a == b) := by
  by_cases e : a = b
  · subst e; simp
  · have h : ¬ (Sum.inl a : Key) = Sum.inl b := fun q => e (Sum.inl.inj q)
    rw [decide_eq_false h]
    exact (beq_eq_false_iff_ne.mpr e).symm
theorem key_rr (a b : Str) : decide ((Sum.inr a : Key) = Sum.inr b) = decide (a = b) := by
  by_cases e : a = b
  · subst e; simp
  · have h : ¬ (Sum.inr a : Key) = Sum.inr b := fun q => e (Sum.inr.inj q)
    rw [decide_eq_false h, decide_eq_false e]
theorem key_lr (a : Int) (b : Str) : decide ((Sum.inl a : Key) = Sum.inr b) = false := decide_eq_false (fun q => nomatch q)
theorem key_rl (a : Str) (b : Int) : decide ((Sum.inr a : Key) = Sum.inl b) = false := decide_eq_false (fun q => nomatch q)
def mixKind (prog : Program) (w : World) : PySem.KeyKind prog w Key where
  is := keyIs
  hash := keyH w
  inj := fun v a b ha hb => by
    rcases keyIs_shape ha with ⟨i, t, rfl, rfl⟩ | ⟨x, t, rfl, rfl⟩
    · rcases keyIs_shape hb with ⟨j, u, rfl, e⟩ | ⟨y, u, rfl, e⟩
      · injection e with e1 _; rw [e1]
      · exact nomatch e
    · rcases keyIs_shape hb with ⟨j, u, rfl, e⟩ | ⟨y, u, rfl, e⟩
      · exact nomatch e
      · injection e with e1 _; rw [e1]
  byValue := fun k v h => by
    rcases keyIs_shape h with ⟨i, t, rfl, rfl⟩ | ⟨x, t, rfl, rfl⟩ <;> rfl
  pyHash := fun hv h => by
    rcases keyIs_shape hv with ⟨i, t, rfl, rfl⟩ | ⟨x, t, rfl, rfl⟩
    · exact wpAny_pyHash_int h
    · exact wpAny_pyHash_str h
  eqBool := fun hu hv h => by
    rcases keyIs_shape hu with ⟨i, t, rfl, rfl⟩ | ⟨x, t, rfl, rfl⟩
    · rcases keyIs_shape hv with ⟨j, u, rfl, rfl⟩ | ⟨y, u, rfl, rfl⟩
      · rw [key_ll] at h; exact wpAny_eqBool_int h
      · rw [key_lr] at h; exact SeqAt.EqAt.int_str i t y u _ _ _ _ h
    · rcases keyIs_shape hv with ⟨j, u, rfl, rfl⟩ | ⟨y, u, rfl, rfl⟩
      · rw [key_rl] at h; exact SeqAt.EqAt.str_int x t j u _ _ _ _ h
      · rw [key_rr] at h; exact wpAny_eqBool_str h
  «strs» := fun k x t v h => by
    rcases keyIs_shape h with ⟨i, u, rfl, e⟩ | ⟨y, u, rfl, e⟩
    · exact nomatch e
    · injection e with e1 _
      subst e1
      cases v <;> rfl
end L2
namespace L2
open PySem PySem.Spec PyProof.Rows
/-- a value, without the heap -/
inductive V where
  | non | bl (b : Bool) | int (i : Int) | str (x : Str) | byt (b : Array UInt8) | flt (b : UInt64) | ref (a : Addr) | ty (n : String)
  deriving DecidableEq
def RelV : V → Value → Prop
  | .non, u => u = Value.none
  | .bl b, u => u = Value.bool b
  | .int i, u => ∃ t, u = Value.int i t
  | .str x, u => ∃ t, u = Value.str x t
  | .byt b, u => ∃ t, u = Value.bytes b t
  | .flt b, u => ∃ t, u = Value.float b t
  | .ref a, u => u = Value.ref a
  | .ty n, u => u = Value.type n
abbrev Vals : List V → List Value → Prop := Paired RelV
theorem Vals.length {xs : List V} {us : List Value} (r : Vals xs us) : xs.length = us.length := Paired.length r
theorem Vals.get : ∀ {xs : List V} {us : List Value} {i : Nat} {x : V}, Vals xs us → xs[i]? = some x → ∃ u, us[i]? = some u ∧ RelV x u
  | _, _, _, _, .nil, e => by simp at e
  | _, _, 0, _, .cons r _, e => by simp at e; subst e; exact ⟨_, rfl, r⟩
  | _, _, i + 1, x, .cons _ t, e => by
    obtain ⟨u, h1, h2⟩ := Vals.get (i := i) (x := x) t (by simpa using e)
    exact ⟨u, by simpa using h1, h2⟩
theorem Vals.append : ∀ {xs ys : List V} {us ws : List Value}, Vals xs us → Vals ys ws → Vals (xs ++ ys) (us ++ ws)
  | _, _, _, _, .nil, s => s
  | _, _, _, _, .cons r t, s => .cons r (Vals.append t s)
def RelO : Option V → Option Value → Prop
  | some v, some u => RelV v u
  | none, none => True
  | _, _ => False
def KV {κ : Type} : List (κ × V) → List (κ × Value) → Prop := Paired fun (p : κ × V) (q : κ × Value) => p.1 = q.1 ∧ RelV p.2 q.2
/-- a key of a dict (00_mix): an int or a text -/
def kV : Key → V
  | .inl i => .int i
  | .inr x => .str x
/-- what stands at a tracked address -/
inductive HO where
  /-- a list -/
  | lst (xs : List V)
  /-- a tuple (never changes) -/
  | tup (xs : List V)
  /-- a dict whose keys are ints and texts; one whose keys are tuples of ints and texts (the empty one is both) -/
  | dK (kvs : List (Key × V)) | dT (kvs : List (List Key × V))
  /-- a set of ints: its members, its size -/
  | set (S : Int → Bool) (n : Nat)
  /-- an instance of the class at C, its dict at dx, its attributes -/
  | ins (C dx : Addr) (fs : List (Str × V))
  /-- the dict of the instance at x -/
  | own (x : Addr)
  /-- the dict of an exception -/
  | xd (fs : List (Str × V))
  /-- a bound method, f of x -/
  | met (f x : Addr)
  /-- a range object lo, lo + 1, .. below hi -/
  | rng (lo hi : Int)
  /-- a thing that is known to the object (the script; a dict while a loop walks it): read, never written while it is so -/
  | frz (o : Obj) (u : HO)
  /-- a code object's table -/
  | tbl (ps : Array Value)
  /-- any other thing, by what is true of its one object (a def of one's own: SetO a S n := HO.ext fun h => ..) -/
  | ext (φ : Heap → Prop)
abbrev Hp := Addr → Option HO
def upd (H : Hp) (a : Addr) (o : HO) : Hp := fun b => if b = a then some o else H b
theorem upd_same {H : Hp} {a : Addr} {o : HO} : upd H a o a = some o := by unfold upd; rw [if_pos rfl]
theorem upd_ne {H : Hp} {a b : Addr} {o : HO} (h : b ≠ a) : upd H a o b = H b := by unfold upd; rw [if_neg h]
/-- two objects of different content stand apart -/
theorem ne_of {H : Hp} {a b : Addr} {o u : HO} (h : H a = some o) (h' : H b = some u) (d : o ≠ u) : a ≠ b := by
  intro e; subst e; rw [h] at h'; exact d (Option.some.inj h')
theorem ne_of_none {H : Hp} {a b : Addr} {o : HO} (h : H a = some o) (h' : H b = none) : a ≠ b := by
  intro e; subst e; rw [h] at h'; cases h'
section
variable (P : Program) (w : World)
def ObjOk (H : Hp) (h : Heap) (a : Addr) : HO → Prop
  | .lst xs => xs.length ≤ sizeLine ∧ ∃ (its : List Value) (n : Nat), Vals xs its ∧ h.get? a = some { cls := .type "list", data := .seq its.toArray n }
  | .tup xs => xs.length ≤ sizeLine ∧ ∃ its : List Value, Vals xs its ∧ IsTup h a its.toArray
  | .dK kvs => kvs.length ≤ sizeLine ∧ (a == sysModules) = false ∧ ∃ vs, KV kvs vs ∧ h.DictOf (mixKind P w) a vs
  | .dT kvs => kvs.length ≤ sizeLine ∧ (a == sysModules) = false ∧ ∃ xs : List (List Key × Addr × Value),
      Paired (fun (p : List Key × V) (q : List Key × Addr × Value) => p.1 = q.1 ∧ H q.2.1 = some (.tup (p.1.map kV)) ∧ RelV p.2 q.2.2) kvs xs ∧
      ∃ o es ep, h.get? a = some o ∧ o.ExactDict ∧ o.data = .dict es ep ∧ es.toList = xs.map (entryOfKey (tupleKind (mixKind P w))) ∧ (xs.map (·.1)).Nodup
  | .set S n => h.SetOf (intKind P w) a S n
  | .ins C dx fs => H dx = some (.own a) ∧ fs.length ≤ 1000 ∧ dx ≠ a ∧ h.get? a = some (PySem.W.instObj C dx) ∧
      ∃ mA, h.Ns1 dx mA ∧ (∀ f, RelO (fs.lookup f) (mA f)) ∧ PySem.Within mA (fs.map (·.1))
  | .own _ => ∃ o, h.get? a = some o
  | .xd fs => ∃ mA, h.Ns1 a mA ∧ ∀ f, RelO (fs.lookup f) (mA f)
  | .rng lo hi => ∃ t u v, h.get? a = some { cls := .type "range", data := .fields #[.int lo t, .int hi u, .int 1 v] }
  | .frz o u => h.get? a = some o ∧ ObjOk H h a u
  | .tbl ps => h.get? a = some { cls := .none, data := .fields ps }
  | .met f x => h.get? a = some (PySem.W.methodObj (.ref f) (.ref x))
  | .ext φ => φ h ∧ (∃ o, h.get? a = some o) ∧ ∀ h1 h2 : Heap, φ h1 → (∀ o, h1.get? a = some o → h2.get? a = some o) → φ h2
/-- the abstract heap is held -/
def HOk (H : Hp) (h : Heap) : Prop := ∀ a o, H a = some o → ObjOk P w H h a o
end
section
variable {P : Program} {w : World} {H H' : Hp} {h h' : Heap} {a : Addr} {o : HO}
theorem ObjOk.lt (x : ObjOk P w H h a o) : a < h.objs.size := by
  cases o with
  | lst xs => obtain ⟨_, _, _, _, e⟩ := x; exact Heap.lt_size e
  | tup xs => obtain ⟨_, _, _, p⟩ := x; exact p.lt
  | dK kvs => obtain ⟨_, _, _, _, o, _, _, e, _⟩ := x; exact Heap.lt_size e
  | dT kvs => obtain ⟨_, _, _, _, o, _, _, e, _⟩ := x; exact Heap.lt_size e
  | set S n => obtain ⟨o, _, _, _, e, _⟩ := x; exact Heap.lt_size e
  | ins C dx fs => obtain ⟨_, _, _, e, _⟩ := x; exact Heap.lt_size e
  | own y => obtain ⟨_, e⟩ := x; exact Heap.lt_size e
  | xd fs => obtain ⟨_, ⟨_, _, _, e, _⟩, _⟩ := x; exact Heap.lt_size e
  | rng lo hi => obtain ⟨_, _, _, e⟩ := x; exact Heap.lt_size e
  | frz ob u => obtain ⟨e, _⟩ := x; exact Heap.lt_size e
  | tbl ps => exact Heap.lt_size (show h.get? a = some _ from x)
  | met f y => exact Heap.lt_size (show h.get? a = some _ from x)
  | ext φ => obtain ⟨_, ⟨_, e⟩, _⟩ := x; exact Heap.lt_size e
theorem Paired.mapP {α β : Type} {F G : α → β → Prop} : ∀ {l₁ : List α} {l₂ : List β}, Paired F l₁ l₂ → (∀ a b, F a b → G a b) → Paired G l₁ l₂
  | _, _, .nil, _ => .nil
  | _, _, .cons r t, f => .cons (f _ _ r) (Paired.mapP t f)
/-- what an object's description leans on: its own object, its own dict, the tuples -/
theorem ObjOk.stay (x : ObjOk P w H h a o) (k : ∀ b u, (b = a ∨ H b = some (.own a)) → h.get? b = some u → h'.get? b = some u)
    (ho : ∀ b, H b = some (.own a) → H' b = some (.own a)) (ht : ∀ b xs, H b = some (.tup xs) → H' b = some (.tup xs)) : ObjOk P w H' h' a o := by
  induction o with
  | lst xs => obtain ⟨z, its, n, r, e⟩ := x; exact ⟨z, its, n, r, k _ _ (.inl rfl) e⟩
  | tup xs => obtain ⟨z, its, r, ob, e, c⟩ := x; exact ⟨z, its, r, ob, k _ _ (.inl rfl) e, c⟩
  | dK kvs => obtain ⟨z, y, vs, r, ob, es, ep, e, c⟩ := x; exact ⟨z, y, vs, r, ob, es, ep, k _ _ (.inl rfl) e, c⟩
  | dT kvs =>
    obtain ⟨z, y, xs, r, ob, es, ep, e, c⟩ := x
    exact ⟨z, y, xs, Paired.mapP r fun p q z => ⟨z.1, ht _ _ z.2.1, z.2.2⟩, ob, es, ep, k _ _ (.inl rfl) e, c⟩
  | set S n => obtain ⟨ob, es, ep, t, e, c⟩ := x; exact ⟨ob, es, ep, t, k _ _ (.inl rfl) e, c⟩
  | ins C dx fs =>
    obtain ⟨d, z, ne, e, mA, ⟨od, es, ep, e2, c⟩, r⟩ := x
    exact ⟨ho _ d, z, ne, k _ _ (.inl rfl) e, mA, ⟨od, es, ep, k _ _ (.inr d) e2, c⟩, r⟩
  | own y => obtain ⟨ob, e⟩ := x; exact ⟨ob, k _ _ (.inl rfl) e⟩
  | xd fs => obtain ⟨mA, ⟨od, es, ep, e, c⟩, r⟩ := x; exact ⟨mA, ⟨od, es, ep, k _ _ (.inl rfl) e, c⟩, r⟩
  | rng lo hi => obtain ⟨t, u, v, e⟩ := x; exact ⟨t, u, v, k _ _ (.inl rfl) e⟩
  | frz ob u ih => obtain ⟨e, q⟩ := x; exact ⟨k _ _ (.inl rfl) e, ih q⟩
  | tbl ps =>
    have e : h.get? a = some { cls := .none, data := .fields ps } := x
    show h'.get? a = some { cls := .none, data := .fields ps }
    exact k a _ (.inl rfl) e
  | met f y =>
    have e : h.get? a = some (PySem.W.methodObj (.ref f) (.ref y)) := x
    show h'.get? a = some (PySem.W.methodObj (.ref f) (.ref y))
    exact k a _ (.inl rfl) e
  | ext φ => obtain ⟨p, ⟨o, e⟩, st⟩ := x; exact ⟨st _ _ p fun o q => k _ _ (.inl rfl) q, ⟨o, k _ _ (.inl rfl) e⟩, st⟩
theorem HOk.lt (x : HOk P w H h) (e : H a = some o) : a < h.objs.size := (x a o e).lt
theorem HOk.fresh (x : HOk P w H h) (e : h.objs.size ≤ a) : H a = none := by
  cases q : H a with
  | none => rfl
  | some u => exact absurd (Nat.lt_of_lt_of_le (x.lt q) e) (Nat.lt_irrefl _)
/-- every object of the heap is kept -/
theorem HOk.kept (x : HOk P w H h) (k : ∀ b u, h.get? b = some u → h'.get? b = some u) : HOk P w H h' := fun a o e =>
  (x a o e).stay (fun b u _ q => k b u q) (fun _ q => q) fun _ _ q => q
/-- a new object is laid and tracked -/
theorem HOk.laid (x : HOk P w H h) (k : ∀ b u, h.get? b = some u → h'.get? b = some u) (hp : h.objs.size ≤ a) (new : ObjOk P w (upd H a o) h' a o) : HOk P w (upd H a o) h' := fun b u e => by
  have hn := x.fresh hp
  by_cases hb : b = a
  · subst hb; rw [upd_same] at e; cases e; exact new
  · rw [upd_ne hb] at e
    exact (x b u e).stay (fun c v _ q => k c v q) (fun c q => by rw [upd_ne (ne_of_none q hn)]; exact q) fun c xs q => by rw [upd_ne (ne_of_none q hn)]; exact q
end
/-- what may be read as u: it is u, or a known u -/
def Rd (H : Hp) (a : Addr) (u : HO) : Prop := H a = some u ∨ ∃ o, H a = some (.frz o u)
theorem Rd.ok {P : Program} {w : World} {H : Hp} {h : Heap} {a : Addr} {u : HO} (r : Rd H a u) (x : HOk P w H h) : ObjOk P w H h a u := by
  rcases r with r | ⟨o, r⟩
  · exact x a u r
  · obtain ⟨_, q⟩ := x a _ r
    exact q
/-- what may be written -/
def Mut : Option HO → Prop
  | some (.lst _) => True
  | some (.dK _) => True
  | some (.dT _) => True
  | some (.set _ _) => True
  | some (.ins _ _ _) => True
  | some (.ext _) => True
  | _ => False
section
variable {P : Program} {w : World} {H : Hp} {h h' : Heap} {x e : Addr} {o' : HO}
/-- the object at e is changed: x itself, or the dict of the instance x -/
theorem HOk.write (ok : HOk P w H h) (mu : Mut (H x)) (he : e = x ∨ H e = some (.own x)) (k : ∀ b u, b ≠ e → h.get? b = some u → h'.get? b = some u) (heo : ∃ u, h'.get? e = some u)
    (new : ObjOk P w (upd H x o') h' x o') : HOk P w (upd H x o') h' := fun b u q => by
  have nown : ∀ c y, H c = some (.own y) → c ≠ x := fun c y r z => by subst z; rw [r] at mu; exact mu
  have ntup : ∀ c xs, H c = some (.tup xs) → c ≠ x := fun c xs r z => by subst z; rw [r] at mu; exact mu
  by_cases hb : b = x
  · subst hb; rw [upd_same] at q; cases q; exact new
  · rw [upd_ne hb] at q
    by_cases hbe : b = e
    · have q' : H b = some (.own x) := by
        rcases he with z | z
        · exact absurd (hbe.trans z) hb
        · rw [hbe]; exact z
      rw [q] at q'; cases q'
      obtain ⟨v, hv⟩ := heo
      exact ⟨v, by rw [hbe]; exact hv⟩
    · refine (ok b u q).stay (fun c v hc r => k c v ?_ r) (fun c r => by rw [upd_ne (nown c b r)]; exact r) fun c xs r => by rw [upd_ne (ntup c xs r)]; exact r
      rcases hc with rfl | hc
      · exact hbe
      · rintro rfl
        rcases he with z | z
        · exact nown c b hc z
        · rw [hc] at z; cases z; exact hb rfl
end
structure Un (fs ex : List Addr) (H H' : Hp) (h h' : Heap) : Prop where
  keep : ∀ b o, h.get? b = some o → H b = none → b ∉ fs → b ∉ ex → h'.get? b = some o
  slot : ∀ b o, h.get? b = some o → H b = none → b ∈ fs → b ∉ ex → ∃ sl, h'.get? b = some { o with slots := sl }
  free : ∀ b o, h.get? b = some o → H b = none → b ∉ ex → H' b = none
  there : ∀ b o, h.get? b = some o → b ∉ ex → ∃ o', h'.get? b = some o'
  tups : ∀ b xs, H b = some (.tup xs) → H' b = some (.tup xs)
  frzs : ∀ b o u, H b = some (.frz o u) → H' b = some (.frz o u)
  tbls : ∀ b ps, H b = some (.tbl ps) → ∃ more, H' b = some (.tbl (ps ++ more))
section
variable {fs fs' ex ex' : List Addr} {H H1 H2 : Hp} {h h1 h2 h' : Heap} {a x e : Addr} {o : HO}
theorem Un.any (u : Un fs ex H H1 h h1) {b : Addr} {ob : Obj} (q : h.get? b = some ob) (n : H b = none) (hx : b ∉ ex) : ∃ sl, h1.get? b = some { ob with slots := sl } := by
  by_cases hb : b ∈ fs
  · exact u.slot b ob q n hb hx
  · exact ⟨ob.slots, u.keep b ob q n hb hx⟩
theorem Un.kept (k : ∀ b u, h.get? b = some u → h'.get? b = some u) : Un fs ex H H h h' :=
  ⟨fun b ob q _ _ _ => k b ob q, fun b ob q _ _ _ => ⟨ob.slots, k b ob q⟩, fun _ _ _ n _ => n, fun b ob q _ => ⟨ob, k b ob q⟩, fun _ _ q => q, fun _ _ _ q => q, fun _ ps q => ⟨#[], by rw [q]; simp⟩⟩
theorem Un.refl : Un fs ex H H h h := Un.kept fun _ _ q => q
theorem Un.laid (k : ∀ b u, h.get? b = some u → h'.get? b = some u) (hp : h.objs.size ≤ a) (hn : H a = none) : Un fs ex H (upd H a o) h h' where
  keep := fun b u q _ _ _ => k b u q
  slot := fun b u q _ _ _ => ⟨u.slots, k b u q⟩
  free := fun b u q n _ => by rw [upd_ne (Nat.ne_of_lt (Nat.lt_of_lt_of_le (Heap.lt_size q) hp))]; exact n
  there := fun b u q _ => ⟨u, k b u q⟩
  tups := fun b xs q => by rw [upd_ne (ne_of_none q hn)]; exact q
  frzs := fun b u xs q => by rw [upd_ne (ne_of_none q hn)]; exact q
  tbls := fun b ps q => ⟨#[], by rw [upd_ne (ne_of_none q hn), q]; simp⟩
theorem Un.write (mu : Mut (H x)) (he : e = x ∨ H e = some (.own x)) (k : ∀ b u, b ≠ e → h.get? b = some u → h'.get? b = some u) (heo : ∃ u, h'.get? e = some u) : Un fs ex H (upd H x o) h h' := by
  have hx : ∀ b, H b = none → b ≠ x := fun b n z => by subst z; rw [n] at mu; exact mu
  have hb : ∀ b, H b = none → b ≠ e := fun b n z => by
    subst z
    rcases he with r | r
    · exact hx b n r
    · rw [n] at r; cases r
  have hm : ∀ b u, H b = some u → ¬ Mut (some u) → b ≠ x := fun b u q nm z => by subst z; rw [q] at mu; exact nm mu
  refine ⟨fun b u q n _ _ => k b u (hb b n) q, fun b u q n _ _ => ⟨u.slots, k b u (hb b n) q⟩, fun b u q n _ => by rw [upd_ne (hx b n)]; exact n, fun b u q _ => ?_,
    fun b xs q => by rw [upd_ne (hm b _ q fun z => z)]; exact q, fun b u xs q => by rw [upd_ne (hm b _ q fun z => z)]; exact q, fun b ps q => ⟨#[], by rw [upd_ne (hm b _ q fun z => z), q]; simp⟩⟩
  by_cases hbe : b = e
  · subst hbe; exact heo
  · exact ⟨u, k b u hbe q⟩
end
def trk (h : Heap) (H : Hp) : List Addr := (List.range h.objs.size).filter fun a => (H a).isSome
def hidT (h : Heap) (H : Hp) : Heap := PySem.W.hideAll h (trk h H)
theorem hidT_size (h : Heap) (H : Hp) : (hidT h H).objs.size = h.objs.size := PySem.W.hideAll_size _ _
theorem hidT_get {h : Heap} {H : Hp} {b : Addr} {o : Obj} (e : h.get? b = some o) (n : H b = none) : (hidT h H).get? b = some o :=
  PySem.W.hideAll_get _ e fun hm => by
    have q : (H b).isSome = true := (List.mem_filter.mp hm).2
    rw [n] at q; simp at q
theorem of_hidT {h : Heap} {H : Hp} {b : Addr} {o : Obj} (e : (hidT h H).get? b = some o) : h.get? b = some o ∧ H b = none := by
  have e' : h.get? b = some o := PySem.W.of_hideAll (trk h H) e
  refine ⟨e', ?_⟩
  cases q : H b with
  | none => rfl
  | some x =>
    have hm : b ∈ trk h H := List.mem_filter.mpr ⟨List.mem_range.mpr (Heap.lt_size e'), by simp [q]⟩
    have z : (hidT h H).get? b = none := PySem.W.hideAll_none (trk h H) hm
    rw [z] at e; cases e
end L2
namespace L2
open PySem PySem.Spec PyProof.Rows
/-- the module's facts, over the base: the heap at the law's entry without what is tracked there -/
structure Mod (K : PySem.W.Frag) (mg : Str → Option Value) (base : Heap) : Prop where
  kin : K.In base
  glob : base.Ns mainGlobals mg
  blt : ∃ mb, base.Ns builtinsNs mb ∧ ∀ x : Str, x ≠ "__name__" → mb x = bootBuiltins x
  nolimit : base.NoLimit
/-- the context: a def's body (or a comprehension's block) running. base: fixed through the whole law; s₀, H₀: the entry; outer: the frames whose slots others may change (a def's callers); stack: all frames that run;
   ex: iterators that were made ahead of the entry and are walked here (a comprehension's); fn: the names whose cells were made at the entry (a def: all; a comprehension's block: its own); calm: not within an except suite; pn: pins that every state bears; xe: what is wanted of an exception that leaves the code -/
structure Cx where
  prog : Program
  w : World
  K : PySem.W.Frag
  mg : Str → Option Value
  base : Heap
  A : Around
  N : List Str
  s₀ : Shared
  H₀ : Hp
  env : Env
  outer : List Env
  stack : List Env
  ex : List Addr
  fn : Str → Bool
  calm : Bool
  pn : List (Addr × Obj)
  xe : Value → Shared → Prop
/-- the callers' frames -/
def frs (l : List Env) : List Addr := l.filterMap (·.frame)
abbrev Cx.fs (X : Cx) : List Addr := frs X.outer
def Vis (sc : Scope) (x : Str) : Prop := sc.names.lookup x = some .local ∨ sc.names.lookup x = some .cell ∨ sc.names.lookup x = some .free
def Loc (sc : Scope) (x : Str) : Prop := sc.names.lookup x = some .local ∨ sc.names.lookup x = some .cell
def Look (env : Env) (h : Heap) (m : Str → Option Value) (x : Str) (u : Value) : Prop :=
  (env.kindOf x = some .local ∧ m x = some u) ∨ ((env.kindOf x = some .cell ∨ env.kindOf x = some .free) ∧ ∃ c, env.cells.lookup x = some c ∧ h.IsCell c (some u))
structure Cx.Ok (X : Cx) : Prop where
  mod : Mod X.K X.mg X.base
  kind : X.env.scope.kind = .function
  glob : X.env.globals = mainGlobals
  blt : X.env.builtins = builtinsNs
  above : X.s₀.heap.objs.size ≤ X.env.locals
  inj : ∀ x y c, X.env.cells.lookup x = some c → X.env.cells.lookup y = some c → x = y
  has : ∀ x, (X.env.kindOf x = some .cell ∨ X.env.kindOf x = some .free) → ∃ c, X.env.cells.lookup x = some c
  cab : ∀ x c, X.fn x = true → X.env.cells.lookup x = some c → X.s₀.heap.objs.size ≤ c
  hd : X.calm = true → X.A.handled = none
  frames : X.A.frames = some X.stack
  stk : X.stack = X.outer ∨ (X.stack = X.env :: X.outer ∧ X.env.frame = some X.env.locals)
  exf : ∀ b ∈ X.ex, b ≠ X.env.locals ∧ ∀ x c, X.env.cells.lookup x = some c → c ≠ b
  bs : ∀ b o, X.base.get? b = some o → X.s₀.heap.get? b = some o ∧ X.H₀ b = none
  bsz : X.base.objs.size ≤ X.s₀.heap.objs.size
  noex : ∀ b o, X.base.get? b = some o → b ∉ X.ex
  exfs : ∀ b ∈ X.ex, b ∉ X.fs
  funs : X.s₀.heap.FunFrames X.base X.outer
  frf : ∀ b ∈ X.fs, X.H₀ b = none
structure Inv (X : Cx) (pins : List (Addr × Obj)) (σ : List (Option V)) (H : Hp) (s : Shared) : Prop where
  ok : X.Ok
  os : s.os = X.s₀.os
  bare : AllBare s.gens
  base : Un X.fs X.ex X.H₀ H X.s₀.heap s.heap
  loc : ∃ m, s.heap.Ns X.env.locals m ∧ ∀ (i : Nat) (x : Str) (v : V), X.N[i]? = some x → σ[i]? = some (some v) → Vis X.env.scope x → ∃ u, RelV v u ∧ Look X.env s.heap m x u
  cell : ∀ x c, X.env.cells.lookup x = some c → ∃ v, s.heap.IsCell c v
  free : H X.env.locals = none
  freeC : ∀ x c, X.env.cells.lookup x = some c → H c = none
  pin : ∀ p ∈ X.pn ++ pins, s.heap.get? p.1 = some p.2 ∧ H p.1 = none ∧ p.1 ≠ X.env.locals ∧ p.1 ∉ X.fs ∧ ∀ v, p.2.data ≠ .cell v
  hok : HOk X.prog X.w H s.heap
  len : σ.length = X.N.length
section
variable {X : Cx} {pins : List (Addr × Obj)} {σ : List (Option V)} {H H' : Hp} {s : Shared} {h' : Heap}
theorem Cx.Ok.nofr (ok : X.Ok) {b : Addr} {o : Obj} (e : X.base.get? b = some o) : b ∉ X.fs := fun hb => by
  have := (ok.funs.mem hb).1
  rw [e] at this; cases this
theorem Inv.bs (I : Inv X pins σ H s) : ∀ b o, X.base.get? b = some o → s.heap.get? b = some o ∧ H b = none := fun b o e =>
  ⟨I.base.keep b o (I.ok.bs b o e).1 (I.ok.bs b o e).2 (I.ok.nofr e) (I.ok.noex b o e), I.base.free b o (I.ok.bs b o e).1 (I.ok.bs b o e).2 (I.ok.noex b o e)⟩
theorem Inv.bk (I : Inv X pins σ H s) : ∀ b o, X.base.get? b = some o → s.heap.get? b = some o := fun b o e => (I.bs b o e).1
theorem Inv.mod (I : Inv X pins σ H s) : Mod X.K X.mg X.base := I.ok.mod
theorem Inv.kIn (I : Inv X pins σ H s) : X.K.In s.heap := I.ok.mod.kin.keeps I.bk
theorem Inv.lt (I : Inv X pins σ H s) : X.env.locals < s.heap.objs.size := let ⟨_, hn, _⟩ := I.loc; hn.lt
theorem Inv.sz (I : Inv X pins σ H s) : X.s₀.heap.objs.size ≤ s.heap.objs.size := Nat.le_trans I.ok.above (Nat.le_of_lt I.lt)
theorem Inv.nofs (I : Inv X pins σ H s) {a : Addr} (h : s.heap.objs.size ≤ a) : a ∉ X.fs := fun hb => by
  obtain ⟨_, o, ho, _⟩ := I.ok.funs.mem hb
  exact absurd (Nat.lt_of_lt_of_le (Heap.lt_size ho) (Nat.le_trans I.sz h)) (Nat.lt_irrefl _)
theorem Inv.cne (I : Inv X pins σ H s) : ∀ x c, X.env.cells.lookup x = some c → c ≠ X.env.locals := fun x c e z => by
  obtain ⟨v, o, ho, hd⟩ := I.cell x c e
  obtain ⟨m, ⟨o', es, ep, ho', hd', _⟩, _⟩ := I.loc
  rw [z, ho'] at ho; cases ho; rw [hd'] at hd; cases hd
theorem Inv.funs (I : Inv X pins σ H s) : s.heap.FunFrames X.base X.outer := by
  have all : ∀ (l : List Env), (∀ b ∈ frs l, b ∈ X.fs) → X.s₀.heap.FunFrames X.base l → s.heap.FunFrames X.base l := by
    intro l
    induction l with
    | nil => intro _ _; trivial
    | cons env r ih =>
      intro hs hl
      obtain ⟨hk, ⟨L, o, hf, hn, ho, hd⟩, hr⟩ := hl
      have hL : L ∈ X.fs := hs L (by unfold frs; rw [List.filterMap_cons, hf]; exact List.mem_cons_self)
      obtain ⟨sl, e⟩ := I.base.slot L o ho (I.ok.frf L hL) hL fun z => I.ok.exfs L z hL
      exact ⟨hk, ⟨L, _, hf, hn, e, hd⟩, ih (fun b hb => hs b (by unfold frs; rw [List.filterMap_cons, hf]; exact List.mem_cons_of_mem _ hb)) hr⟩
  exact all X.outer (fun _ hb => hb) I.ok.funs
/-- the frames that run, for a call -/
theorem Inv.stack (I : Inv X pins σ H s) : s.heap.FunFrames X.base X.stack := by
  rcases I.ok.stk with e | ⟨e, hf⟩
  · rw [e]; exact I.funs
  · rw [e]
    obtain ⟨m, hn, _⟩ := I.loc
    refine .cons (by rw [I.ok.kind]; decide) hf hn ?_ I.funs
    exact Heap.get?_none_of_le (Nat.le_trans I.ok.bsz I.ok.above)
theorem Inv.stkSub (I : Inv X pins σ H s) : ∀ b ∈ frs X.stack, b ∈ X.env.locals :: X.fs := fun b hb => by
  rcases I.ok.stk with e | ⟨e, hf⟩
  · rw [e] at hb; exact List.mem_cons_of_mem _ hb
  · rw [e] at hb
    unfold frs at hb
    rw [List.filterMap_cons, hf] at hb
    exact hb
theorem Inv.stkFree (I : Inv X pins σ H s) : ∀ b ∈ frs X.stack, H b = none := fun b hb => by
  rcases List.mem_cons.mp (I.stkSub b hb) with e | hb
  · rw [e]; exact I.free
  · obtain ⟨_, o, ho, _⟩ := I.ok.funs.mem hb
    exact I.base.free b o ho (I.ok.frf b hb) fun z => I.ok.exfs b z hb
/-- THE STEP: the untracked objects but the frame and the records at ch are kept (the callers' frames up to slots), the frame's map is kept, the new abstract heap is held -/
theorem Inv.step {g' : Array GenState} {t' : Nat} {d' : Drawn} {ch : List Addr} (I : Inv X pins σ H s)
    (hch : ∀ b ∈ ch, (b ∈ X.ex ∨ X.s₀.heap.objs.size ≤ b) ∧ b ≠ X.env.locals ∧ (∀ x c, X.env.cells.lookup x = some c → c ≠ b) ∧ ∀ p ∈ X.pn ++ pins, p.1 ≠ b)
    (keep : ∀ b o, b ≠ X.env.locals → b ∉ X.fs → b ∉ ch → s.heap.get? b = some o → H b = none → h'.get? b = some o)
    (slot : ∀ b o, b ≠ X.env.locals → b ∈ X.fs → b ∉ ch → s.heap.get? b = some o → H b = none → ∃ sl, h'.get? b = some { o with slots := sl }) (free : ∀ b o, b ∉ ch → s.heap.get? b = some o → H b = none → H' b = none)
    (there : ∀ b o, b ∉ ch → s.heap.get? b = some o → ∃ o', h'.get? b = some o')
    (tups : ∀ b xs, H b = some (.tup xs) → H' b = some (.tup xs)) (frzs : ∀ b o u, H b = some (.frz o u) → H' b = some (.frz o u)) (tbls : ∀ b ps, H b = some (.tbl ps) → ∃ more, H' b = some (.tbl (ps ++ more)))
    (ns : ∀ m, s.heap.Ns X.env.locals m → h'.Ns X.env.locals m) (hok : HOk X.prog X.w H' h') (hg : AllBare g') :
    Inv X pins σ H' { s with heap := h', gens := g', drawn := d', toks := t' } := by
  have neL : ∀ b o, X.s₀.heap.get? b = some o → b ≠ X.env.locals := fun b o e => Nat.ne_of_lt (Nat.lt_of_lt_of_le (Heap.lt_size e) I.ok.above)
  have neC : ∀ b o, X.s₀.heap.get? b = some o → b ∉ X.ex → b ∉ ch := fun b o e hx hb => by
    rcases (hch b hb).1 with z | z
    · exact hx z
    · exact absurd (Nat.lt_of_lt_of_le (Heap.lt_size e) z) (Nat.lt_irrefl _)
  have cellK : ∀ x c, X.env.cells.lookup x = some c → ∀ v, s.heap.IsCell c v → h'.IsCell c v := fun x c e v ⟨o, ho, hd⟩ => by
    have nch : c ∉ ch := fun z => (hch c z).2.2.1 x c e rfl
    by_cases hc : c ∈ X.fs
    · obtain ⟨sl, q⟩ := slot c o (I.cne x c e) hc nch ho (I.freeC x c e)
      exact ⟨_, q, hd⟩
    · exact ⟨o, keep c o (I.cne x c e) hc nch ho (I.freeC x c e), hd⟩
  refine ⟨I.ok, I.os, hg, ⟨fun b o e n hb hx => ?_, fun b o e n hb hx => ?_, fun b o e n hx => ?_, fun b o e hx => ?_, fun b xs e => tups b xs (I.base.tups b xs e), fun b o xs e => frzs b o xs (I.base.frzs b o xs e), fun b ps e => ?_⟩, ?_, fun x c e => ?_, ?_, fun x c e => ?_, fun p hp => ?_, hok, I.len⟩
  · exact keep b o (neL b o e) hb (neC b o e hx) (I.base.keep b o e n hb hx) (I.base.free b o e n hx)
  · obtain ⟨sl, e1⟩ := I.base.slot b o e n hb hx
    obtain ⟨sl', e2⟩ := slot b _ (neL b o e) hb (neC b o e hx) e1 (I.base.free b o e n hx)
    exact ⟨sl', e2⟩
  · obtain ⟨o', e1⟩ := I.base.there b o e hx
    exact free b o' (neC b o e hx) e1 (I.base.free b o e n hx)
  · obtain ⟨o', e1⟩ := I.base.there b o e hx
    exact there b o' (neC b o e hx) e1
  · obtain ⟨m1, e1⟩ := I.base.tbls b ps e
    obtain ⟨m2, e2⟩ := tbls b _ e1
    exact ⟨m1 ++ m2, by rw [e2, Array.append_assoc]⟩
  · obtain ⟨m, hn, hl⟩ := I.loc
    refine ⟨m, ns m hn, fun i x v e1 e2 e3 => ?_⟩
    obtain ⟨u, r, l⟩ := hl i x v e1 e2 e3
    refine ⟨u, r, ?_⟩
    rcases l with l | ⟨k, c, e, z⟩
    · exact .inl l
    · exact .inr ⟨k, c, e, cellK x c e _ z⟩
  · obtain ⟨v, z⟩ := I.cell x c e
    exact ⟨v, cellK x c e v z⟩
  · obtain ⟨m, ⟨o, _, _, ho, _⟩, _⟩ := I.loc
    exact free _ o (fun z => (hch _ z).2.1 rfl) ho I.free
  · obtain ⟨v, o, ho, hd⟩ := I.cell x c e
    exact free c o (fun z => (hch c z).2.2.1 x c e rfl) ho (I.freeC x c e)
  · obtain ⟨e, n, ne, nf, d⟩ := I.pin p hp
    have nch : p.1 ∉ ch := fun z => (hch p.1 z).2.2.2 p hp rfl
    exact ⟨keep p.1 p.2 ne nf nch e n, free p.1 p.2 nch e n, ne, nf, d⟩
/-- .. where the frame's own object is kept too -/
theorem Inv.un {t' : Nat} (I : Inv X pins σ H s) (u : Un X.fs [] H H' s.heap h') (hok : HOk X.prog X.w H' h') : Inv X pins σ H' { s with heap := h', toks := t' } := by
  obtain ⟨m, ⟨o, es, ep, ho, r⟩, _⟩ := id I.loc
  obtain ⟨sl, hL⟩ := u.any ho I.free (by simp)
  exact I.step (g' := s.gens) (d' := s.drawn) (ch := []) (fun _ z => nomatch z) (fun b o _ hb _ e n => u.keep b o e n hb (by simp)) (fun b o _ hb _ e n => u.slot b o e n hb (by simp)) (fun b o _ e n => u.free b o e n (by simp)) (fun b o _ e => u.there b o e (by simp)) u.tups u.frzs u.tbls (fun m' hm => by
    obtain ⟨o', es', ep', ho', r'⟩ := hm
    rw [ho] at ho'; cases ho'
    exact ⟨_, es', ep', hL, r'⟩) hok I.bare
/-- behind a call (or a comprehension's block): the slots of this frame may have changed too, the records at ch may have turned -/
theorem Inv.call {g' : Array GenState} {t' : Nat} {d' : Drawn} {ch : List Addr} (I : Inv X pins σ H s) (u : Un (frs X.stack) ch H H' s.heap h') (hok : HOk X.prog X.w H' h') (hg : AllBare g')
    (hch : ∀ b ∈ ch, (b ∈ X.ex ∨ X.s₀.heap.objs.size ≤ b) ∧ b ≠ X.env.locals ∧ (∀ x c, X.env.cells.lookup x = some c → c ≠ b) ∧ ∀ p ∈ X.pn ++ pins, p.1 ≠ b) :
    Inv X pins σ H' { s with heap := h', gens := g', drawn := d', toks := t' } := by
  obtain ⟨m, ⟨o, es, ep, ho, r⟩, _⟩ := id I.loc
  obtain ⟨sl, hL⟩ := u.any ho I.free fun z => (hch _ z).2.1 rfl
  exact I.step (ch := ch) hch (fun b o hL hb hc e n => u.keep b o e n (fun z => (List.mem_cons.mp (I.stkSub b z)).elim hL hb) hc) (fun b o _ _ hc e n => u.any e n hc) (fun b o hc e n => u.free b o e n hc) (fun b o hc e => u.there b o e hc) u.tups u.frzs u.tbls (fun m' hm => by
    obtain ⟨o', es', ep', ho', r'⟩ := hm
    rw [ho] at ho'; cases ho'
    exact ⟨_, es', ep', hL, r'⟩) hok hg
/-- an untracked record of ours (an iterator) has turned -/
theorem Inv.turned {t' : Nat} {it : Addr} (I : Inv X pins σ H s) (k : ∀ b o, b ≠ it → s.heap.get? b = some o → h'.get? b = some o) (hn : H it = none) (hL : it ≠ X.env.locals)
    (h1 : it ∈ X.ex ∨ X.s₀.heap.objs.size ≤ it) (h2 : ∀ x c, X.env.cells.lookup x = some c → c ≠ it) (h3 : ∀ p ∈ X.pn ++ pins, p.1 ≠ it) : Inv X pins σ H { s with heap := h', toks := t' } := by
  have nit : ∀ b u, H b = some u → b ≠ it := fun b u e z => by rw [z, hn] at e; cases e
  refine I.step (g' := s.gens) (d' := s.drawn) (ch := [it]) (fun b hb => ?_) (fun b o _ _ hc e _ => k b o (fun z => hc (by simp [z])) e) (fun b o _ _ hc e _ => ⟨o.slots, k b o (fun z => hc (by simp [z])) e⟩) (fun _ _ _ _ n => n)
    (fun b o hc e => ⟨o, k b o (fun z => hc (by simp [z])) e⟩) (fun _ _ e => e) (fun _ _ _ e => e) (fun b ps e => ⟨#[], by rw [e]; simp⟩) (fun m hm => ?_) (fun b u e => ?_) I.bare
  · have e : b = it := by simpa using hb
    subst e
    exact ⟨h1, hL, h2, h3⟩
  · obtain ⟨o, es, ep, ho, r⟩ := hm
    exact ⟨o, es, ep, k _ o (Ne.symm hL) ho, r⟩
  · refine (I.hok b u e).stay (fun c v hc q => k c v ?_ q) (fun _ q => q) fun _ _ q => q
    rcases hc with z | z
    · rw [z]; exact nit b u e
    · exact nit c _ z
theorem Inv.tok (I : Inv X pins σ H s) (t : Nat) : Inv X pins σ H { s with toks := t } := I.un (h' := s.heap) (t' := t) Un.refl I.hok
/-- all objects kept -/
theorem Inv.kept {t' : Nat} (I : Inv X pins σ H s) (k : ∀ b u, s.heap.get? b = some u → h'.get? b = some u) : Inv X pins σ H { s with heap := h', toks := t' } := I.un (Un.kept k) (I.hok.kept k)
/-- a new object laid and tracked -/
theorem Inv.laid {a : Addr} {o : HO} {t' : Nat} (I : Inv X pins σ H s) (k : ∀ b u, s.heap.get? b = some u → h'.get? b = some u) (hp : s.heap.objs.size ≤ a) (new : ObjOk X.prog X.w (upd H a o) h' a o) :
    Inv X pins σ (upd H a o) { s with heap := h', toks := t' } := I.un (Un.laid k hp (I.hok.fresh hp)) (I.hok.laid k hp new)
/-- an object written -/
theorem Inv.write {x e : Addr} {o : HO} {t' : Nat} (I : Inv X pins σ H s) (mu : Mut (H x)) (he : e = x ∨ H e = some (.own x)) (k : ∀ b u, b ≠ e → s.heap.get? b = some u → h'.get? b = some u) (heo : ∃ u, h'.get? e = some u)
    (new : ObjOk X.prog X.w (upd H x o) h' x o) : Inv X pins σ (upd H x o) { s with heap := h', toks := t' } := I.un (Un.write mu he k heo) (I.hok.write mu he k heo new)
/-- forgetting slots, pins -/
theorem Inv.weak {σ' : List (Option V)} (I : Inv X pins σ H s) (hl : σ'.length = σ.length) (w : ∀ (i : Nat) v, σ'[i]? = some (some v) → σ[i]? = some (some v)) : Inv X pins σ' H s :=
  ⟨I.ok, I.os, I.bare, I.base, let ⟨m, hn, hl'⟩ := I.loc; ⟨m, hn, fun i x v e1 e2 e3 => hl' i x v e1 (w i v e2) e3⟩, I.cell, I.free, I.freeC, I.pin, I.hok, hl.trans I.len⟩
theorem Inv.pins_of {pins' : List (Addr × Obj)} (I : Inv X pins σ H s) (h : ∀ p ∈ pins', s.heap.get? p.1 = some p.2 ∧ H p.1 = none ∧ p.1 ≠ X.env.locals ∧ p.1 ∉ X.fs ∧ ∀ v, p.2.data ≠ .cell v) : Inv X pins' σ H s :=
  ⟨I.ok, I.os, I.bare, I.base, I.loc, I.cell, I.free, I.freeC, fun p hp => (List.mem_append.mp hp).elim (fun z => I.pin p (List.mem_append_left _ z)) (h p), I.hok, I.len⟩
theorem nodup_ix {N : List Str} (hN : N.Nodup) {i j : Nat} {x : Str} (a : N[i]? = some x) (b : N[j]? = some x) : i = j := by
  obtain ⟨h1, e1⟩ := List.getElem?_eq_some_iff.mp a
  obtain ⟨h2, e2⟩ := List.getElem?_eq_some_iff.mp b
  exact (List.getElem_inj hN).mp (e1.trans e2.symm)
/-- a name is stored; what changed -/
theorem store_ok2 {M : Model} {A : Around} {E : Value → Shared → Prop} {i : Nat} {x : Str} {v : V} {u : Value} {Q : Unit → Shared → Prop} (I : Inv X pins σ H s) (hN : X.N.Nodup) (hi : X.N[i]? = some x) (hx : Loc X.env.scope x) (r : RelV v u)
    (h : ∀ s', Inv X pins (σ.set i (some v)) H s' → (∃ a, Heap.SameBut a s.heap s'.heap ∧ (a = X.env.locals ∨ X.env.cells.lookup x = some a)) → Q () s') (hf : X.fn x = true ∨ X.env.scope.names.lookup x = some .local := by first | exact .inl rfl | exact .inr rfl | assumption) : wpAny M A (storeName X.env x u) Q E s := by
  obtain ⟨m, hn, hl⟩ := id I.loc
  have hcls : (X.env.scope.kind == .class || (X.env.scope.kind == .module && X.env.locals != X.env.globals)) = false := by rw [I.ok.kind]; rfl
  have hiσ : i < σ.length := by rw [I.len]; exact (List.getElem?_eq_some_iff.mp hi).1
  have cne := I.cne
  have tracked : ∀ {a : Addr} {h' : Heap}, (∃ o, s.heap.get? a = some o ∧ H a = none) → Heap.SameBut a s.heap h' → HOk X.prog X.w H h' := fun {a h'} ha hs b ob e => by
    obtain ⟨_, _, hfree⟩ := ha
    refine (I.hok b ob e).stay (fun c w' hc q => (hs.2 c ?_).trans q) (fun _ q => q) fun _ _ q => q
    rintro rfl
    rcases hc with rfl | hc
    · rw [hfree] at e; cases e
    · rw [hfree] at hc; cases hc
  rcases hx with hk | hk
  · refine wpAny_storeName_local hk hn (fun h' hn' hs => ?_) hcls
    obtain ⟨oL, _, _, hoL, _⟩ := id hn
    refine h _ ⟨I.ok, I.os, I.bare, ⟨fun b o e n hb hx => ?_, fun b o e n hb hx => ?_, I.base.free, fun b o e hx => ?_, I.base.tups, I.base.frzs, I.base.tbls⟩, ⟨_, hn', fun j y v' e1 e2 e3 => ?_⟩, fun y c e => ?_, I.free, I.freeC, fun p hp => ?_, tracked ⟨oL, hoL, I.free⟩ hs, by simpa using I.len⟩ ⟨_, hs, .inl rfl⟩
    · exact (hs.2 b (Nat.ne_of_lt (Nat.lt_of_lt_of_le (Heap.lt_size e) I.ok.above))).trans (I.base.keep b o e n hb hx)
    · obtain ⟨sl, e1⟩ := I.base.slot b o e n hb hx
      exact ⟨sl, (hs.2 b (Nat.ne_of_lt (Nat.lt_of_lt_of_le (Heap.lt_size e) I.ok.above))).trans e1⟩
    · obtain ⟨o', e1⟩ := I.base.there b o e hx
      exact ⟨o', (hs.2 b (Nat.ne_of_lt (Nat.lt_of_lt_of_le (Heap.lt_size e) I.ok.above))).trans e1⟩
    · by_cases hj : j = i
      · subst hj
        rw [hi] at e1; cases e1
        rw [List.getElem?_set_self hiσ] at e2
        cases e2
        exact ⟨u, r, .inl ⟨hk, by simp⟩⟩
      · rw [List.getElem?_set_ne (Ne.symm hj)] at e2
        obtain ⟨u', r', q⟩ := hl j y v' e1 e2 e3
        refine ⟨u', r', ?_⟩
        rcases q with ⟨k, e⟩ | ⟨k, c, e, z⟩
        · refine .inl ⟨k, ?_⟩
          have : y ≠ x := fun e => hj (nodup_ix hN e1 (e ▸ hi))
          simp [this, e]
        · exact .inr ⟨k, c, e, z.sameBut hs (cne y c e)⟩
    · obtain ⟨w', z⟩ := I.cell y c e
      exact ⟨w', z.sameBut hs (cne y c e)⟩
    · obtain ⟨e, n, ne, nf, d⟩ := I.pin p hp
      exact ⟨(hs.2 p.1 ne).trans e, n, ne, nf, d⟩
  · have hfn : X.fn x = true := by
      rcases hf with z | z
      · exact z
      · rw [z] at hk; cases hk
    obtain ⟨c, hc⟩ := I.ok.has x (.inl hk)
    obtain ⟨w', z⟩ := I.cell x c hc
    refine wpAny_storeName_cell I.ok.kind hk hc z (fun h' hc' hs => ?_)
    obtain ⟨oc, hoc, hocd⟩ := id z
    refine h { s with heap := h' } ⟨I.ok, I.os, I.bare, ⟨fun b o e n hb hx => ?_, fun b o e n hb hx => ?_, I.base.free, fun b o e hx => ?_, I.base.tups, I.base.frzs, I.base.tbls⟩, ⟨m, hn.sameBut hs (Ne.symm (cne x c hc)), fun j y v' e1 e2 e3 => ?_⟩, fun y c' e => ?_, I.free, I.freeC, fun p hp => ?_, tracked ⟨oc, hoc, I.freeC x c hc⟩ hs, by simpa using I.len⟩ ⟨c, hs, .inr hc⟩
    · exact (hs.2 b (Nat.ne_of_lt (Nat.lt_of_lt_of_le (Heap.lt_size e) (I.ok.cab x c hfn hc)))).trans (I.base.keep b o e n hb hx)
    · obtain ⟨sl, e1⟩ := I.base.slot b o e n hb hx
      exact ⟨sl, (hs.2 b (Nat.ne_of_lt (Nat.lt_of_lt_of_le (Heap.lt_size e) (I.ok.cab x c hfn hc)))).trans e1⟩
    · obtain ⟨o', e1⟩ := I.base.there b o e hx
      exact ⟨o', (hs.2 b (Nat.ne_of_lt (Nat.lt_of_lt_of_le (Heap.lt_size e) (I.ok.cab x c hfn hc)))).trans e1⟩
    · by_cases hj : j = i
      · subst hj
        rw [hi] at e1; cases e1
        rw [List.getElem?_set_self hiσ] at e2
        cases e2
        exact ⟨u, r, .inr ⟨.inl hk, c, hc, hc'⟩⟩
      · rw [List.getElem?_set_ne (Ne.symm hj)] at e2
        obtain ⟨u', r', q⟩ := hl j y v' e1 e2 e3
        refine ⟨u', r', ?_⟩
        rcases q with q | ⟨k, c', e, z'⟩
        · exact .inl q
        · refine .inr ⟨k, c', e, z'.sameBut hs ?_⟩
          rintro rfl
          exact hj (nodup_ix hN e1 (I.ok.inj _ _ _ e hc ▸ hi))
    · by_cases hcc : c' = c
      · subst hcc; exact ⟨_, hc'⟩
      · obtain ⟨w2, z2⟩ := I.cell y c' e
        exact ⟨w2, z2.sameBut hs hcc⟩
    · obtain ⟨e, n, ne, nf, d⟩ := I.pin p hp
      refine ⟨(hs.2 p.1 ?_).trans e, n, ne, nf, d⟩
      intro q
      rw [q, hoc] at e
      have q' : oc = p.2 := Option.some.inj e
      exact d w' (by rw [← q']; exact hocd)
theorem store_ok {M : Model} {A : Around} {E : Value → Shared → Prop} {i : Nat} {x : Str} {v : V} {u : Value} {Q : Unit → Shared → Prop} (I : Inv X pins σ H s) (hN : X.N.Nodup) (hi : X.N[i]? = some x) (hx : Loc X.env.scope x) (r : RelV v u)
    (h : ∀ s', Inv X pins (σ.set i (some v)) H s' → Q () s') (hf : X.fn x = true ∨ X.env.scope.names.lookup x = some .local := by first | exact .inl rfl | exact .inr rfl | assumption) : wpAny M A (storeName X.env x u) Q E s :=
  store_ok2 I hN hi hx r (fun s' I' _ => h s' I') hf
/-- behind a call or a block, the state as it is -/
theorem Inv.call' {s' : Shared} {ch : List Addr} (I : Inv X pins σ H s) (ho : s'.os = s.os) (u : Un (frs X.stack) ch H H' s.heap s'.heap) (hok : HOk X.prog X.w H' s'.heap) (hg : AllBare s'.gens)
    (hch : ∀ b ∈ ch, (b ∈ X.ex ∨ X.s₀.heap.objs.size ≤ b) ∧ b ≠ X.env.locals ∧ (∀ x c, X.env.cells.lookup x = some c → c ≠ b) ∧ ∀ p ∈ X.pn ++ pins, p.1 ≠ b) : Inv X pins σ H' s' := by
  obtain ⟨h', g', d', t', o'⟩ := s'
  have e : o' = s.os := ho
  subst e
  exact I.call (g' := g') (t' := t') (d' := d') u hok hg hch
end
/-- an exception: its class, its own dict's address (where it has one), the abstract heap behind it -/
abbrev XK := Value → Option Addr → Hp → Prop
abbrev St := List (Option V)
abbrev VK := V → Hp → Prop
/-- an expression's reading; a test's; an argument list's -/
abbrev TE := St → Hp → VK → Prop
abbrev TT := St → Hp → (Bool → Hp → Prop) → Prop
abbrev TA := St → Hp → (List V → Hp → Prop) → Prop
/-- what is wanted behind a statement -/
structure Ends where
  nx : St → Hp → Prop
  rt : VK
  bk : St → Hp → Prop := fun _ _ => False
  ct : St → Hp → Prop := fun _ _ => False
abbrev TS := Ends → St → Hp → Prop
def EP (X : Cx) (pins : List (Addr × Obj)) (σ : St) (Q : VK) (u : Value) (s' : Shared) : Prop := ∃ v H', Inv X pins σ H' s' ∧ RelV v u ∧ Q v H'
def TP (X : Cx) (pins : List (Addr × Obj)) (σ : St) (Q : Bool → Hp → Prop) (b : Bool) (s' : Shared) : Prop := ∃ H', Inv X pins σ H' s' ∧ Q b H'
def AP (X : Cx) (pins : List (Addr × Obj)) (σ : St) (Q : List V → Hp → Prop) (us : List Value) (s' : Shared) : Prop := ∃ vs H', Inv X pins σ H' s' ∧ Vals vs us ∧ Q vs H'
def SP (X : Cx) (pins : List (Addr × Obj)) (D : Ends) (f : Flow) (s' : Shared) : Prop :=
  match f with
  | .next => ∃ σ' H', Inv X pins σ' H' s' ∧ D.nx σ' H'
  | .brk => ∃ σ' H', Inv X pins σ' H' s' ∧ D.bk σ' H'
  | .cont => ∃ σ' H', Inv X pins σ' H' s' ∧ D.ct σ' H'
  | .ret u => ∃ v σ' H', Inv X pins σ' H' s' ∧ RelV v u ∧ D.rt v H'
def PE (X : Cx) (e : Expr) (t : TE) : Prop :=
  ∀ (pins : List (Addr × Obj)) (s : Shared) (σ : St) (H : Hp) (Q : VK), Inv X pins σ H s → t σ H Q → wpAny (model X.prog X.w) X.A (eval e X.env) (EP X pins σ Q) X.xe s
def PT (X : Cx) (e : Expr) (t : TT) : Prop :=
  ∀ (pins : List (Addr × Obj)) (s : Shared) (σ : St) (H : Hp) (Q : Bool → Hp → Prop), Inv X pins σ H s → t σ H Q → wpAny (model X.prog X.w) X.A (isTrue e X.env (eval e X.env)) (TP X pins σ Q) X.xe s
/-- an argument list (no star), from the left -/
def PA (X : Cx) (es : List Expr) (t : TA) : Prop :=
  ∀ (pos : Pos) (pins : List (Addr × Obj)) (s : Shared) (σ : St) (H : Hp) (Q : List V → Hp → Prop), Inv X pins σ H s → t σ H Q → wpAny (model X.prog X.w) X.A (spliced (backTo pos (starEach es X.env))) (AP X pins σ Q) X.xe s
def PS (X : Cx) (st : Stmt) (t : TS) : Prop :=
  ∀ (pins : List (Addr × Obj)) (s : Shared) (σ : St) (H : Hp) (D : Ends), Inv X pins σ H s → t D σ H → wpAny (model X.prog X.w) X.A (exec st X.env) (SP X pins D) X.xe s
def PSs (X : Cx) (st : List Stmt) (t : TS) : Prop :=
  ∀ (pins : List (Addr × Obj)) (s : Shared) (σ : St) (H : Hp) (D : Ends), Inv X pins σ H s → t D σ H → wpAny (model X.prog X.w) X.A (execs st X.env) (SP X pins D) X.xe s
/-- weaken the end -/
theorem thn {α : Type} {t : Sem α} {Q Q' : α → Shared → Prop} {M : Model} {A : Around} {E : Value → Shared → Prop} {s : Shared} (h : wpAny M A t Q E s) (hQ : ∀ a s, Q a s → Q' a s) : wpAny M A t Q' E s := wpAny_mono h hQ fun _ _ x => x
end L2
namespace L2
open PySem PySem.Spec PyProof.Rows
section
variable {X : Cx}
def tVar (i : Nat) : TE := fun σ H Q => ∃ v, σ[i]? = some (some v) ∧ Q v H
def tC (v : V) : TE := fun _ H Q => Q v H
theorem pe_var {i : Nat} {x : Str} {pos : Pos} (hN : X.N[i]? = some x) (hv : Vis X.env.scope x) (hd : (x == ("__debug__" : Str)) = false := by decide) (hcd : (x == ("__classdict__" : Str)) = false := by decide) : PE X (.Name x pos) (tVar i) := by
  intro pins s σ H Q I h
  obtain ⟨v, e, h⟩ := h
  obtain ⟨m, hn, hl⟩ := I.loc
  obtain ⟨u, r, l⟩ := hl i x v hN e hv
  have fin : EP X pins σ Q u s := ⟨v, H, I, r, h⟩
  rcases l with ⟨hk, hm⟩ | ⟨hk, c, hc, hcell⟩
  · exact wpAny_Name (wpAny_loadName_local I.ok.kind hk hn hm fin) hd
  · rcases hk with hk | hk
    · exact wpAny_Name (wpAny_loadName_cell I.ok.kind hk hc hcell fin) hd
    · exact wpAny_Name (wpAny_loadName_free I.ok.kind hk hc hcell fin hcd) hd
theorem pe_int {i j pos} : PE X (.Constant (.int i) j pos) (tC (.int i)) := fun _ _ _ H _ I h => wpAny_Constant_int ⟨.int i, H, I.tok _, ⟨_, rfl⟩, h⟩
theorem pe_bl {b j pos} : PE X (.Constant (.bool b) j pos) (tC (.bl b)) := fun _ _ _ H _ I h => Constant_bool ⟨.bl b, H, I, rfl, h⟩
theorem pe_non {j pos} : PE X (.Constant .none j pos) (tC .non) := fun _ _ _ H _ I h => Constant_none ⟨.non, H, I, rfl, h⟩
theorem pe_str {x j pos} : PE X (.Constant (.str x) j pos) (tC (.str x)) := fun _ _ _ H _ I h => Calls.Constant_str ⟨.str x, H, I.tok _, ⟨_, rfl⟩, h⟩
/-- a global name of the def -/
def Gl (X : Cx) (x : Str) : Prop := X.env.kindOf x = some .globalImplicit
theorem ld_glob {E : Value → Shared → Prop} {pins : List (Addr × Obj)} {s : Shared} {σ : St} {H : Hp} {x : Str} {u : Value} {pos : Pos} {Q : Value → Shared → Prop} (I : Inv X pins σ H s) (hg : Gl X x) (hm : X.mg x = some u) (h : Q u s)
    (hd : (x == ("__debug__" : Str)) = false := by decide) : wpAny (model X.prog X.w) X.A (eval (.Name x pos) X.env) Q E s :=
  Calls.Name_function_global I.ok.kind hg (Calls.loadGlobal_global (by rw [I.ok.glob]; exact I.mod.glob.keeps I.bk) hm h) hd
theorem ld_blt {E : Value → Shared → Prop} {pins : List (Addr × Obj)} {s : Shared} {σ : St} {H : Hp} {x : Str} {u : Value} {pos : Pos} {Q : Value → Shared → Prop} (I : Inv X pins σ H s) (hg : Gl X x) (hm : X.mg x = none) (hv : bootBuiltins x = some u) (h : Q u s)
    (hn : x ≠ "__name__" := by decide) (hd : (x == ("__debug__" : Str)) = false := by decide) : wpAny (model X.prog X.w) X.A (eval (.Name x pos) X.env) Q E s := by
  obtain ⟨mb, h1, h2⟩ := I.mod.blt
  exact Calls.Name_function_global I.ok.kind hg (Calls.loadGlobal_builtin (by rw [I.ok.glob]; exact I.mod.glob.keeps I.bk) hm (by rw [I.ok.blt]; exact h1.keeps I.bk) ((h2 x hn).trans hv) h) hd
/-- a module's constant, a class, a function, as a value -/
theorem pe_glob {x : Str} {v : V} {u : Value} {pos : Pos} (hg : Gl X x) (hm : X.mg x = some u) (r : RelV v u) (hd : (x == ("__debug__" : Str)) = false := by decide) : PE X (.Name x pos) (tC v) :=
  fun _ _ _ H _ I h => ld_glob I hg hm ⟨v, H, I, r, h⟩ hd
theorem pe_bltn {x : Str} {v : V} {u : Value} {pos : Pos} (hg : Gl X x) (hm : X.mg x = none) (hv : bootBuiltins x = some u) (r : RelV v u) (hn : x ≠ "__name__" := by decide) (hd : (x == ("__debug__" : Str)) = false := by decide) : PE X (.Name x pos) (tC v) :=
  fun _ _ _ H _ I h => ld_blt I hg hm hv ⟨v, H, I, r, h⟩ hn hd
variable {a b : Expr} {ta tb : TE} {pos : Pos}
variable {tA tB' : TT} {rest : List Expr}
/-- .. as values (bools) -/
def tAndV (ta tb : TE) : TE := fun σ H Q => ta σ H fun x H1 => ∃ c, x = .bl c ∧ if c = true then tb σ H1 Q else Q (.bl false) H1
def tOrV (ta tb : TE) : TE := fun σ H Q => ta σ H fun x H1 => ∃ c, x = .bl c ∧ if c = true then Q (.bl true) H1 else tb σ H1 Q
theorem pe_one {op} {t : TE} (h : PE X a t) : PE X (.BoolOp op [a] pos) t := fun pins s σ H Q I hw => BoolOp_one (h pins s σ H Q I hw)
theorem pe_and (ha : PE X a ta) (hb : PE X (.BoolOp .And (b :: rest) pos) tb) : PE X (.BoolOp .And (a :: b :: rest) pos) (tAndV ta tb) := by
  intro pins s σ H Q I h
  refine BoolOp_and (thn (ha pins s σ H _ I h) fun v s1 ⟨x, H1, I1, r1, q1⟩ => ?_)
  obtain ⟨c, rfl, q1⟩ := q1
  cases r1
  refine wpAny_truthy_bool ?_
  cases c with
  | true => exact hb pins s1 σ H1 Q I1 q1
  | false => exact ⟨.bl false, H1, I1, rfl, q1⟩
theorem pe_or (ha : PE X a ta) (hb : PE X (.BoolOp .Or (b :: rest) pos) tb) : PE X (.BoolOp .Or (a :: b :: rest) pos) (tOrV ta tb) := by
  intro pins s σ H Q I h
  refine BoolOp_or (thn (ha pins s σ H _ I h) fun v s1 ⟨x, H1, I1, r1, q1⟩ => ?_)
  obtain ⟨c, rfl, q1⟩ := q1
  cases r1
  refine wpAny_truthy_bool ?_
  cases c with
  | false => exact hb pins s1 σ H1 Q I1 q1
  | true => exact ⟨.bl true, H1, I1, rfl, q1⟩
end
end L2
namespace L2
open PySem PySem.Spec PyProof.Rows
def SqL (K : PySem.W.Frag) (H : Hp) (a : Addr) (xs : List V) : Prop :=
  Rd H a (.lst xs) ∨
    ∃ (o : Obj) (its : Array Value) (n : Nat), K.lookup a = some o ∧ o.cls = .type "list" ∧ o.dict = none ∧ o.data = .seq its n ∧ its.size ≤ sizeLine ∧ Vals xs its.toList
def SqT (K : PySem.W.Frag) (H : Hp) (a : Addr) (xs : List V) : Prop :=
  Rd H a (.tup xs) ∨
    ∃ (o : Obj) (its : Array Value) (n : Nat), K.lookup a = some o ∧ o.cls = .type "tuple" ∧ o.data = .seq its n ∧ its.size ≤ sizeLine ∧ Vals xs its.toList
def absV : Value → Option V
  | .none => some .non
  | .bool b => some (.bl b)
  | .int i _ => some (.int i)
  | .str x _ => some (.str x)
  | .bytes b _ => some (.byt b)
  | .float b _ => some (.flt b)
  | .ref a => some (.ref a)
  | .type n => some (.ty n)
  | _ => none
theorem RelV.abs {x : V} {u : Value} (r : RelV x u) : absV u = some x := by
  cases x with
  | non => cases r; rfl
  | bl _ => cases r; rfl
  | int _ => obtain ⟨t, rfl⟩ := r; rfl
  | str _ => obtain ⟨t, rfl⟩ := r; rfl
  | byt _ => obtain ⟨t, rfl⟩ := r; rfl
  | flt _ => obtain ⟨t, rfl⟩ := r; rfl
  | ref _ => cases r; rfl
  | ty _ => cases r; rfl
theorem RelV.inj {x y : V} {u : Value} (r : RelV x u) (q : RelV y u) : x = y := Option.some.inj (r.abs.symm.trans q.abs)
theorem Vals.inj : ∀ {xs ys : List V} {us : List Value}, Vals xs us → Vals ys us → xs = ys
  | _, _, _, .nil, .nil => rfl
  | _, _, _, .cons r t, .cons r' t' => by rw [r.inj r', Vals.inj t t']
section
variable {X : Cx} {pins : List (Addr × Obj)} {σ : St} {H : Hp} {s : Shared} {a : Addr} {xs ys : List V}
theorem SqL.of {K : PySem.W.Frag} (h : H a = some (.lst xs)) : SqL K H a xs := .inl (.inl h)
theorem SqT.of {K : PySem.W.Frag} (h : H a = some (.tup xs)) : SqT K H a xs := .inl (.inl h)
theorem Inv.list (I : Inv X pins σ H s) (h : SqL X.K H a xs) : ∃ its : List Value, Vals xs its ∧ PlainL s.heap a its.toArray ∧ xs.length ≤ sizeLine := by
  rcases h with h | ⟨o, its, n, hk, hc, hd, hs, hz, r⟩
  · obtain ⟨z, its, n, r, e⟩ := h.ok I.hok
    exact ⟨its, r, ⟨_, n, e, rfl, rfl, rfl⟩, z⟩
  · refine ⟨its.toList, r, ⟨o, n, I.kIn a o hk, hc, hd, by simpa using hs⟩, ?_⟩
    have e := r.length
    simp only [Array.length_toList] at e
    omega
theorem Inv.tuple (I : Inv X pins σ H s) (h : SqT X.K H a xs) : ∃ its : List Value, Vals xs its ∧ IsTup s.heap a its.toArray ∧ xs.length ≤ sizeLine := by
  rcases h with h | ⟨o, its, n, hk, hc, hs, hz, r⟩
  · obtain ⟨z, its, r, p⟩ := h.ok I.hok
    exact ⟨its, r, p, z⟩
  · refine ⟨its.toList, r, ⟨o, I.kIn a o hk, hc, n, by simpa using hs⟩, ?_⟩
    have e := r.length
    simp only [Array.length_toList] at e
    omega
theorem Inv.list_inj (I : Inv X pins σ H s) (h : SqL X.K H a xs) (h' : SqL X.K H a ys) : xs = ys := by
  obtain ⟨its, r, ⟨o, n, e, _, _, d⟩, _⟩ := I.list h
  obtain ⟨its', r', ⟨o', n', e', _, _, d'⟩, _⟩ := I.list h'
  rw [e] at e'; cases e'
  rw [d] at d'
  injection d' with d1 _
  have : its = its' := by simpa using congrArg Array.toList d1
  subst this
  exact r.inj r'
theorem Inv.tuple_inj (I : Inv X pins σ H s) (h : SqT X.K H a xs) (h' : SqT X.K H a ys) : xs = ys := by
  obtain ⟨its, r, ⟨o, e, _, n, d⟩, _⟩ := I.tuple h
  obtain ⟨its', r', ⟨o', e', _, n', d'⟩, _⟩ := I.tuple h'
  rw [e] at e'; cases e'
  rw [d] at d'
  injection d' with d1 _
  have : its = its' := by simpa using congrArg Array.toList d1
  subst this
  exact r.inj r'
end
abbrev Cx.wish (X : Cx) (E : Value → Shared → Prop) : Cx := { X with xe := E }
/-- no exception leaves -/
abbrev Cx.nox (X : Cx) : Cx := X.wish fun _ _ => False
theorem Cx.Ok.wish {X : Cx} (ok : X.Ok) (E : Value → Shared → Prop) : (X.wish E).Ok :=
  ⟨ok.mod, ok.kind, ok.glob, ok.blt, ok.above, ok.inj, ok.has, ok.cab, ok.hd, ok.frames, ok.stk, ok.exf, ok.bs, ok.bsz, ok.noex, ok.exfs, ok.funs, ok.frf⟩
theorem Cx.Ok.unwish {X : Cx} {E : Value → Shared → Prop} (ok : (X.wish E).Ok) : X.Ok :=
  ⟨ok.mod, ok.kind, ok.glob, ok.blt, ok.above, ok.inj, ok.has, ok.cab, ok.hd, ok.frames, ok.stk, ok.exf, ok.bs, ok.bsz, ok.noex, ok.exfs, ok.funs, ok.frf⟩
section
variable {X : Cx} {pins : List (Addr × Obj)} {σ : St} {H : Hp} {s : Shared} {E : Value → Shared → Prop}
theorem Inv.wish (I : Inv X pins σ H s) (E : Value → Shared → Prop) : Inv (X.wish E) pins σ H s := ⟨I.ok.wish E, I.os, I.bare, I.base, I.loc, I.cell, I.free, I.freeC, I.pin, I.hok, I.len⟩
theorem Inv.unwish (I : Inv (X.wish E) pins σ H s) : Inv X pins σ H s := ⟨I.ok.unwish, I.os, I.bare, I.base, I.loc, I.cell, I.free, I.freeC, I.pin, I.hok, I.len⟩
theorem SP.unwish {D : Ends} {f : Flow} {s' : Shared} (h : SP (X.wish E) pins D f s') : SP X pins D f s' := by
  cases f with
  | next => obtain ⟨σ', H', I, q⟩ := h; exact ⟨σ', H', I.unwish, q⟩
  | brk => obtain ⟨σ', H', I, q⟩ := h; exact ⟨σ', H', I.unwish, q⟩
  | cont => obtain ⟨σ', H', I, q⟩ := h; exact ⟨σ', H', I.unwish, q⟩
  | ret u => obtain ⟨v, σ', H', I, r, q⟩ := h; exact ⟨v, σ', H', I.unwish, r, q⟩
theorem PSs.nox {st : List Stmt} {t : TS} (h : PSs X.nox st t) : PSs X st t := fun pins s σ H D I hw =>
  wpAny_mono (h pins s σ H D (I.wish _) hw) (fun _ _ q => q.unwish) fun _ _ z => False.elim z
end
section
variable {X : Cx} {st : Stmt} {rest : List Stmt} {t u : TS} {e : Expr} {te : TE} {pos : Pos}
def tNext : TS := fun D σ H => D.nx σ H
def tSeq (t u : TS) : TS := fun D σ H => t { D with nx := u D } σ H
theorem pss_nil : PSs X [] tNext := fun _ _ σ H _ I h => wpAny_execs_nil ⟨σ, H, I, h⟩
theorem pss_cons (h1 : PS X st t) (h2 : PSs X rest u) : PSs X (st :: rest) (tSeq t u) := by
  intro pins s σ H D I h
  refine wpAny_execs_cons (thn (h1 pins s σ H { D with nx := u D } I h) fun f s1 q => ?_)
  cases f with
  | next =>
    obtain ⟨σ', H', I', q⟩ := q
    exact h2 pins s1 σ' H' D I' q
  | ret v => exact q
  | brk => exact q
  | cont => exact q
theorem pss_one (h1 : PS X st t) : PSs X [st] t := by
  intro pins s σ H D I h
  refine wpAny_execs_cons (thn (h1 pins s σ H D I h) fun f s1 q => ?_)
  cases f with
  | next => exact wpAny_execs_nil q
  | ret v => exact q
  | brk => exact q
  | cont => exact q
/-- in a def's body nothing is shown -/
theorem Inv.quiet {pins : List (Addr × Obj)} {σ : St} {H : Hp} {s : Shared} (I : Inv X pins σ H s) : interactive X.env = false := by simp [interactive, I.ok.kind]
/-- an expression whose value is dropped -/
def tDrop (te : TE) : TS := fun D σ H => te σ H fun _ H1 => D.nx σ H1
theorem ps_expr (he : PE X e te) (hs : swapsWith e none pos.line X.env = pure false := by rfl) : PS X (.Expr e pos) (tDrop te) := by
  intro pins s σ H D I h
  exact wpAny_Expr_any (thn (he pins s σ H _ I h) fun v s1 ⟨x, H1, I1, r1, q1⟩ => ⟨σ, H1, I1, q1⟩) I.quiet hs
def tRet (te : TE) : TS := fun D σ H => te σ H D.rt
theorem ps_ret (he : PE X e te) : PS X (.Return (some e) pos) (tRet te) := by
  intro pins s σ H D I h
  exact wpAny_Return_some (thn (he pins s σ H _ I h) fun v s1 ⟨x, H1, I1, r1, q1⟩ => ⟨x, σ, H1, I1, r1, q1⟩)
def tIfS (c : TT) (t u : TS) : TS := fun D σ H => c σ H fun b H1 => if b = true then t D σ H1 else u D σ H1
theorem ps_if {c : Expr} {a b : List Stmt} {tc : TT} (hc : PT X c tc) (ha : PSs X a t) (hb : PSs X b u) : PS X (.If c a b pos) (tIfS tc t u) := by
  intro pins s σ H D I h
  refine wpAny_If (thn (hc pins s σ H _ I h) fun d s1 ⟨H1, I1, q1⟩ => ?_)
  cases d with
  | true => exact ha pins s1 σ H1 D I1 q1
  | false => exact hb pins s1 σ H1 D I1 q1
/-- code that the proof never comes to -/
def tNever : TS := fun _ _ _ => False
theorem ps_never : PS X st tNever := fun _ _ _ _ _ _ h => h.elim
theorem pss_never {sts : List Stmt} : PSs X sts tNever := fun _ _ _ _ _ _ h => h.elim
end
abbrev TG := V → St → Hp → (St → Hp → Prop) → Prop
abbrev TGs := List V → St → Hp → (St → Hp → Prop) → Prop
def PG (X : Cx) (target : Expr) (t : TG) : Prop :=
  ∀ (pins : List (Addr × Obj)) (s : Shared) (σ : St) (H : Hp) (v : V) (u : Value) (Q : St → Hp → Prop), Inv X pins σ H s → RelV v u → t v σ H Q →
    wpAny (model X.prog X.w) X.A (assign target X.env u) (fun _ s' => ∃ σ' H', Inv X pins σ' H' s' ∧ Q σ' H') X.xe s
/-- several targets, one after another -/
def PGs (X : Cx) (ts : List Expr) (t : TGs) : Prop :=
  ∀ (pins : List (Addr × Obj)) (s : Shared) (σ : St) (H : Hp) (vs : List V) (us : List Value) (Q : St → Hp → Prop), Inv X pins σ H s → Vals vs us → t vs σ H Q →
    wpAny (model X.prog X.w) X.A (assignInOrder ((assignEach ts X.env).map (·.2)) us) (fun _ s' => ∃ σ' H', Inv X pins σ' H' s' ∧ Q σ' H') X.xe s
section
variable {X : Cx} {pos : Pos}
def gName (i : Nat) : TG := fun v σ H Q => Q (σ.set i (some v)) H
theorem pg_name {i : Nat} {x : Str} (hN : X.N.Nodup) (hi : X.N[i]? = some x) (hx : Loc X.env.scope x) (hf : X.fn x = true ∨ X.env.scope.names.lookup x = some .local := by first | exact .inl rfl | exact .inr rfl | assumption) : PG X (.Name x pos) (gName i) := by
  intro pins s σ H v u Q I r h
  exact wpAny_assign_Name (store_ok I hN hi hx r (fun s' I' => ⟨_, H, I', h⟩) hf)
def gNil : TGs := fun vs σ H Q => vs = [] ∧ Q σ H
def gCons (t : TG) (u : TGs) : TGs := fun vs σ H Q => ∃ v r, vs = v :: r ∧ t v σ H fun σ' H' => u r σ' H' Q
theorem pgs_nil : PGs X [] gNil := by
  intro pins s σ H vs us Q I r h
  obtain ⟨e, h⟩ := h
  subst e
  cases r
  exact assignInOrder_nil ⟨σ, H, I, h⟩
theorem pgs_cons {e : Expr} {es : List Expr} {t : TG} {u : TGs} (h1 : PG X e t) (h2 : PGs X es u)
    (hs : (assignEach (e :: es) X.env).map (·.2) = assign e X.env :: (assignEach es X.env).map (·.2) := by rfl) : PGs X (e :: es) (gCons t u) := by
  intro pins s σ H vs us Q I r h
  obtain ⟨v, vr, e1, h⟩ := h
  subst e1
  cases r with
  | cons r rr =>
    rw [hs]
    refine assignInOrder_cons (thn (h1 pins s σ H _ _ _ I r h) fun _ s1 ⟨σ1, H1, I1, q1⟩ => ?_)
    exact h2 pins s1 σ1 H1 _ _ Q I1 rr q1
/-- (a, b, ..) = a tuple of that length -/
def gTup (K : PySem.W.Frag) (n : Nat) (t : TGs) : TG := fun v σ H Q => ∃ a xs, v = .ref a ∧ SqT K H a xs ∧ xs.length = n ∧ t xs σ H Q
theorem pg_tup {es : List Expr} {k : Nat} {t : TGs} {n : Nat} (hc : X.calm = true) (h : PGs X es t)
    (hn : (assignEach es X.env).length = n := by rfl) (hst : (assignEach es X.env).findIdx? (·.1) = none := by rfl) : PG X (.Tuple es k pos) (gTup X.K n t) := by
  intro pins s σ H v u Q I r hw
  obtain ⟨a, xs, e1, hq, hl, hw⟩ := hw
  subst e1
  cases r
  obtain ⟨its, rv, ht, hz⟩ := I.tuple hq
  refine assign_Tuple_tuple (I.ok.hd hc) ht (by simp [hn, ← hl, rv.length]) hst fun h' hx => ?_
  have I1 : Inv X pins σ H { s with heap := h' } := I.kept (t' := s.toks) fun b o e => hx b o (Nat.ne_of_lt (Heap.lt_size e)) e
  exact h pins _ σ H xs _ Q I1 (by simpa using rv) hw
/-- target = value -/
def tAsg (te : TE) (g : TG) : TS := fun D σ H => te σ H fun x H1 => g x σ H1 D.nx
/-- name = value -/
theorem ps_set {i : Nat} {x : Str} {e : Expr} {te : TE} {pos' : Pos} (hN : X.N.Nodup) (hi : X.N[i]? = some x) (hx : Loc X.env.scope x) (he : PE X e te) (hs : swapsWith e (some (.Name x pos')) pos.line X.env = pure false := by rfl) (hf : X.fn x = true ∨ X.env.scope.names.lookup x = some .local := by first | exact .inl rfl | exact .inr rfl | assumption) :
    PS X (.Assign [.Name x pos'] e pos) (tAsg te (gName i)) := by
  intro pins s σ H D I h
  refine wpAny_Assign_Name (thn (he pins s σ H _ I h) fun v s1 ⟨y, H1, I1, r1, q1⟩ => ?_) hs
  exact store_ok I1 hN hi hx r1 (fun s2 I2 => ⟨_, H1, I2, q1⟩) hf
end
section
variable {X : Cx} {pos : Pos}
end
/-- at turn i: it yields x (the heap may grow), or it stops -/
structure It where
  go : Nat → Hp → Prop
  yld : Nat → Hp → V → Hp → Prop
  stop : Nat → Hp → Prop
/-- the iterator's own objects may turn: they are not the frame's, not pinned, younger than the entry (or a comprehension's own) -/
def FpOk (X : Cx) (pins : List (Addr × Obj)) (H : Hp) (b : Addr) : Prop :=
  H b = none ∧ b ≠ X.env.locals ∧ b ∉ X.fs ∧ (b ∈ X.ex ∨ X.s₀.heap.objs.size ≤ b) ∧ (∀ x c, X.env.cells.lookup x = some c → c ≠ b) ∧ ∀ p ∈ X.pn ++ pins, p.1 ≠ b
theorem Inv.fpOk {X : Cx} {pins : List (Addr × Obj)} {σ : St} {H H' : Hp} {s : Shared} {b : Addr} (I : Inv X pins σ H s) (hb : s.heap.objs.size ≤ b) (hn : H' b = none) : FpOk X pins H' b := by
  refine ⟨hn, Nat.ne_of_gt (Nat.lt_of_lt_of_le I.lt hb), I.nofs hb, .inr (Nat.le_trans I.sz hb), fun x c e z => ?_, fun p hp z => ?_⟩
  · obtain ⟨v, q⟩ := I.cell x c e
    exact absurd (Nat.lt_of_lt_of_le q.lt (by rw [z]; exact hb)) (Nat.lt_irrefl _)
  · exact absurd (Nat.lt_of_lt_of_le (Heap.lt_size (I.pin p hp).1) (by rw [z]; exact hb)) (Nat.lt_irrefl _)
structure Turn (P : Program) (w : World) (K : PySem.W.Frag) (tg : Expr) (J : It) (fp : List Addr) (it : Addr) (tn : Nat → Heap → Prop) : Prop where
  mem : it ∈ fp
  obj : ∀ i h, tn i h → ∀ b ∈ fp, ∃ o, h.get? b = some o ∧ ∀ v, o.data ≠ .cell v
  keep : ∀ i h h', tn i h → (∀ b ∈ fp, ∀ o, h.get? b = some o → h'.get? b = some o) → tn i h'
  item : ∀ (X : Cx), X.prog = P → X.w = w → X.K = K → X.calm = true → ∀ (i : Nat) (pins : List (Addr × Obj)) (s : Shared) (σ : St) (H : Hp) (E : Value → Shared → Prop), Inv X pins σ H s → (∀ b ∈ fp, FpOk X pins H b) → tn i s.heap → J.go i H →
    wpAny (model P w) X.A (pyNext (.ref it)) (fun r s1 => ∃ u, r = some u ∧
      wpAny (model P w) X.A (letOwnedTupleGo tg (.ref it) u) (fun _ s2 => ∃ x H', Inv X pins σ H' s2 ∧ RelV x u ∧ J.yld i H x H' ∧ tn (i + 1) s2.heap ∧ ∀ b ∈ fp, H' b = none) E s1) E s
  done : ∀ (X : Cx), X.prog = P → X.w = w → X.K = K → X.calm = true → ∀ (i : Nat) (pins : List (Addr × Obj)) (s : Shared) (σ : St) (H : Hp) (E : Value → Shared → Prop), Inv X pins σ H s → (∀ b ∈ fp, FpOk X pins H b) → tn i s.heap → J.stop i H →
    wpAny (model P w) X.A (pyNext (.ref it)) (fun r s1 => r = none ∧ Inv X pins σ H s1) E s
  self : ∀ (A : Around) (i : Nat) (s : Shared) (Q : Value → Shared → Prop) (E : Value → Shared → Prop), tn i s.heap → Q (.ref it) s → wpAny (model P w) A (pyIter (.ref it)) Q E s
abbrev TI := St → Hp → (It → Hp → Prop) → Prop
/-- an iterator has come -/
def PIE (X : Cx) (pins : List (Addr × Obj)) (σ : St) (tg : Expr) (R : It → Hp → Prop) (itv : Value) (s2 : Shared) : Prop :=
  ∃ (it : Addr) (fp : List Addr) (tn : Nat → Heap → Prop) (J : It) (H' : Hp), itv = .ref it ∧ Inv X pins σ H' s2 ∧ Turn X.prog X.w X.K tg J fp it tn ∧ tn 0 s2.heap ∧ (∀ b ∈ fp, FpOk X pins H' b) ∧ R J H'
def PI (X : Cx) (tg iter : Expr) (wi : TI) : Prop :=
  ∀ (pins : List (Addr × Obj)) (s : Shared) (σ : St) (H : Hp) (R : It → Hp → Prop), Inv X pins σ H s → wi σ H R →
    wpAny (model X.prog X.w) X.A (eval iter X.env) (fun v s1 => wpAny (model X.prog X.w) X.A (pyIter v) (PIE X pins σ tg R) X.xe s1) X.xe s
/-- the step ahead of the store is nothing for an iterator that keeps no tuple -/
theorem go_of {M : Model} {A : Around} {E : Value → Shared → Prop} {s : Shared} {tg : Expr} {it : Addr} {u : Value} {o : Obj} {n : String} {vs : Array Value} {Q : Unit → Shared → Prop} (ho : s.heap.get? it = some o) (hc : o.cls = .type n) (hd : o.data = .fields vs)
    (hn : ["enumerate", "zip", "dict_itemiterator", "dict_reverseitemiterator", "odict_iterator", "itertools.zip_longest", "itertools.pairwise"].contains n = false) (hQ : Q () s) : wpAny M A (letOwnedTupleGo tg (.ref it) u) Q E s := by
  unfold letOwnedTupleGo
  cases tg <;> first
    | exact wpAny_pure hQ
    | (cases u <;> first
        | exact wpAny_pure hQ
        | (refine wpAny_bind (wpAny_load ho ?_)
           rw [hc, hd]
           show wpAny M A (if (["enumerate", "zip", "dict_itemiterator", "dict_reverseitemiterator", "odict_iterator", "itertools.zip_longest", "itertools.pairwise"].contains n && vs[0]? == some (rawInt _)) = true then _ else _) Q E s
           rw [if_neg (by intro h; rw [hn, Bool.false_and] at h; cases h)]
           exact wpAny_pure hQ))
/-- the list at a, as it stands at each turn (a loop may append to it) -/
def Itl (K : PySem.W.Frag) (a : Addr) : It :=
  ⟨fun i H => ∃ xs x, SqL K H a xs ∧ xs[i]? = some x, fun i H x H' => H' = H ∧ ∀ xs, SqL K H a xs → xs[i]? = some x, fun i H => ∃ xs, SqL K H a xs ∧ xs.length ≤ i⟩
/-- lo, lo + 1, .. (n of them) -/
def Itr (lo : Int) (n : Nat) : It := ⟨fun i _ => i < n, fun i H x H' => H' = H ∧ x = .int (lo + i), fun i _ => n ≤ i⟩
theorem turn_list {P : Program} {w : World} {K : PySem.W.Frag} {tg : Expr} (a it : Addr) : Turn P w K tg (Itl K a) [it] it (fun i h => h.IsListIter it a i) where
  mem := by simp
  obj := fun i h st b hb => by
    have e : b = it := by simpa using hb
    subst e
    obtain ⟨o, e, c, d⟩ := st
    exact ⟨o, e, fun v z => by rw [d] at z; cases z⟩
  keep := fun i h h' st k => st.at fun o e => k it (by simp) o e
  item := by
    intro X hP hw hK hc i pins s σ H E I hf st hg
    subst hP hw hK
    obtain ⟨xs, x, hq, hx⟩ := hg
    obtain ⟨its, rv, p, hz⟩ := I.list hq
    obtain ⟨u, hu, ru⟩ := rv.get hx
    obtain ⟨f0, f1, f2, f3, f4, f5⟩ := hf it (by simp)
    refine wpAny_pyNext_list_item st p.isList (x := u) (by simpa using hu) fun h' st' sb => ?_
    have I1 : Inv X pins σ H { s with heap := h' } := I.turned (t' := s.toks) (fun b o hb e => (sb.2 b hb).trans e) f0 f1 f3 f4 f5
    obtain ⟨o, e, c, d⟩ := id st'
    exact ⟨u, rfl, go_of (s := { s with heap := h' }) e c d (by decide) ⟨x, H, I1, ru, ⟨rfl, fun ys hy => by rw [I.list_inj hy hq]; exact hx⟩, st', fun b hb => (hf b hb).1⟩⟩
  done := by
    intro X hP hw hK hc i pins s σ H E I hf st hg
    subst hP hw hK
    obtain ⟨xs, hq, hx⟩ := hg
    obtain ⟨its, rv, p, hz⟩ := I.list hq
    obtain ⟨f0, f1, f2, f3, f4, f5⟩ := hf it (by simp)
    have hl := rv.length
    exact wpAny_pyNext_list_end (I.ok.hd hc) st p.isList (by simp; omega) fun h' eb => ⟨rfl, I.turned (t' := s.toks) (fun b o hb e => eb b o hb e) f0 f1 f3 f4 f5⟩
  self := fun _ _ _ _ _ st h => wpAny_pyIter_listiter st h
theorem turn_range {P : Program} {w : World} {K : PySem.W.Frag} {tg : Expr} (it : Addr) (lo : Int) (n : Nat) : Turn P w K tg (Itr lo n) [it] it (fun i h => IsRangeIter h it (lo + (i : Nat) * 1) ((n : Int) - (i : Nat)) 1) where
  mem := by simp
  obj := fun i h st b hb => by
    have e : b = it := by simpa using hb
    subst e
    exact ⟨_, st, fun v z => by
      have z' : Data.fields _ = Data.cell v := z
      cases z'⟩
  keep := fun i h h' st k => k it (by simp) _ st
  item := by
    intro X hP hw hK hc i pins s σ H E I hf st hg
    subst hP hw hK
    obtain ⟨f0, f1, f2, f3, f4, f5⟩ := hf it (by simp)
    have W := Walks.range (prog := X.prog) (w := X.w) (I.ok.hd hc) it lo 1 n
    refine W.item i s _ _ hg st fun v h' tk hv st' kk => ?_
    obtain ⟨t, rfl⟩ := hv
    have I1 : Inv X pins σ H { s with heap := h', toks := tk } := I.turned (fun b o hb e => kk b o (by simpa using hb) e) f0 f1 f3 f4 f5
    refine ⟨_, rfl, go_of (s := { s with heap := h', toks := tk }) (n := "range_iterator") st' rfl rfl (by decide) ⟨.int (lo + i), H, I1, ⟨t, ?_⟩, ⟨rfl, rfl⟩, st', fun b hb => (hf b hb).1⟩⟩
    rw [Int.mul_one]
  done := by
    intro X hP hw hK hc i pins s σ H E I hf st hg
    subst hP hw hK
    obtain ⟨f0, f1, f2, f3, f4, f5⟩ := hf it (by simp)
    exact wpAny_pyNext_range_end (I.ok.hd hc) st (by have : n ≤ i := hg; omega) fun h' eb => ⟨rfl, I.turned (t' := s.toks) (fun b o hb e => eb b o hb e) f0 f1 f3 f4 f5⟩
  self := fun _ _ _ _ _ st h => wpAny_pyIter_rangeiter st h
end L2
namespace L2
open PySem PySem.Spec PyProof.Rows
section
variable {X : Cx} {tg : Expr}
def iList (K : PySem.W.Frag) (tl : TE) : TI := fun σ H R => tl σ H fun x H1 => ∃ a, x = .ref a ∧ (∃ xs, SqL K H1 a xs) ∧ R (Itl K a) H1
theorem pi_list {l : Expr} {tl : TE} (hl : PE X l tl) : PI X tg l (iList X.K tl) := by
  intro pins s σ H R I h
  refine thn (hl pins s σ H _ I h) fun v s1 ⟨x, H1, I1, r1, q1⟩ => ?_
  obtain ⟨a, e, ⟨xs, hq⟩, q⟩ := q1
  subst e
  cases r1
  obtain ⟨its, rv, p, hz⟩ := I1.list hq
  refine wpAny_pyIter_list p.isList ?_
  refine ⟨s1.heap.objs.size, [s1.heap.objs.size], _, _, H1, rfl, I1.kept (t' := s1.toks) fun b o e => Heap.get?_push_of_some _ e, turn_list a _, ⟨_, Heap.get?_push_size _ rfl, rfl, rfl⟩, fun b hb => ?_, q⟩
  have e : b = s1.heap.objs.size := by simpa using hb
  subst e
  exact I1.fpOk (Nat.le_refl _) (I1.hok.fresh (Nat.le_refl _))
/-- a range object just made, walked -/
theorem range_it {pins : List (Addr × Obj)} {σ : St} {H : Hp} {s : Shared} {R : It → Hp → Prop} {E : Value → Shared → Prop} {lo hi : Int} {t u v : Tok} {tk : Nat} (I : Inv X pins σ H s) (h1 : -(2 ^ 62) ≤ lo) (h2 : lo < 2 ^ 62) (h3 : -(2 ^ 62) ≤ hi) (h4 : hi < 2 ^ 62)
    (q : R (Itr lo (hi - lo).toNat) H) : wpAny (model X.prog X.w) X.A (pyIter (.ref s.heap.objs.size)) (PIE X pins σ tg R) E { s with heap := s.heap.push { cls := .type "range", data := .fields #[.int lo t, .int hi u, .int 1 v] }, toks := tk } := by
  refine wpAny_pyIter_range (IsRange.new ..) (small_one h1 h2 h3 h4) ?_
  have I1 : Inv X pins σ H { s with heap := s.heap.push { cls := .type "range", data := .fields #[.int lo t, .int hi u, .int 1 v] }, toks := tk } := I.kept fun b o e => Heap.get?_push_of_some _ e
  refine ⟨(s.heap.push { cls := .type "range", data := .fields #[.int lo t, .int hi u, .int 1 v] }).objs.size, [(s.heap.push { cls := .type "range", data := .fields #[.int lo t, .int hi u, .int 1 v] }).objs.size], _, _, H, rfl,
    I1.kept (t' := tk) fun b o e => Heap.get?_push_of_some _ e, turn_range _ lo (hi - lo).toNat, ?_, fun b hb => ?_, q⟩
  · have e1 : lo + ((0 : Nat) : Int) * 1 = lo := by simp
    have e2 : (((hi - lo).toNat : Nat) : Int) - ((0 : Nat) : Int) = Builtin.Range.rangeSize lo hi 1 := by rw [rangeSize_one]; split <;> omega
    show IsRangeIter _ _ (lo + ((0 : Nat) : Int) * 1) ((((hi - lo).toNat : Nat) : Int) - ((0 : Nat) : Int)) 1
    rw [e1, e2]
    exact Heap.get?_push_size _ rfl
  · have e : b = (s.heap.push { cls := .type "range", data := .fields #[.int lo t, .int hi u, .int 1 v] }).objs.size := by simpa using hb
    subst e
    exact I1.fpOk (Nat.le_refl _) (I1.hok.fresh (Nat.le_refl _))
def iRng1 (ta : TA) : TI := fun σ H R => ta σ H fun vs H1 => ∃ j : Int, vs = [.int j] ∧ -(2 ^ 62) ≤ j ∧ j < 2 ^ 62 ∧ R (Itr 0 j.toNat) H1
theorem pi_range1 {a : Expr} {ta : TA} {p pos : Pos} (hg : Gl X "range") (hm : X.mg "range" = none) (ha : PA X [a] ta) (hs : starEach [a] X.env = [(false, eval a X.env)] := by rfl) : PI X tg (.Call (.Name "range" p) [a] [] pos) (iRng1 ta) := by
  intro pins s σ H R I h
  refine Call_ (ld_blt I hg hm boot_range (PyProof.Rows.callWith_type1 (thn (ha pos pins s σ H _ I h) fun us s1 ⟨vs, H1, I1, r1, q1⟩ => ?_) hs rfl))
  obtain ⟨j, e, q1, q2, q⟩ := q1
  subst e
  cases r1 with
  | cons r rr =>
    cases rr
    obtain ⟨t, rfl⟩ := r
    exact call_range_1 (range_it I1 (by omega) (by omega) q1 q2 (by simpa using q))
/-- W: the invariant by the turn and a measure; N: what the body is to reach -/
def tFor (wi : TI) (g : TG) (tb : TS) : TS := fun D σ H => wi σ H fun J H1 => ∃ W : Nat → Nat → St → Hp → Prop, (∃ m, W 0 m σ H1) ∧ ∀ i m σ H, W i m σ H →
  (J.stop i H ∧ D.nx σ H) ∨ (J.go i H ∧ ∃ N : St → Hp → Prop, (∀ σ' H', N σ' H' → ∃ m', m' < m ∧ W (i + 1) m' σ' H') ∧ ∀ x H', J.yld i H x H' → g x σ H' fun σ2 H2 => tb { D with nx := N, ct := N, bk := D.nx } σ2 H2)
/-- the records at fp as they stand -/
def pinsAt (fp : List Addr) (h : Heap) : List (Addr × Obj) := fp.filterMap fun b => (h.get? b).map fun o => (b, o)
theorem mem_pinsAt {fp : List Addr} {h : Heap} {b : Addr} {o : Obj} (hb : b ∈ fp) (e : h.get? b = some o) : (b, o) ∈ pinsAt fp h := List.mem_filterMap.mpr ⟨b, hb, by rw [e]; rfl⟩
theorem of_pinsAt {fp : List Addr} {h : Heap} {p : Addr × Obj} (hp : p ∈ pinsAt fp h) : p.1 ∈ fp ∧ h.get? p.1 = some p.2 := by
  obtain ⟨b, hb, e⟩ := List.mem_filterMap.mp hp
  cases q : h.get? b with
  | none => rw [q] at e; cases e
  | some o =>
    rw [q] at e
    have e' : (b, o) = p := Option.some.inj e
    subst e'
    exact ⟨hb, q⟩
theorem Inv.pinned {pins : List (Addr × Obj)} {σ : St} {H : Hp} {s : Shared} {fp : List Addr} (I : Inv X pins σ H s) (hf : ∀ b ∈ fp, FpOk X pins H b) (ho : ∀ b ∈ fp, ∃ o, s.heap.get? b = some o ∧ ∀ v, o.data ≠ .cell v) : Inv X (pins ++ pinsAt fp s.heap) σ H s :=
  I.pins_of fun p hp => (List.mem_append.mp hp).elim (fun z => I.pin p (List.mem_append_right _ z)) fun z => by
    obtain ⟨hb, e⟩ := of_pinsAt z
    obtain ⟨f0, f1, f2, _⟩ := hf p.1 hb
    obtain ⟨o, e', d⟩ := ho p.1 hb
    rw [e] at e'; cases e'
    exact ⟨e, f0, f1, f2, d⟩
theorem Inv.unpinned {pins pl : List (Addr × Obj)} {σ : St} {H : Hp} {s : Shared} (I : Inv X (pins ++ pl) σ H s) : Inv X pins σ H s := I.pins_of fun p hp => I.pin p (List.mem_append_right _ (List.mem_append_left _ hp))
theorem ps_for {iter : Expr} {body : List Stmt} {wi : TI} {g : TG} {tb : TS} {pos : Pos} (hp : PassesOwn (model X.prog X.w) X.A X.env X.xe) (hc : X.calm = true) (hi : PI X tg iter wi) (hg : PG X tg g) (hb : PSs X body tb)
    (hs : ∀ x, foldedSetIterable iter X.env x = pure x := by intro _; rfl) : PS X (.For tg iter body [] pos) (tFor wi g tb) := by
  intro pins s σ H D I h
  refine wpAny_For (thn (hi pins s σ H _ I h) fun v s1 h1 => thn h1 fun itv s2 h2 => ?_) hs
  obtain ⟨it, fp, tn, J, H2, e, I2, T, st2, f2, W, ⟨m0, w0⟩, turn⟩ := h2
  subst e
  -- what stays true of the iterator's objects through the loop
  have stat : ∀ {H' : Hp}, (∀ b ∈ fp, H' b = none) → ∀ b ∈ fp, FpOk X pins H' b := fun hn b hb => ⟨hn b hb, (f2 b hb).2⟩
  refine codeAny_forLoop_any (fun n s' => ∃ i σ' H', Inv X pins σ' H' s' ∧ tn i s'.heap ∧ (∀ b ∈ fp, H' b = none) ∧ W i n σ' H') ?_ m0 ⟨0, σ, H2, I2, st2, fun b hb => (f2 b hb).1, w0⟩
  rintro n s3 ⟨i, σ3, H3, I3, st3, fr3, w3⟩
  rcases turn i n σ3 H3 w3 with ⟨stop, qn⟩ | ⟨go, N, hN, step⟩
  · refine wpAny_passesOwn hp (thn (T.done X rfl rfl rfl hc i pins s3 σ3 H3 X.xe I3 (stat fr3) st3 stop) fun r s4 ⟨hr, I4⟩ => ?_)
    subst hr
    exact wpAny_execs_nil ⟨σ3, H3, I4, qn⟩
  · refine wpAny_passesOwn hp (thn (T.item X rfl rfl rfl hc i pins s3 σ3 H3 X.xe I3 (stat fr3) st3 go) fun r s4 ⟨u, hr, h4⟩ => ?_)
    subst hr
    refine wpAny_passesOwn hp (thn h4 fun _ s5 ⟨x, H5, I5, r5, y5, st5, fr5⟩ => ?_)
    have I5' := I5.pinned (stat fr5) (T.obj _ _ st5)
    refine wpAny_passesOwn hp (thn (hg _ s5 σ3 H5 x u _ I5' r5 (step x H5 y5)) fun _ s6 ⟨σ6, H6, I6, q6⟩ => ?_)
    refine wpAny_passesOwn hp (thn (hb _ s6 σ6 H6 _ I6 q6) fun f s7 q7 => ?_)
    have again : ∀ {σ7 : St} {H7 : Hp}, Inv X (pins ++ pinsAt fp s5.heap) σ7 H7 s7 → N σ7 H7 → ∃ m, m < n ∧ ∃ i σ' H', Inv X pins σ' H' s7 ∧ tn i s7.heap ∧ (∀ b ∈ fp, H' b = none) ∧ W i m σ' H' := fun {σ7 H7} I7 n7 => by
      obtain ⟨m', hm, w7⟩ := hN σ7 H7 n7
      refine ⟨m', hm, i + 1, σ7, H7, I7.unpinned, T.keep _ _ _ st5 fun b hb o e => (I7.pin (b, o) (List.mem_append_right _ (List.mem_append_right _ (mem_pinsAt hb e)))).1, fun b hb => ?_, w7⟩
      obtain ⟨o, e, d⟩ := T.obj _ _ st5 b hb
      exact (I7.pin (b, o) (List.mem_append_right _ (List.mem_append_right _ (mem_pinsAt hb e)))).2.1
    cases f with
    | next => obtain ⟨σ7, H7, I7, n7⟩ := q7; exact again I7 n7
    | cont => obtain ⟨σ7, H7, I7, n7⟩ := q7; exact again I7 n7
    | brk => obtain ⟨σ7, H7, I7, q7⟩ := q7; exact ⟨σ7, H7, I7.unpinned, q7⟩
    | ret v => obtain ⟨x7, σ7, H7, I7, r7, q7⟩ := q7; exact ⟨x7, σ7, H7, I7.unpinned, r7, q7⟩
end
/-- over a list that the body leaves as it is -/
theorem for_list {K : PySem.W.Frag} {a : Addr} {xs : List V} {g : TG} {tb : TS} {D : Ends} {σ : St} {H : Hp} (Pv : Nat → St → Hp → Prop) (h0 : Pv 0 σ H) (hl : ∀ i σ H, i ≤ xs.length → Pv i σ H → SqL K H a xs)
    (hs : ∀ i x σ H, xs[i]? = some x → Pv i σ H → g x σ H fun σ2 H2 => tb { D with nx := Pv (i + 1), ct := Pv (i + 1), bk := D.nx } σ2 H2) (hd : ∀ σ H, Pv xs.length σ H → D.nx σ H) :
    ∃ W : Nat → Nat → St → Hp → Prop, (∃ m, W 0 m σ H) ∧ ∀ i m σ H, W i m σ H →
      ((Itl K a).stop i H ∧ D.nx σ H) ∨ ((Itl K a).go i H ∧ ∃ N : St → Hp → Prop, (∀ σ' H', N σ' H' → ∃ m', m' < m ∧ W (i + 1) m' σ' H') ∧ ∀ x H', (Itl K a).yld i H x H' → g x σ H' fun σ2 H2 => tb { D with nx := N, ct := N, bk := D.nx } σ2 H2) := by
  refine ⟨fun i m σ H => m = xs.length - i ∧ i ≤ xs.length ∧ Pv i σ H, ⟨xs.length, by simp, Nat.zero_le _, h0⟩, ?_⟩
  rintro i m σ H ⟨rfl, hi, p⟩
  have q := hl i σ H hi p
  by_cases hlt : i < xs.length
  · refine .inr ⟨⟨xs, xs[i], q, by simp [hlt]⟩, Pv (i + 1), fun σ' H' p' => ⟨xs.length - (i + 1), by omega, rfl, hlt, p'⟩, fun x H' y => ?_⟩
    obtain ⟨e, y⟩ := y
    subst e
    exact hs i x σ _ (y xs q) p
  · have e : i = xs.length := by omega
    subst e
    exact .inl ⟨⟨xs, q, Nat.le_refl _⟩, hd σ H p⟩
theorem for_range {lo : Int} {n : Nat} {g : TG} {tb : TS} {D : Ends} {σ : St} {H : Hp} (Pv : Nat → St → Hp → Prop) (h0 : Pv 0 σ H)
    (hs : ∀ i σ H, i < n → Pv i σ H → g (.int (lo + i)) σ H fun σ2 H2 => tb { D with nx := Pv (i + 1), ct := Pv (i + 1), bk := D.nx } σ2 H2) (hd : ∀ σ H, Pv n σ H → D.nx σ H) :
    ∃ W : Nat → Nat → St → Hp → Prop, (∃ m, W 0 m σ H) ∧ ∀ i m σ H, W i m σ H →
      ((Itr lo n).stop i H ∧ D.nx σ H) ∨ ((Itr lo n).go i H ∧ ∃ N : St → Hp → Prop, (∀ σ' H', N σ' H' → ∃ m', m' < m ∧ W (i + 1) m' σ' H') ∧ ∀ x H', (Itr lo n).yld i H x H' → g x σ H' fun σ2 H2 => tb { D with nx := N, ct := N, bk := D.nx } σ2 H2) := by
  refine ⟨fun i m σ H => m = n - i ∧ i ≤ n ∧ Pv i σ H, ⟨n, by simp, Nat.zero_le _, h0⟩, ?_⟩
  rintro i m σ H ⟨rfl, hi, p⟩
  by_cases hlt : i < n
  · refine .inr ⟨hlt, Pv (i + 1), fun σ' H' p' => ⟨n - (i + 1), by omega, rfl, hlt, p'⟩, fun x H' y => ?_⟩
    obtain ⟨e, y⟩ := y
    subst e y
    exact hs i σ _ hlt p
  · have e : i = n := by omega
    subst e
    exact .inl ⟨Nat.le_refl _, hd σ H p⟩
end L2
namespace L2
open PySem PySem.Spec PyProof.Rows
abbrev R2 := V → V → Hp → VK → Prop
/-- a two-place operation on values: f is binaryOp op, inplaceOp op or compareOp op -/
def OpR (X : Cx) (f : Value → Value → Sem Value) (r : R2) : Prop :=
  ∀ (pins : List (Addr × Obj)) (s : Shared) (σ : St) (H : Hp) (x y : V) (v u : Value) (Q : VK), Inv X pins σ H s → RelV x v → RelV y u → r x y H Q →
    wpAny (model X.prog X.w) X.A (f v u) (EP X pins σ Q) X.xe s
/-- a one-place operation -/
def UnR (X : Cx) (f : Value → Sem Value) (r : V → Hp → VK → Prop) : Prop :=
  ∀ (pins : List (Addr × Obj)) (s : Shared) (σ : St) (H : Hp) (x : V) (v : Value) (Q : VK), Inv X pins σ H s → RelV x v → r x H Q →
    wpAny (model X.prog X.w) X.A (f v) (EP X pins σ Q) X.xe s
/-- a call of a value that is known (a builtin, a type) with values -/
def CallR (X : Cx) (f : Value) (r : List V → Hp → VK → Prop) : Prop :=
  ∀ (pins : List (Addr × Obj)) (s : Shared) (σ : St) (H : Hp) (xs : List V) (us : List Value) (Q : VK), Inv X pins σ H s → Vals xs us → r xs H Q →
    wpAny (model X.prog X.w) X.A (call f us) (EP X pins σ Q) X.xe s
def tOp (r : R2) (ta tb : TE) : TE := fun σ H Q => ta σ H fun x H1 => tb σ H1 fun y H2 => r x y H2 Q
def tUn (r : V → Hp → VK → Prop) (ta : TE) : TE := fun σ H Q => ta σ H fun x H1 => r x H1 Q
/-- ints in, under C, and a value out -/
def rI (C : Int → Int → Prop) (g : Int → Int → V) : R2 := fun x y H Q => ∃ i j, x = .int i ∧ y = .int j ∧ C i j ∧ Q (g i j) H
def rI0 (g : Int → Int → V) : R2 := fun x y H Q => ∃ i j, x = .int i ∧ y = .int j ∧ Q (g i j) H
def rU (g : Int → V) : V → Hp → VK → Prop := fun x H Q => ∃ i, x = .int i ∧ Q (g i) H
section
variable {X : Cx} {a b c : Expr} {ta tb tc : TE} {pos : Pos}
theorem binT (ha : PE X a ta) (hb : PE X b tb) {pins : List (Addr × Obj)} {s : Shared} {σ : St} {H : Hp} {R : V → V → Hp → Prop} (I : Inv X pins σ H s)
    (h : ta σ H fun x H1 => tb σ H1 fun y H2 => R x y H2) {Q : Value → Shared → Prop} {f : Value → Value → Sem Value}
    (hf : ∀ v u s2 x y H2, Inv X pins σ H2 s2 → RelV x v → RelV y u → R x y H2 → wpAny (model X.prog X.w) X.A (f v u) Q X.xe s2) :
    wpAny (model X.prog X.w) X.A (eval a X.env) (fun v s₁ => wpAny (model X.prog X.w) X.A (eval b X.env) (fun u s₂ => wpAny (model X.prog X.w) X.A (f v u) Q X.xe s₂) X.xe s₁) X.xe s := by
  refine thn (ha pins s σ H _ I h) fun v s1 ⟨x, H1, I1, r1, q1⟩ => ?_
  refine thn (hb pins s1 σ H1 _ I1 q1) fun u s2 ⟨y, H2, I2, r2, q2⟩ => ?_
  exact hf v u s2 x y H2 I2 r1 r2 q2
theorem pe_op {op : Operator} {r : R2} (ho : OpR X (binaryOp op) r) (ha : PE X a ta) (hb : PE X b tb) : PE X (.BinOp a op b pos) (tOp r ta tb) := by
  intro pins s σ H Q I h
  exact wpAny_BinOp (binT ha hb I h fun v u s2 x y H2 I2 rx ry q => ho pins s2 σ H2 x y v u Q I2 rx ry q)
theorem pe_un {op : UnaryOp} {r : V → Hp → VK → Prop} (ho : UnR X (unaryOp op) r) (ha : PE X a ta) : PE X (.UnaryOp op a pos) (tUn r ta) := by
  intro pins s σ H Q I h
  exact UnaryOp_ (thn (ha pins s σ H _ I h) fun v s1 ⟨x, H1, I1, r1, q1⟩ => ho pins s1 σ H1 x v Q I1 r1 q1)
theorem opI {f : Value → Value → Sem Value} {C : Int → Int → Prop} {g : Int → Int → Int}
    (rule : ∀ (i j : Int) (t u : Tok) (s : Shared) (Q : Value → Shared → Prop) (E : Value → Shared → Prop), C i j → Q (.int (g i j) s.toks) { s with toks := s.toks + 1 } → wpAny (model X.prog X.w) X.A (f (.int i t) (.int j u)) Q E s) :
    OpR X f (rI C fun i j => .int (g i j)) := by
  intro pins s σ H x y v u Q I rx ry h
  obtain ⟨i, j, rfl, rfl, hc, q⟩ := h
  obtain ⟨t, rfl⟩ := rx
  obtain ⟨t', rfl⟩ := ry
  exact rule i j t t' s _ _ hc ⟨.int (g i j), H, I.tok _, ⟨_, rfl⟩, q⟩
theorem opI0 {f : Value → Value → Sem Value} {g : Int → Int → Int}
    (rule : ∀ (i j : Int) (t u : Tok) (s : Shared) (Q : Value → Shared → Prop) (E : Value → Shared → Prop), Q (.int (g i j) s.toks) { s with toks := s.toks + 1 } → wpAny (model X.prog X.w) X.A (f (.int i t) (.int j u)) Q E s) :
    OpR X f (rI0 fun i j => .int (g i j)) := by
  intro pins s σ H x y v u Q I rx ry h
  obtain ⟨i, j, rfl, rfl, q⟩ := h
  obtain ⟨t, rfl⟩ := rx
  obtain ⟨t', rfl⟩ := ry
  exact rule i j t t' s _ _ ⟨.int (g i j), H, I.tok _, ⟨_, rfl⟩, q⟩
theorem opB0 {f : Value → Value → Sem Value} {g : Int → Int → Bool}
    (rule : ∀ (i j : Int) (t u : Tok) (s : Shared) (Q : Value → Shared → Prop) (E : Value → Shared → Prop), Q (.bool (g i j)) s → wpAny (model X.prog X.w) X.A (f (.int i t) (.int j u)) Q E s) :
    OpR X f (rI0 fun i j => .bl (g i j)) := by
  intro pins s σ H x y v u Q I rx ry h
  obtain ⟨i, j, rfl, rfl, q⟩ := h
  obtain ⟨t, rfl⟩ := rx
  obtain ⟨t', rfl⟩ := ry
  exact rule i j t t' s _ _ ⟨.bl (g i j), H, I, rfl, q⟩
def CMul (i j : Int) : Prop := (-(2 ^ 64) < i ∧ i < 2 ^ 64) ∨ (-(2 ^ 64) < j ∧ j < 2 ^ 64)
theorem CMul.ok {i j : Int} (h : CMul i j) : IntMulOk i j := by
  rcases h with ⟨h1, h2⟩ | ⟨h1, h2⟩
  · exact .of_left (intBits_le_64 h1 h2)
  · exact .of_right (intBits_le_64 h1 h2)
theorem op_add : OpR X (binaryOp .Add) (rI0 fun i j => .int (i + j)) := opI0 fun _ _ _ _ _ _ _ q => add_int q
theorem op_sub : OpR X (binaryOp .Sub) (rI0 fun i j => .int (i - j)) := opI0 fun _ _ _ _ _ _ _ q => sub_int q
theorem op_mul : OpR X (binaryOp .Mult) (rI CMul fun i j => .int (i * j)) := opI fun _ _ _ _ _ _ _ hc q => mul_int q hc.ok
/-- % by a positive divisor of any size -/
theorem op_mod : OpR X (binaryOp .Mod) (rI (fun _ j => 0 < j) fun i j => .int (i % j)) := opI fun i j _ _ _ _ _ hc q => by
  have h1 : (0 : Int) < j := hc
  exact mod_int' (by omega) (by rw [Int.fmod_eq_emod_of_nonneg i (by omega)]; exact q)
theorem unI {f : Value → Sem Value} {g : Int → Int}
    (rule : ∀ (i : Int) (t : Tok) (s : Shared) (Q : Value → Shared → Prop) (E : Value → Shared → Prop), Q (.int (g i) s.toks) { s with toks := s.toks + 1 } → wpAny (model X.prog X.w) X.A (f (.int i t)) Q E s) :
    UnR X f (rU fun i => .int (g i)) := by
  intro pins s σ H x v Q I rx h
  obtain ⟨i, rfl, q⟩ := h
  obtain ⟨t, rfl⟩ := rx
  exact rule i t s _ _ ⟨.int (g i), H, I.tok _, ⟨_, rfl⟩, q⟩
theorem un_neg : UnR X (unaryOp .USub) (rU fun i => .int (-i)) := unI fun _ _ _ _ _ q => neg_int q
end
/-- the scalars that == tells apart as data does -/
def scal : V → V → Bool
  | .non, .non => true | .non, .int _ => true | .int _, .non => true | .non, .bl _ => true | .bl _, .non => true | .non, .str _ => true | .str _, .non => true
  | .int _, .int _ => true | .bl _, .bl _ => true | .str _, .str _ => true | .byt _, .byt _ => true
  | .int _, .str _ => true | .str _, .int _ => true | .bl _, .str _ => true | .str _, .bl _ => true
  | _, _ => false
def rEq : R2 := fun x y H Q => scal x y = true ∧ Q (.bl (decide (x = y))) H
def rNe : R2 := fun x y H Q => scal x y = true ∧ Q (.bl (!decide (x = y))) H
theorem dec_int {i j : Int} : decide (V.int i = V.int j) = (i == j) := by
  rw [Bool.eq_iff_iff]
  simp
theorem dec_bl {i j : Bool} : decide (V.bl i = V.bl j) = (i == j) := by
  rw [Bool.eq_iff_iff]
  simp
theorem dec_str {i j : Str} : decide (V.str i = V.str j) = (i == j) := by
  rw [Bool.eq_iff_iff]
  simp
theorem dec_byt {i j : Array UInt8} : decide (V.byt i = V.byt j) = (i.toList == j.toList) := by
  rw [Bool.eq_iff_iff]
  cases i
  cases j
  simp
section
variable {X : Cx} {a b c : Expr} {ta tb tc : TE} {pos : Pos}
theorem fin_bl {pins : List (Addr × Obj)} {σ : St} {H : Hp} {s : Shared} {Q : VK} {k k' : Bool} (I : Inv X pins σ H s) (q : Q (.bl k) H) (e : k = k') : EP X pins σ Q (.bool k') s := by
  subst e
  exact ⟨.bl k, H, I, rfl, q⟩
theorem op_eq : OpR X (compareOp .Eq) rEq := by
  intro pins s σ H x y v u Q I rx ry h
  obtain ⟨hs, q⟩ := h
  cases x with
  | non =>
    cases rx
    cases y with
    | non => cases ry; exact PySem.EqNone.eq_none_none (fin_bl I q (by simp))
    | bl j => cases ry; exact PySem.EqNone.eq_none_bool (fin_bl I q (by simp))
    | int j => obtain ⟨t', rfl⟩ := ry; exact PySem.EqNone.eq_none_int (fin_bl I q (by simp))
    | str j => obtain ⟨t', rfl⟩ := ry; exact PySem.EqNone.eq_none_str (fin_bl I q (by simp))
    | _ => exact absurd (show false = true from hs) Bool.false_ne_true
  | bl i =>
    cases rx
    cases y with
    | non => cases ry; exact PySem.EqNone.eq_bool_none (fin_bl I q (by simp))
    | bl j => cases ry; exact eq_bool (fin_bl I q dec_bl)
    | str j => obtain ⟨t', rfl⟩ := ry; exact PySem.EqMixed.eq_bool_str (fin_bl I q (by simp))
    | _ => exact absurd (show false = true from hs) Bool.false_ne_true
  | int i =>
    obtain ⟨t, rfl⟩ := rx
    cases y with
    | non => cases ry; exact PySem.EqNone.eq_int_none (fin_bl I q (by simp))
    | int j => obtain ⟨t', rfl⟩ := ry; exact eq_int (fin_bl I q dec_int)
    | str j => obtain ⟨t', rfl⟩ := ry; exact PySem.EqMixed.eq_int_str (fin_bl I q (by simp))
    | _ => exact absurd (show false = true from hs) Bool.false_ne_true
  | str i =>
    obtain ⟨t, rfl⟩ := rx
    cases y with
    | non => cases ry; exact PySem.EqNone.eq_str_none (fin_bl I q (by simp))
    | bl j => cases ry; exact PySem.EqMixed.eq_str_bool (fin_bl I q (by simp))
    | int j => obtain ⟨t', rfl⟩ := ry; exact PySem.EqMixed.eq_str_int (fin_bl I q (by simp))
    | str j => obtain ⟨t', rfl⟩ := ry; exact eq_str (fin_bl I q dec_str)
    | _ => exact absurd (show false = true from hs) Bool.false_ne_true
  | byt i =>
    obtain ⟨t, rfl⟩ := rx
    cases y with
    | byt j => obtain ⟨t', rfl⟩ := ry; exact PySem.W.eq_bytes (fin_bl I q dec_byt)
    | _ => exact absurd (show false = true from hs) Bool.false_ne_true
  | _ => cases y <;> exact absurd (show false = true from hs) Bool.false_ne_true
theorem op_ne : OpR X (compareOp .NotEq) rNe := by
  intro pins s σ H x y v u Q I rx ry h
  obtain ⟨hs, q⟩ := h
  cases x with
  | non =>
    cases rx
    cases y with
    | non => cases ry; exact PySem.EqNone.ne_none_none (fin_bl I q (by simp))
    | bl j => cases ry; exact PySem.EqNone.ne_none_bool (fin_bl I q (by simp))
    | int j => obtain ⟨t', rfl⟩ := ry; exact PySem.EqNone.ne_none_int (fin_bl I q (by simp))
    | str j => obtain ⟨t', rfl⟩ := ry; exact PySem.EqNone.ne_none_str (fin_bl I q (by simp))
    | _ => exact absurd (show false = true from hs) Bool.false_ne_true
  | bl i =>
    cases rx
    cases y with
    | non => cases ry; exact PySem.EqNone.ne_bool_none (fin_bl I q (by simp))
    | bl j => cases ry; exact ne_bool (fin_bl I q (congrArg not dec_bl))
    | str j => obtain ⟨t', rfl⟩ := ry; exact PySem.EqMixed.ne_bool_str (fin_bl I q (by simp))
    | _ => exact absurd (show false = true from hs) Bool.false_ne_true
  | int i =>
    obtain ⟨t, rfl⟩ := rx
    cases y with
    | non => cases ry; exact PySem.EqNone.ne_int_none (fin_bl I q (by simp))
    | int j => obtain ⟨t', rfl⟩ := ry; exact ne_int (fin_bl I q (congrArg not dec_int))
    | str j => obtain ⟨t', rfl⟩ := ry; exact PySem.EqMixed.ne_int_str (fin_bl I q (by simp))
    | _ => exact absurd (show false = true from hs) Bool.false_ne_true
  | str i =>
    obtain ⟨t, rfl⟩ := rx
    cases y with
    | non => cases ry; exact PySem.EqNone.ne_str_none (fin_bl I q (by simp))
    | bl j => cases ry; exact PySem.EqMixed.ne_str_bool (fin_bl I q (by simp))
    | int j => obtain ⟨t', rfl⟩ := ry; exact PySem.EqMixed.ne_str_int (fin_bl I q (by simp))
    | str j => obtain ⟨t', rfl⟩ := ry; exact ne_str (fin_bl I q (congrArg not dec_str))
    | _ => exact absurd (show false = true from hs) Bool.false_ne_true
  | byt i =>
    obtain ⟨t, rfl⟩ := rx
    cases y with
    | byt j => obtain ⟨t', rfl⟩ := ry; exact PySem.W.ne_bytes (fin_bl I q (congrArg not dec_byt))
    | _ => exact absurd (show false = true from hs) Bool.false_ne_true
  | _ => cases y <;> exact absurd (show false = true from hs) Bool.false_ne_true
theorem op_lt : OpR X (compareOp .Lt) (rI0 fun i j => .bl (decide (i < j))) := opB0 fun _ _ _ _ _ _ _ q => lt_int q
theorem op_gt : OpR X (compareOp .Gt) (rI0 fun i j => .bl (decide (j < i))) := opB0 fun _ _ _ _ _ _ _ q => gt_int q
theorem nomark (b : Expr) {op : CmpOp} (h : op ≠ .In := by decide) (h2 : op ≠ .NotIn := by decide) : behindInMarks op b = false := by
  have e1 : (op == CmpOp.In) = false := by cases op <;> first | rfl | exact absurd rfl h
  have e2 : (op == CmpOp.NotIn) = false := by cases op <;> first | rfl | exact absurd rfl h2
  cases b <;> simp [behindInMarks, e1, e2]
/-- a comparison as a value; hm: nomark b, or (for in, not in) by with_unfolding_all rfl -/
theorem pe_cmpR {op : CmpOp} {r : R2} (ho : OpR X (compareOp op) r) (ha : PE X a ta) (hb : PE X b tb) (hm : behindInMarks op b = false) : PE X (.Compare a [op] [b] pos) (tOp r ta tb) := by
  intro pins s σ H Q I h
  exact wpAny_Compare1 (binT ha hb I h fun v u s2 x y H2 I2 rx ry q => ho pins s2 σ H2 x y v u Q I2 rx ry q) hm
/-- a reading of a value as a test -/
def tTest (t : TE) : TT := fun σ H Q => t σ H fun x H' => ∃ k, x = .bl k ∧ Q k H'
theorem pt_cmpR {op : CmpOp} {r : R2} (ho : OpR X (compareOp op) r) (ha : PE X a ta) (hb : PE X b tb) (hm : behindInMarks op b = false) : PT X (.Compare a [op] [b] pos) (tTest (tOp r ta tb)) := by
  intro pins s σ H Q I h
  refine wpAny_isTrue_Compare1 (thn (ha pins s σ H _ I h) fun v s1 ⟨x, H1, I1, r1, q1⟩ => thn (hb pins s1 σ H1 _ I1 q1) fun u s2 ⟨y, H2, I2, r2, q2⟩ =>
    thn (ho pins s2 σ H2 x y v u _ I2 r1 r2 q2) fun c s3 ⟨z, H3, I3, r3, k, e, q3⟩ => ?_) hm
  subst e
  cases r3
  exact wpAny_truthy_bool ⟨H3, I3, q3⟩
theorem line63 : (sizeLine : Nat) < 2 ^ 63 := by rw [sizeLine_eq]; decide
theorem vals1 {x : V} {us : List Value} (r : Vals [x] us) : ∃ u, us = [u] ∧ RelV x u := by
  cases r with
  | cons r1 r2 => cases r2; exact ⟨_, rfl, r1⟩
theorem vals2 {x y : V} {us : List Value} (r : Vals [x, y] us) : ∃ u w', us = [u, w'] ∧ RelV x u ∧ RelV y w' := by
  cases r with
  | cons r1 r2 =>
    cases r2 with
    | cons r3 r4 => cases r4; exact ⟨_, _, rfl, r1, r3⟩
theorem call_min2 (hc : X.calm = true) : CallR X (.builtin "min") (fun xs H Q => ∃ i j, xs = [.int i, .int j] ∧ Q (.int (if j < i then j else i)) H) := by
  intro pins s σ H xs us Q I r h
  obtain ⟨i, j, rfl, q⟩ := h
  obtain ⟨u, w', rfl, ⟨t, rfl⟩, ⟨t', rfl⟩⟩ := vals2 r
  refine min_two_ints (I.ok.hd hc) fun h' tk k => ⟨_, H, I.kept k, ?_, q⟩
  by_cases hj : j < i
  · rw [if_pos hj, if_pos hj]; exact ⟨_, rfl⟩
  · rw [if_neg hj, if_neg hj]; exact ⟨_, rfl⟩
end
end L2
namespace L2
open PySem PySem.Spec PyProof.Rows
structure ObjM (h : Heap) (x dx C : Addr) (mA : Str → Option Value) : Prop where
  obj : h.get? x = some (PySem.W.instObj C dx)
  ns : h.Ns1 dx mA
  ne : dx ≠ x
theorem lookIn_ns {h : Heap} {dx : Addr} {mA : Str → Option Value} (n : h.Ns1 dx mA) : ∃ od, h.get? dx = some od ∧ ∀ name, PySem.W.lookIn name od = some (mA name) := by
  obtain ⟨o, es, ep, ho, hd, hk, _, hm⟩ := n
  refine ⟨o, ho, fun name => ?_⟩
  have e := hm name
  unfold nsFind findBy at e
  rw [← Array.find?_toList] at e
  unfold PySem.W.lookIn
  rw [hd]
  dsimp only
  split
  · rename_i y q
    rw [q] at e
    exact congrArg some e
  · rename_i q
    rw [q] at e
    have a : es.toList.any (·.refKey) = false := by
      rw [List.any_eq_false]
      intro y hy
      obtain ⟨z, t, hkey⟩ := hk y (Array.mem_toList_iff.mp hy)
      simp [DictEntry.refKey, hkey]
    have a' : ¬ es.toList.any (·.refKey) = true := by rw [a]; exact Bool.false_ne_true
    rw [if_neg a']
    exact congrArg some e
theorem ObjM.look {h : Heap} {x dx C : Addr} {mA : Str → Option Value} (I : ObjM h x dx C mA) : ∃ od, PySem.W.InstAt h x (PySem.W.instObj C dx) C (some od) ∧ ∀ name, PySem.W.lookIn name od = some (mA name) :=
  let ⟨od, ho, hl⟩ := lookIn_ns I.ns
  ⟨od, ⟨I.obj, rfl, rfl, ho⟩, hl⟩
section
variable {prog : Program} {w : World} {A : Around} {E : Value → Shared → Prop} {s : Shared} {K : PySem.W.Frag} {x dx C f : Addr} {mA : Str → Option Value} {name : Str} {v : Value}
theorem get_map {expr : Bool} {Q : Value → Shared → Prop} (X : K.In s.heap) (I : ObjM s.heap x dx C mA) (hg : PySem.W.plainGet K C name = true) (hh : PySem.W.hasDictIn K C = true)
    (ha : PySem.W.findIn K (.ref C) name = some none) (hv : mA name = some v) (hv' : PySem.W.handedIn v = true) (h : Q v { s with toks := s.toks + 1 }) :
    wpAny (model prog w) A (getAttr (.ref x) name expr) Q E s := by
  obtain ⟨od, J, hl⟩ := I.look
  exact PySem.W.get_value X J (PySem.W.plainGet_of hg).1 (PySem.W.findObj_own hh ha rfl (by rw [hl, hv])) hv' h
theorem get_meth {pl : Sem Bool} {Q : Value × List Value → Shared → Prop} (X : K.In s.heap) (I : ObjM s.heap x dx C mA) (hg : PySem.W.plainGet K C name = true)
    (hf : PySem.W.findIn K (.ref C) name = some (some (.ref f))) (ht : PySem.W.isFn K (.ref f) = true) (hv : mA name = none) (h : Q (.ref f, [.ref x]) s) :
    wpAny (model prog w) A (getMethod (.ref x) name pl) Q E s := by
  obtain ⟨od, J, hl⟩ := I.look
  exact PySem.W.method_fn X J (PySem.W.plainGet_of hg).1 (PySem.W.plainGet_of hg).2 hf (beq_iff_eq.mp ht) (by show (PySem.W.lookIn name od).map (·.isSome) = some false; rw [hl, hv]; rfl) h
theorem set_map {ns : List Str} {Q : Unit → Shared → Prop} (X : K.In s.heap) (I : ObjM s.heap x dx C mA)
    (hs : PySem.W.findIn K (.ref C) "__setattr__" = some (some (.builtin "object.__setattr__"))) (hp : PySem.W.plainOver K C = true) (ht : PySem.W.takerIn K C name = some none) (hh : PySem.W.hasDictIn K C = true)
    (hw : PySem.Within mA ns) (hsz : ns.length ≤ sizeLine)
    (h : ∀ h', ObjM h' x dx C (fun y => if y = name then some v else mA y) → Heap.SameBut dx s.heap h' → Q () { s with heap := h', toks := s.toks + 2 }) :
    wpAny (model prog w) A (setAttr (.ref x) name v) Q E s := by
  obtain ⟨od, J, hl⟩ := I.look
  refine PySem.W.set_plain X J hs (PySem.W.osa_open (s := { s with toks := s.toks + 1 }) (r := none) X J hp ht fun b => ?_)
  obtain ⟨cd, hc, hd'⟩ := PySem.W.any_some hh
  have hx : s.heap.get? x = some ⟨.ref C, some dx, .plain, #[]⟩ := I.obj
  refine wpAny_bind (wpAny_pure (wpAny_bind (wpAny_bind (wpAny_loadPart hx (wpAny_bind (PySem.W.Looks.here (s := { s with toks := s.toks + 1 }) (PySem.W.looks_clsIn X hc) ?_))))))
  rw [hd']
  refine wpAny_pure (a := some dx) (wpAny_bind (wpAny_pure (wpAny_bind ?_)))
  refine wpAny_nsSet1 (s := { s with toks := s.toks + 1 }) I.ns fun h' hn2 hs2 => ?_
  obtain ⟨oD, esD, epD, hoD, hdD, hcD⟩ := hn2.count (PySem.Within.cons name v hw)
  refine wpAny_bind (wpAny_lookBehind hoD (by rw [hdD]; exact pastItsLine_dict (Nat.le_trans hcD (by rw [List.length_cons]; omega))) ?_)
  exact wpAny_pure (h _ ⟨(hs2.2 _ (Ne.symm I.ne)).trans I.obj, hn2, I.ne⟩ hs2)
/-- C(..): the dict at the heap's end, the instance behind it; then its __init__ -/
theorem make_map {R : Result → Shared → Prop} {vs : List Value} {kw : List (Str × Value)} (X : K.In s.heap) (hm : PySem.W.makesIn K C = true)
    (hi : PySem.W.findIn K (.ref C) "__init__" = some (some (.ref f))) (hf : PySem.W.typeIn K (.ref f) = some (.type "function"))
    (h : codeAny (model prog w) (A.under (.builtin "type.__call__" ⟨.ref C :: vs, kw⟩)) (.call (.ref f) ⟨.ref (s.heap.objs.size + 1) :: vs, kw⟩) (PySem.W.InitBack (s.heap.objs.size + 1) R)
      { s with heap := (s.heap.push PySem.W.emptyDict).push (PySem.W.instObj C s.heap.objs.size) }) :
    codeAny (model prog w) A (.call (.ref C) ⟨vs, kw⟩) R s := by
  obtain ⟨hh, g, d, t, os⟩ := s
  exact PySem.W.make_core (PySem.W.makes_of X hm) (PySem.W.looks_findIn X hi) (fun self => PySem.W.bind_fn X self hf) (.inl rfl) h
end
def putF (f : Str) (v : V) : List (Str × V) → List (Str × V)
  | [] => [(f, v)]
  | (g, x) :: r => if g = f then (g, v) :: r else (g, x) :: putF f v r
theorem lookup_putF (f g : Str) (v : V) : ∀ fs : List (Str × V), (putF f v fs).lookup g = if g = f then some v else fs.lookup g
  | [] => by
    show List.lookup g [(f, v)] = _
    by_cases h : g = f
    · have hb : (g == f) = true := beq_iff_eq.mpr h
      simp only [List.lookup, hb, if_pos h]
    · have hb : (g == f) = false := beq_eq_false_iff_ne.mpr h
      simp only [List.lookup, hb, if_neg h]
  | (k, x) :: r => by
    have ih := lookup_putF f g v r
    rw [show putF f v ((k, x) :: r) = (if k = f then (k, v) :: r else (k, x) :: putF f v r) from rfl]
    by_cases hk : k = f
    · rw [if_pos hk]
      by_cases h : g = k
      · have hb : (g == k) = true := beq_iff_eq.mpr h
        simp only [List.lookup, hb, if_pos (h.trans hk)]
      · have hb : (g == k) = false := beq_eq_false_iff_ne.mpr h
        simp only [List.lookup, hb, if_neg (fun e : g = f => h (e.trans hk.symm))]
    · rw [if_neg hk]
      by_cases h : g = k
      · have hb : (g == k) = true := beq_iff_eq.mpr h
        simp only [List.lookup, hb, if_neg (fun e : g = f => hk (h.symm.trans e))]
      · have hb : (g == k) = false := beq_eq_false_iff_ne.mpr h
        simp only [List.lookup, hb]
        exact ih
theorem keys_putF (f : Str) (v : V) : ∀ fs : List (Str × V), f ∈ (putF f v fs).map (·.1) ∧ ∀ g, g ∈ fs.map (·.1) → g ∈ (putF f v fs).map (·.1)
  | [] => ⟨by simp [putF], fun g h => by simp at h⟩
  | (k, x) :: r => by
    obtain ⟨i1, i2⟩ := keys_putF f v r
    rw [show putF f v ((k, x) :: r) = (if k = f then (k, v) :: r else (k, x) :: putF f v r) from rfl]
    by_cases hk : k = f
    · rw [if_pos hk]
      subst hk
      exact ⟨by simp, fun g h => by simpa using h⟩
    · rw [if_neg hk]
      refine ⟨?_, fun g h => ?_⟩
      · rw [List.map_cons]
        exact List.mem_cons_of_mem _ i1
      · rw [List.map_cons] at h ⊢
        rcases List.mem_cons.mp h with e | e
        · exact List.mem_cons.mpr (.inl e)
        · exact List.mem_cons_of_mem _ (i2 g e)
theorem length_putF (f : Str) (v : V) : ∀ fs : List (Str × V), (putF f v fs).length ≤ fs.length + 1
  | [] => by simp [putF]
  | (k, x) :: r => by
    have ih := length_putF f v r
    rw [show putF f v ((k, x) :: r) = (if k = f then (k, v) :: r else (k, x) :: putF f v r) from rfl]
    by_cases hk : k = f
    · rw [if_pos hk, List.length_cons, List.length_cons]; omega
    · rw [if_neg hk, List.length_cons, List.length_cons]; omega
theorem RelO.some_of {v : V} {o : Option Value} (r : RelO (some v) o) : ∃ u, o = some u ∧ RelV v u := by
  cases o with
  | none => exact (show False from r).elim
  | some u => exact ⟨u, rfl, r⟩
theorem RelO.none_of {o : Option Value} (r : RelO none o) : o = none := by
  cases o with
  | none => rfl
  | some u => exact (show False from r).elim
theorem handed_of {v : V} {u : Value} (r : RelV v u) : PySem.W.handedIn u = true := by
  cases v with
  | non => cases (show u = Value.none from r); rfl
  | bl b => cases (show u = Value.bool b from r); rfl
  | int i => obtain ⟨t, e⟩ := (show ∃ t, u = Value.int i t from r); cases e; rfl
  | str x => obtain ⟨t, e⟩ := (show ∃ t, u = Value.str x t from r); cases e; rfl
  | byt b => obtain ⟨t, e⟩ := (show ∃ t, u = Value.bytes b t from r); cases e; rfl
  | flt b => obtain ⟨t, e⟩ := (show ∃ t, u = Value.float b t from r); cases e; rfl
  | ref a => cases (show u = Value.ref a from r); rfl
  | ty n => cases (show u = Value.type n from r); rfl
section
variable {P : Program} {w : World} {H H' : Hp} {h h' : Heap} {a C dx : Addr} {fs fs' : List (Str × V)}
theorem ins_get (hok : HOk P w H h) (e : H a = some (.ins C dx fs)) : ∃ mA, ObjM h a dx C mA ∧ (∀ f, RelO (fs.lookup f) (mA f)) ∧ PySem.Within mA (fs.map (·.1)) ∧ fs.length ≤ 1000 ∧ H dx = some (.own a) := by
  obtain ⟨d, z, ne, ob, mA, n, r, q⟩ := (show ObjOk P w H h a (.ins C dx fs) from hok a _ e)
  exact ⟨mA, ⟨ob, n, ne⟩, r, q, z, d⟩
end
structure Cls (K : PySem.W.Frag) (C : Addr) : Prop where
  pg : PySem.W.plainGet K C Str.empty = true
  hd : PySem.W.hasDictIn K C = true
  po : PySem.W.plainOver K C = true
  sa : PySem.W.findIn K (.ref C) "__setattr__" = some (some (.builtin "object.__setattr__"))
theorem Cls.get {K : PySem.W.Frag} {C : Addr} (c : Cls K C) (f : Str) : PySem.W.plainGet K C f = true := c.pg
/-- no class of it has the name -/
def NoAttr (K : PySem.W.Frag) (C : Addr) (f : Str) : Prop := PySem.W.findIn K (.ref C) f = some none
theorem NoAttr.taker {K : PySem.W.Frag} {C : Addr} {f : Str} (n : NoAttr K C f) : PySem.W.takerIn K C f = some none := by
  unfold PySem.W.takerIn
  rw [show PySem.W.findIn K (.ref C) f = some none from n]
  rfl
/-- a constant of the class -/
structure Con (K : PySem.W.Frag) (C : Addr) (f : Str) (v : V) (u : Value) : Prop where
  at_ : PySem.W.findIn K (.ref C) f = some (some u)
  rel : RelV v u
  get : PySem.W.specialIn K u "__get__" = some none
  cp : PySem.W.copiedNames.contains f = false
/-- a method: a plain def of the class or of one above it -/
structure Meth (K : PySem.W.Frag) (C : Addr) (m : Str) (f : Addr) : Prop where
  at_ : PySem.W.findIn K (.ref C) m = some (some (.ref f))
  fn : PySem.W.isFn K (.ref f) = true
  kp : PySem.W.keepIn K (.ref f) = true
section
variable {X : Cx} {pins : List (Addr × Obj)} {σ : St} {H : Hp} {s : Shared} {a C dx : Addr} {fs : List (Str × V)} {f : Str} {v : V} {A : Around} {E : Value → Shared → Prop}
theorem getattr_ok {b : Bool} {Q : Value → Shared → Prop} (I : Inv X pins σ H s) (e : H a = some (.ins C dx fs)) (c : Cls X.K C) (n : NoAttr X.K C f) (l : fs.lookup f = some v)
    (h : ∀ u s', Inv X pins σ H s' → RelV v u → Q u s') : wpAny (model X.prog X.w) A (getAttr (.ref a) f b) Q E s := by
  obtain ⟨mA, O, r, _, _, _⟩ := ins_get I.hok e
  obtain ⟨u, hu, ru⟩ := RelO.some_of (v := v) (o := mA f) (by rw [← l]; exact r f)
  exact get_map I.kIn O (c.get f) c.hd n hu (handed_of ru) (h u _ (I.tok _) ru)
theorem getmeth_ok {m : Str} {g : Addr} {pl : Sem Bool} {Q : Value × List Value → Shared → Prop} (I : Inv X pins σ H s) (e : H a = some (.ins C dx fs)) (c : Cls X.K C) (k : Meth X.K C m g) (l : fs.lookup m = none)
    (h : Q (.ref g, [.ref a]) s) : wpAny (model X.prog X.w) A (getMethod (.ref a) m pl) Q E s := by
  obtain ⟨mA, O, r, _, _, _⟩ := ins_get I.hok e
  have hn : mA m = none := RelO.none_of (by rw [← l]; exact r m)
  exact get_meth I.kIn O (c.get m) k.at_ k.fn hn h
theorem setattr_ok {y : V} {u : Value} {Q : Unit → Shared → Prop} (I : Inv X pins σ H s) (e : H a = some (.ins C dx fs)) (c : Cls X.K C) (n : NoAttr X.K C f) (hl : fs.length < 1000) (ry : RelV y u)
    (h : ∀ s', Inv X pins σ (upd H a (.ins C dx (putF f y fs))) s' → Q () s') : wpAny (model X.prog X.w) A (setAttr (.ref a) f u) Q E s := by
  obtain ⟨mA, O, r, wi, _, ho⟩ := ins_get I.hok e
  have hz : (fs.map (·.1)).length ≤ sizeLine := by rw [List.length_map, sizeLine_eq]; omega
  refine set_map I.kIn O c.sa c.po n.taker c.hd wi hz fun h' O' sb => h _ ?_
  have hd : ∃ o, h'.get? dx = some o := let ⟨o, _, _, e', _⟩ := O'.ns; ⟨o, e'⟩
  refine I.write (x := a) (e := dx) (by rw [e]; exact True.intro) (.inr ho) (fun b q hb z => (sb.2 b hb).trans z) hd ?_
  refine ⟨by rw [upd_ne O.ne]; exact ho, ?_, O.ne, O'.obj, _, O'.ns, fun g => ?_, fun g hg => ?_⟩
  · have := length_putF f y fs; omega
  · show RelO ((putF f y fs).lookup g) (if g = f then some u else mA g)
    rw [lookup_putF]
    by_cases q : g = f
    · rw [if_pos q, if_pos q]; exact ry
    · rw [if_neg q, if_neg q]; exact r g
  · by_cases q : g = f
    · rw [q]; exact (keys_putF f y fs).1
    · refine (keys_putF f y fs).2 g (wi g fun z => hg ?_)
      show (if g = f then some u else mA g) = none
      rw [if_neg q]; exact z
/-- a new instance, tracked, without attributes -/
theorem Inv.made (I : Inv X pins σ H s) : Inv X pins σ (upd (upd H s.heap.objs.size (.own (s.heap.objs.size + 1))) (s.heap.objs.size + 1) (.ins C s.heap.objs.size []))
    { s with heap := (s.heap.push PySem.W.emptyDict).push (PySem.W.instObj C s.heap.objs.size) } := by
  have e1 : (s.heap.push PySem.W.emptyDict).get? s.heap.objs.size = some PySem.W.emptyDict := Heap.get?_push_size s.heap rfl
  have e2 : ((s.heap.push PySem.W.emptyDict).push (PySem.W.instObj C s.heap.objs.size)).get? (s.heap.objs.size + 1) = some (PySem.W.instObj C s.heap.objs.size) := by
    have := Heap.get?_push_size (s.heap.push PySem.W.emptyDict) (o := PySem.W.instObj C s.heap.objs.size) rfl
    rwa [Heap.size_push] at this
  have e3 : (s.heap.push PySem.W.emptyDict).Ns s.heap.objs.size (fun _ => none) := ⟨PySem.W.emptyDict, #[], _, e1, rfl, (fun e he => absurd he (by simp)), fun _ => rfl⟩
  have I1 := I.laid (a := s.heap.objs.size) (o := .own (s.heap.objs.size + 1)) (h' := s.heap.push PySem.W.emptyDict) (t' := s.toks) (fun b u q => Heap.get?_push_of_some _ q) (Nat.le_refl _) ⟨_, e1⟩
  refine I1.laid (a := s.heap.objs.size + 1) (o := .ins C s.heap.objs.size []) (t' := s.toks) (fun b u q => Heap.get?_push_of_some _ q) (Nat.le_of_eq (Heap.size_push _ _)) ?_
  have ne : s.heap.objs.size ≠ s.heap.objs.size + 1 := Nat.ne_of_lt (Nat.lt_succ_self _)
  refine ⟨by rw [upd_ne ne, upd_same], Nat.zero_le _, ne, e2, fun _ => none, (Heap.Ns1.of_empty e3).at fun o q => Heap.get?_push_of_some _ q, fun _ => True.intro, fun y hy => absurd rfl hy⟩
/-- e.f where nothing but the object is asked: through attributeBase (super) and the last hold -/
theorem attr_of {prog : Program} {w : World} {env : Env} {e : Expr} {f : Str} {pos : Pos} {s : Shared} {Q : Value → Shared → Prop} (hb : attributeBase e f env (eval e env) = eval e env)
    (h : wpAny (model prog w) A (eval e env) (fun o s₁ => wpAny (model prog w) A (getAttr o f true) Q E s₁) E s) : wpAny (model prog w) A (eval (.Attribute e f pos) env) Q E s :=
  Attribute_any_ h (by rw [arm_eval_Attribute, hb])
end
/-- e.f, an attribute of the instance -/
def tFld (K : PySem.W.Frag) (ta : TE) (f : Str) : TE := fun σ H Q => ta σ H fun x H1 => ∃ a C dx fs v, x = .ref a ∧ H1 a = some (.ins C dx fs) ∧ Cls K C ∧ NoAttr K C f ∧ fs.lookup f = some v ∧ Q v H1
/-- e.f = value -/
def sFld (K : PySem.W.Frag) (ta tv : TE) (f : Str) : TS := fun D σ H => tv σ H fun y H1 => ta σ H1 fun x H2 => ∃ a C dx fs, x = .ref a ∧ H2 a = some (.ins C dx fs) ∧ Cls K C ∧ NoAttr K C f ∧ fs.length < 1000 ∧
  D.nx σ (upd H2 a (.ins C dx (putF f y fs)))
section
variable {X : Cx} {o e value : Expr} {f : Str} {pos pos' tpos : Pos} {ta tv : TE}
theorem pe_fld (he : PE X e ta) (hb : attributeBase e f X.env (eval e X.env) = eval e X.env) : PE X (.Attribute e f pos) (tFld X.K ta f) := by
  intro pins s σ H Q I h
  refine attr_of hb (thn (he pins s σ H _ I h) fun u s1 ⟨x, H1, I1, rx, a, C, dx, fs, v, ex, ea, c, n, l, q⟩ => ?_)
  subst ex
  obtain rfl : u = Value.ref a := rx
  exact getattr_ok I1 ea c n l fun u' s2 I2 ru => ⟨v, H1, I2, ru, q⟩
theorem ps_fld (ha : PE X o ta) (hv : PE X value tv) (hs : swapsWith value (some (.Attribute o f pos')) pos.line X.env = pure false) : PS X (.Assign [.Attribute o f pos'] value pos) (sFld X.K ta tv f) := by
  intro pins s σ H D I h
  refine plainObj_wpAny_Assign_Attribute (thn (hv pins s σ H _ I h) fun u s1 ⟨y, H1, I1, ry, q⟩ => thn (ha pins s1 σ H1 _ I1 q) fun ov s2 ⟨x, H2, I2, rx, a, C, dx, fs, ex, ea, c, n, l, q2⟩ => ?_) hs
  subst ex
  obtain rfl : ov = Value.ref a := rx
  exact setattr_ok I2 ea c n l ry fun s3 I3 => ⟨σ, _, I3, q2⟩
end
section
variable {X : Cx} {pins : List (Addr × Obj)} {σ : St} {H : Hp} {s : Shared} {A : Around} {E : Value → Shared → Prop} {Q : Value → Shared → Prop} {c : Value} {b : Bool}
/-- the type of a value, as the fragment's deciders take it; for an instance its class -/
inductive TyOf (K : PySem.W.Frag) (H : Hp) : V → Value → Prop where
  | non : TyOf K H .non (.type "NoneType")
  | bl (x : Bool) : TyOf K H (.bl x) (.type "bool")
  | int (i : Int) : TyOf K H (.int i) (.type "int")
  | str (x : Str) : TyOf K H (.str x) (.type "str")
  | flt (x : UInt64) : TyOf K H (.flt x) (.type "float")
  | lst {a : Addr} {xs : List V} (e : H a = some (.lst xs)) : TyOf K H (.ref a) (.type "list")
  | frz {a : Addr} {o : Obj} {xs : List V} (e : H a = some (.frz o (.lst xs))) : TyOf K H (.ref a) (.type "list")
  | tup {a : Addr} {xs : List V} (e : H a = some (.tup xs)) : TyOf K H (.ref a) (.type "tuple")
  | dK {a : Addr} {kvs : List (Key × V)} (e : H a = some (.dK kvs)) : TyOf K H (.ref a) (.type "dict")
  | dT {a : Addr} {kvs : List (List Key × V)} (e : H a = some (.dT kvs)) : TyOf K H (.ref a) (.type "dict")
  | ins {a C dx : Addr} {fs : List (Str × V)} (e : H a = some (.ins C dx fs)) (cl : Cls K C) (ha : PySem.W.findIn K (.ref C) "__class__" = some (some (.builtin "object.__class__")))
      (hn : PySem.W.specialIn K (.builtin "object.__class__") "__get__" = some (some (.builtin "getset_descriptor.__get__"))) (htk : PySem.W.takesIn K (.builtin "object.__class__") = some true)
      (hm : PySem.W.mroIn K C (.type "object") = some true) : TyOf K H (.ref a) (.ref C)
end
end L2
namespace L2
open PySem PySem.Spec PyProof.Rows
structure Room (k : Nat) (A : Around) : Prop where
  hd : A.handled = none
  dp : A.depth + 3 * k + 5 < recursionLimit
  un : A.units + 16 * k + 200 < cLine
theorem Room.mono {j k : Nat} {A : Around} (r : Room k A) (h : j ≤ k) : Room j A := ⟨r.hd, by have := r.dp; omega, by have := r.un; omega⟩
theorem Room.deeper {k : Nat} {A : Around} (r : Room (k + 1) A) (env : Env) : Room k (A.deeper env) :=
  ⟨r.hd, by have := r.dp; show A.depth + 1 + 3 * k + 5 < _; omega, by have := r.un; show A.units + 3 + 16 * k + 200 < _; omega⟩
theorem make_depth {A : Around} {C : Addr} {us : List Value} {kw : List (Str × Value)} : (A.under (.builtin "type.__call__" ⟨.ref C :: us, kw⟩)).depth = A.depth + 1 := by
  first | rfl | simp [Around.under, Code.weight, Code.isCreation, Code.isGuard, Code.isCaller, Code.frames, Code.isFrame, guardIds]
theorem make_units {A : Around} {C : Addr} {us : List Value} {kw : List (Str × Value)} : (A.under (.builtin "type.__call__" ⟨.ref C :: us, kw⟩)).units = A.units + 1 := by
  first | rfl | simp [Around.under, Code.cUnits, Code.frames, Code.isFrame]
theorem Room.make {k : Nat} {A : Around} (r : Room (k + 1) A) (C : Addr) (us : List Value) (kw : List (Str × Value)) : Room k (A.under (.builtin "type.__call__" ⟨.ref C :: us, kw⟩)) :=
  ⟨r.hd, by have := r.dp; rw [make_depth]; omega, by have := r.un; rw [make_units]; omega⟩
theorem Room.depth {k : Nat} {A : Around} (r : Room k A) : A.depth < recursionLimit := by have := r.dp; omega
theorem Room.units {k : Nat} {A : Around} (r : Room k A) : A.units + 64 < cLine := by have := r.un; omega
def tNil : TA := fun _ H Q => Q [] H
def tCons (ta : TE) (tr : TA) : TA := fun σ H Q => ta σ H fun x H1 => tr σ H1 fun xs H2 => Q (x :: xs) H2
section
variable {X : Cx} {e : Expr} {es : List Expr} {te : TE} {t : TA} {pos : Pos}
theorem pa_nil : PA X [] tNil := fun _ _ _ _ H Q I h => Calls.spliced_nil ⟨[], H, I, .nil, h⟩
theorem pa_cons (ha : PE X e te) (hr : PA X es t) (hs : starEach (e :: es) X.env = (false, eval e X.env) :: starEach es X.env := by rfl) : PA X (e :: es) (tCons te t) := by
  intro pos pins s σ H Q I h
  rw [hs]
  show wpAny _ _ (spliced ((false, eval e X.env) :: backTo pos (starEach es X.env))) _ _ s
  refine Calls.spliced_cons (thn (ha pins s σ H _ I h) fun u s1 ⟨x, H1, I1, r1, q1⟩ => ?_)
  exact thn (hr pos pins s1 σ H1 _ I1 q1) fun us s2 ⟨xs, H2, I2, r2, q2⟩ => ⟨x :: xs, H2, I2, .cons r1 r2, q2⟩
/-- a tuple, a list of written items -/
def tTup (t : TA) : TE := fun σ H Q => t σ H fun xs H1 => xs.length ≤ sizeLine ∧ ∀ p, H1 p = none → Q (.ref p) (upd H1 p (.tup xs))
def tLst (t : TA) : TE := fun σ H Q => t σ H fun xs H1 => xs.length ≤ sizeLine ∧ ∀ p, H1 p = none → Q (.ref p) (upd H1 p (.lst xs))
theorem pe_tup {x1} (h : PA X es t) : PE X (.Tuple es x1 pos) (tTup t) := by
  intro pins s σ H Q I hq
  refine wpAny_Tuple_spliced (thn (h pos pins s σ H _ I hq) fun us s1 ⟨xs, H1, I1, r, z, q⟩ => ⟨by rw [← r.length]; exact z, ?_⟩)
  have hf : H1 s1.heap.objs.size = none := I1.hok.fresh (Nat.le_refl _)
  refine ⟨.ref s1.heap.objs.size, upd H1 s1.heap.objs.size (.tup xs), I1.laid (t' := s1.toks) (fun b u e => Heap.get?_push_of_some _ e) (Nat.le_refl _) ?_, rfl, q _ hf⟩
  exact ⟨z, us, r, ⟨_, Heap.get?_push_size _ rfl, rfl, _, rfl⟩⟩
theorem pe_lst (h : PA X es t) : PE X (.List es pos) (tLst t) := by
  intro pins s σ H Q I hq
  refine wpAny_List_spliced (thn (h pos pins s σ H _ I hq) fun us s1 ⟨xs, H1, I1, r, z, q⟩ => ⟨by rw [← r.length]; exact z, ?_⟩)
  have hf : H1 s1.heap.objs.size = none := I1.hok.fresh (Nat.le_refl _)
  refine ⟨.ref s1.heap.objs.size, upd H1 s1.heap.objs.size (.lst xs), I1.laid (t' := s1.toks) (fun b u e => Heap.get?_push_of_some _ e) (Nat.le_refl _) ?_, rfl, q _ hf⟩
  exact ⟨z, us, 0, r, Heap.get?_push_size _ rfl⟩
end
/-- a def's promise: the bound arguments in the parameters' order, the heap, the wanted end, the wanted exception -/
abbrev Sp := List V → Hp → VK → XK → Prop
/-- how an exception lies behind a call (file 08 gives it): the callers' frames, abstract heap and state ahead of the call, the wish, the exception, the state -/
abbrev CXT := List Env → Hp → Shared → XK → Value → Shared → Prop
/-- the state at a call -/
structure Env0 (P : Program) (w : World) (K : PySem.W.Frag) (mg : Str → Option Value) (base : Heap) (A : Around) (outer : List Env) (s : Shared) (H : Hp) : Prop where
  frames : A.frames = some outer
  mod : Mod K mg base
  bs : ∀ b o, base.get? b = some o → s.heap.get? b = some o ∧ H b = none
  bsz : base.objs.size ≤ s.heap.objs.size
  funs : s.heap.FunFrames base outer
  frf : ∀ b ∈ frs outer, H b = none
  hok : HOk P w H s.heap
  bare : AllBare s.gens
/-- a call's end -/
def CE (outer : List Env) (P : Program) (w : World) (H : Hp) (s : Shared) (Q : VK) (u : Value) (s' : Shared) : Prop :=
  ∃ v H', s'.os = s.os ∧ AllBare s'.gens ∧ Un (frs outer) [] H H' s.heap s'.heap ∧ HOk P w H' s'.heap ∧ RelV v u ∧ Q v H'
def CR (CX : CXT) (outer : List Env) (P : Program) (w : World) (H : Hp) (s : Shared) (Q : VK) (E : XK) (r : Result) (s' : Shared) : Prop :=
  match r with
  | .ok (.ret u) => CE outer P w H s Q u s'
  | .ok _ => False
  | .error e => CX outer H s E e s'
structure FnOk (P : Program) (w : World) (K : PySem.W.Frag) (mg : Str → Option Value) (base : Heap) (CX : CXT) (k : Nat) (f : Addr) (fd : FuncData) (ps : List Str) (sp : Sp) : Prop where
  len : ∀ vs H Q E, sp vs H Q E → vs.length = ps.length
  run : ∀ (A : Around) (outer : List Env) (s : Shared) (H : Hp) (args : Args) (us : List Value) (vs : List V) (Q : VK) (E : XK), Room k A → Env0 P w K mg base A outer s H → BindsTo s fd args (ps.zip us) → Vals vs us → sp vs H Q E →
    codeAny (model P w) A (.call (.ref f) args) (CR CX outer P w H s Q E) s
theorem Env0.make {P : Program} {w : World} {K : PySem.W.Frag} {mg : Str → Option Value} {base : Heap} {A : Around} {outer : List Env} {s : Shared} {H : Hp} (e : Env0 P w K mg base A outer s H) (C : Addr) (us : List Value) (kw : List (Str × Value)) :
    Env0 P w K mg base (A.under (.builtin "type.__call__" ⟨.ref C :: us, kw⟩)) outer s H := ⟨by first | exact e.frames | (simpa [Around.under, Code.envs, Code.isFrame, pushEnvs] using e.frames), e.mod, e.bs, e.bsz, e.funs, e.frf, e.hok, e.bare⟩
section
variable {X : Cx} {pins : List (Addr × Obj)} {σ : St} {H : Hp} {s s' : Shared}
/-- from a body: what a callee wants -/
theorem Inv.env0 (I : Inv X pins σ H s) : Env0 X.prog X.w X.K X.mg X.base X.A X.stack s H :=
  ⟨I.ok.frames, I.ok.mod, I.bs, Nat.le_trans I.ok.bsz I.sz, I.stack, I.stkFree, I.hok, I.bare⟩
/-- behind a call -/
theorem Inv.after {Q : VK} {u : Value} (I : Inv X pins σ H s) (h : CE X.stack X.prog X.w H s Q u s') : EP X pins σ Q u s' := by
  obtain ⟨v, H', os, bare, un, hok, r, q⟩ := h
  obtain ⟨hh, g, d, t, os'⟩ := s'
  obtain rfl : os' = s.os := os
  exact ⟨v, H', I.call (h' := hh) (g' := g) (d' := d) (t' := t) (ch := []) un hok bare (fun b z => absurd z (by simp)), r, q⟩
end
/-- f(..): the written arguments, then the defaults dvs; E: what is wanted of an exception -/
def tCall (sp : Sp) (dvs : List V) (E : XK) (t : TA) : TE := fun σ H Q => t σ H fun vs H1 => sp (vs ++ dvs) H1 Q E
/-- o.m(..) of an instance of the class at C -/
def tMeth (C : Addr) (m : Str) (sp : Sp) (dvs : List V) (E : XK) (ta : TE) (t : TA) : TE := fun σ H Q => ta σ H fun x H1 => ∃ a dx fs, x = .ref a ∧ H1 a = some (.ins C dx fs) ∧ fs.lookup m = none ∧
  t σ H1 fun vs H2 => sp (x :: (vs ++ dvs)) H2 Q E
/-- C(..): a new instance and its dict, then __init__ -/
def tMake (C : Addr) (sp : Sp) (dvs : List V) (E : XK) (t : TA) : TE := fun σ H Q => t σ H fun vs H1 => ∀ x dx, H1 x = none → H1 dx = none → dx ≠ x →
  sp (.ref x :: (vs ++ dvs)) (upd (upd H1 dx (.own x)) x (.ins C dx [])) (fun v H2 => v = .non ∧ Q (.ref x) H2) E
/-- how the parameters are bound: us the positional arguments, kw the keywords' values by name, ds the defaults that fill up -/
def Binds (K : PySem.W.Frag) (fd : FuncData) (ps : List Str) (ds : List Value) : Prop :=
  ∀ (s : Shared) (us : List Value), K.In s.heap → (us ++ ds).length = ps.length → BindsTo s fd ⟨us, []⟩ (ps.zip (us ++ ds))
/-- every parameter is given -/
theorem Binds.all {K : PySem.W.Frag} {fd : FuncData} {ps : List Str} (h : ∀ us : List Value, us.length = ps.length → bindArgs fd ⟨us, []⟩ = pure (ps.zip us)) : Binds K fd ps [] := fun s us _ hl => by
  rw [List.append_nil] at hl ⊢
  exact .of_eq (h us hl)
/-- an exception of a callee reaches what this body wants of exceptions -/
def Passes (CX : CXT) (X : Cx) (E : XK) : Prop := ∀ (pins : List (Addr × Obj)) (σ : St) (H : Hp) (s : Shared) (e : Value) (s' : Shared), Inv X pins σ H s → CX X.stack H s E e s' → X.xe e s'
section
variable {X : Cx} {CX : CXT} {k : Nat} {f C : Addr} {fd : FuncData} {ps : List Str} {sp : Sp} {dvs : List V} {ds : List Value} {E : XK} {x m : Str} {p pos apos : Pos} {e o : Expr} {es : List Expr} {ta : TE} {t : TA}
/-- the callee runs -/
theorem run_fn {pins : List (Addr × Obj)} {σ : St} {H : Hp} {s : Shared} {Q : VK} {us : List Value} {vs : List V} (F : FnOk X.prog X.w X.K X.mg X.base CX k f fd ps sp) (hr : Room k X.A) (hb : Binds X.K fd ps ds) (hd : Vals dvs ds) (hx : Passes CX X E)
    (I : Inv X pins σ H s) (r : Vals vs us) (h : sp (vs ++ dvs) H Q E) : wpAny (model X.prog X.w) X.A (call (.ref f) us) (EP X pins σ Q) X.xe s := by
  have r2 : Vals (vs ++ dvs) (us ++ ds) := r.append hd
  have hl : (us ++ ds).length = ps.length := by rw [← r2.length]; exact F.len _ _ _ _ h
  refine wpAny_call (codeAny_mono (F.run X.A X.stack s H ⟨us, []⟩ (us ++ ds) (vs ++ dvs) Q E hr I.env0 (hb s us I.kIn hl) r2 h) fun r s' hq => ?_)
  cases r with
  | error e => exact hx pins σ H s e s' I hq
  | ok fl =>
    cases fl with
    | ret u => exact I.after hq
    | next => exact False.elim hq
    | brk => exact False.elim hq
    | cont => exact False.elim hq
theorem pe_call (F : FnOk X.prog X.w X.K X.mg X.base CX k f fd ps sp) (hr : Room k X.A) (hg : Gl X x) (hm : X.mg x = some (.ref f)) (hk : PySem.W.keepIn X.K (.ref f) = true) (hb : Binds X.K fd ps ds) (hd : Vals dvs ds) (hx : Passes CX X E)
    (ha : PA X (e :: es) t) (hdb : (x == ("__debug__" : Str)) = false := by decide) (he : starEach (e :: es) X.env = (false, eval e X.env) :: starEach es X.env := by rfl) (hpl : (backTo pos (starEach es X.env)).any (·.1) = false := by rfl) :
    PE X (.Call (.Name x p) (e :: es) [] pos) (tCall sp dvs E t) := by
  intro pins s σ H Q I h
  refine wpAny_Call_Name_kw (ld_glob I hg hm ?_ hdb)
  refine PySem.W.callWith_K (h₀ := X.base) I.ok.mod.kin hk (thn (ha pos pins s σ H _ I h) fun us s1 ⟨vs, H1, I1, r, q⟩ => ⟨I1.kIn, ?_⟩) he hpl
  exact run_fn F hr hb hd hx I1 r q
/-- o.m() -/
theorem pe_meth0 {pl : Sem Bool} (he : PE X o ta) (c : Cls X.K C) (hm : Meth X.K C m f) (F : FnOk X.prog X.w X.K X.mg X.base CX k f fd ps sp) (hr : Room k X.A) (hb : Binds X.K fd ps ds) (hd : Vals dvs ds) (hx : Passes CX X E)
    (ht : eval (.Call (.Attribute o m apos) [] [] pos) X.env = (do
      let ov ← eval o X.env
      standAt apos.atName
      let (f, first) ← holding [ov] (getMethod ov m pl)
      callWith pos f first (backTo pos (starEach [] X.env)) (backToKw pos (keywordEach [] X.env))) := by rfl) :
    PE X (.Call (.Attribute o m apos) [] [] pos) (tMeth C m sp dvs E ta tNil) := by
  intro pins s σ H Q I h
  refine PySem.W.methodCall_KW (pl := pl) (thn (he pins s σ H _ I h) fun u s1 ⟨x, H1, I1, rx, a, dx, fs, ex, ea, l, q⟩ => ?_) ht
  subst ex
  obtain rfl : u = Value.ref a := rx
  refine getmeth_ok I1 ea c hm l ?_
  exact PySem.W.callWith_K0 (first := [.ref a]) I1.kIn hm.kp (run_fn (us := [.ref a]) (vs := [.ref a]) F hr hb hd hx I1 (.cons rfl .nil) q)
/-- what a class must have to be made -/
structure Mk (K : PySem.W.Frag) (C f : Addr) : Prop where
  makes : PySem.W.makesIn K C = true
  init : PySem.W.findIn K (.ref C) "__init__" = some (some (.ref f))
  fn : PySem.W.isFn K (.ref f) = true
  kp : PySem.W.keepIn K (.ref C) = true
theorem run_make {pins : List (Addr × Obj)} {σ : St} {H : Hp} {s : Shared} {Q : VK} {us : List Value} {vs : List V} (M : Mk X.K C f) (F : FnOk X.prog X.w X.K X.mg X.base CX k f fd ps sp) (hr : Room (k + 1) X.A) (hb : Binds X.K fd ps ds) (hd : Vals dvs ds)
    (hx : Passes CX X E) (I : Inv X pins σ H s) (r : Vals vs us)
    (h : ∀ x dx, H x = none → H dx = none → dx ≠ x → sp (.ref x :: (vs ++ dvs)) (upd (upd H dx (.own x)) x (.ins C dx [])) (fun v H2 => v = .non ∧ Q (.ref x) H2) E) :
    wpAny (model X.prog X.w) X.A (call (.ref C) us) (EP X pins σ Q) X.xe s := by
  have hq := h (s.heap.objs.size + 1) s.heap.objs.size (I.hok.fresh (Nat.le_succ _)) (I.hok.fresh (Nat.le_refl _)) (Nat.ne_of_lt (Nat.lt_succ_self _))
  have I2 := Inv.made (C := C) I
  have r2 : Vals (V.ref (s.heap.objs.size + 1) :: (vs ++ dvs)) (Value.ref (s.heap.objs.size + 1) :: (us ++ ds)) := .cons rfl (r.append hd)
  have hl : (Value.ref (s.heap.objs.size + 1) :: us ++ ds).length = ps.length := by
    have e := r2.length
    rw [F.len _ _ _ _ hq] at e
    exact e.symm
  refine wpAny_call (make_map (f := f) I.kIn M.makes M.init (beq_iff_eq.mp M.fn) (codeAny_mono (F.run _ X.stack _ _ ⟨Value.ref (s.heap.objs.size + 1) :: us, []⟩ (Value.ref (s.heap.objs.size + 1) :: (us ++ ds)) _ _ E (hr.make C us [])
    (I2.env0.make C us []) (hb _ (Value.ref (s.heap.objs.size + 1) :: us) I2.kIn hl) r2 hq) fun r s' hq' => ?_))
  cases r with
  | error e => exact hx pins σ _ _ e s' I2 hq'
  | ok fl =>
    cases fl with
    | ret u =>
      obtain ⟨v, H', I3, rv, ev, q3⟩ := I2.after hq'
      subst ev
      exact ⟨rv, ⟨V.ref (s.heap.objs.size + 1), H', I3, rfl, q3⟩⟩
    | next => exact False.elim hq'
    | brk => exact False.elim hq'
    | cont => exact False.elim hq'
theorem pe_make (M : Mk X.K C f) (F : FnOk X.prog X.w X.K X.mg X.base CX k f fd ps sp) (hr : Room (k + 1) X.A) (hg : Gl X x) (hm : X.mg x = some (.ref C)) (hb : Binds X.K fd ps ds) (hd : Vals dvs ds) (hx : Passes CX X E)
    (ha : PA X (e :: es) t) (hdb : (x == ("__debug__" : Str)) = false := by decide) (he : starEach (e :: es) X.env = (false, eval e X.env) :: starEach es X.env := by rfl) (hpl : (backTo pos (starEach es X.env)).any (·.1) = false := by rfl) :
    PE X (.Call (.Name x p) (e :: es) [] pos) (tMake C sp dvs E t) := by
  intro pins s σ H Q I h
  refine wpAny_Call_Name_kw (ld_glob I hg hm ?_ hdb)
  refine PySem.W.callWith_K (h₀ := X.base) I.ok.mod.kin M.kp (thn (ha pos pins s σ H _ I h) fun us s1 ⟨vs, H1, I1, r, q⟩ => ⟨I1.kIn, ?_⟩) he hpl
  exact run_make M F hr hb hd hx I1 r q
end
section
variable {X : Cx} {CX : CXT} {k : Nat} {f C : Addr} {fd : FuncData} {ps ks : List Str} {sp : Sp} {E : XK} {x m : Str} {p pos apos kpos : Pos} {e o : Expr} {es : List Expr} {kws : List Keyword} {te ta : TE} {t tk : TA} {nm : Option Str}
/-- how a call with keywords binds: g puts the positional values us and the keywords' values ws (names ks) in the parameters' order, defaults among them -/
structure KBinds (K : PySem.W.Frag) (fd : FuncData) (ps ks : List Str) (g : List Value → List Value → List Value) (gV : List V → List V → List V) : Prop where
  to : ∀ (s : Shared) (us ws : List Value), K.In s.heap → (g us ws).length = ps.length → BindsTo s fd ⟨us, ks.zip ws⟩ (ps.zip (g us ws))
  rel : ∀ {vs : List V} {us : List Value} {zs : List V} {ws : List Value}, Vals vs us → Vals zs ws → Vals (gV vs zs) (g us ws)
variable {g : List Value → List Value → List Value} {gV : List V → List V → List V}
end
/-- names: the parameters first -/
structure FnScope (N P : List Str) (sc : Scope) : Prop where
  kind : sc.kind = .function
  co : sc.isCoroutine = false
  gen : sc.isGenerator = false
  nd : N.Nodup
  pre : N.take P.length = P
  par : ∀ x ∈ P, sc.names.lookup x = some .local ∨ sc.names.lookup x = some .cell
  nofree : ∀ y ∈ sc.names, y.2 ≠ .free
theorem bindL_out {kindOf : Str → Option NameKind} {x : Str} : ∀ {binds : List (Str × Value)} {m : Str → Option Value}, (∀ v, (x, v) ∉ binds) → bindL kindOf binds m x = m x
  | [], _, _ => rfl
  | (n, v) :: r, m, h => by
    unfold bindL
    rw [bindL_out fun w hw => h w (List.mem_cons_of_mem _ hw)]
    split
    · have : x ≠ n := by rintro rfl; exact h v List.mem_cons_self
      simp [this]
    · rfl
theorem bindC_out {kindOf : Str → Option NameKind} {x : Str} : ∀ {binds : List (Str × Value)} {m : Str → Option Value}, (∀ v, (x, v) ∉ binds) → bindC kindOf binds m x = m x
  | [], _, _ => rfl
  | (n, v) :: r, m, h => by
    unfold bindC
    rw [bindC_out fun w hw => h w (List.mem_cons_of_mem _ hw)]
    split
    · rfl
    · have : x ≠ n := by rintro rfl; exact h v List.mem_cons_self
      simp [this]
theorem bindL_get {kindOf : Str → Option NameKind} {x : Str} {v : Value} : ∀ {P : List Str} {vs : List Value} {i : Nat} {m : Str → Option Value}, P.Nodup → P[i]? = some x → vs[i]? = some v → kindOf x = some .local →
    bindL kindOf (P.zip vs) m x = some v
  | [], _, _, _, _, h, _, _ => by simp at h
  | _ :: _, [], _, _, _, _, h, _ => by simp at h
  | p :: P, w :: vs, 0, m, nd, h1, h2, hk => by
    simp at h1 h2; subst h1; subst h2
    show bindL kindOf ((p, w) :: P.zip vs) m p = _
    unfold bindL
    rw [bindL_out fun v hv => (List.nodup_cons.mp nd).1 (List.of_mem_zip hv).1, if_pos hk]
    simp
  | p :: P, w :: vs, i + 1, m, nd, h1, h2, hk => by
    show bindL kindOf ((p, w) :: P.zip vs) m x = _
    unfold bindL
    exact bindL_get (i := i) (List.nodup_cons.mp nd).2 (by simpa using h1) (by simpa using h2) hk
theorem bindC_get {kindOf : Str → Option NameKind} {x : Str} {v : Value} : ∀ {P : List Str} {vs : List Value} {i : Nat} {m : Str → Option Value}, P.Nodup → P[i]? = some x → vs[i]? = some v → kindOf x ≠ some .local →
    bindC kindOf (P.zip vs) m x = some v
  | [], _, _, _, _, h, _, _ => by simp at h
  | _ :: _, [], _, _, _, _, h, _ => by simp at h
  | p :: P, w :: vs, 0, m, nd, h1, h2, hk => by
    simp at h1 h2; subst h1; subst h2
    show bindC kindOf ((p, w) :: P.zip vs) m p = _
    unfold bindC
    rw [bindC_out fun v hv => (List.nodup_cons.mp nd).1 (List.of_mem_zip hv).1, if_neg hk]
    simp
  | p :: P, w :: vs, i + 1, m, nd, h1, h2, hk => by
    show bindC kindOf ((p, w) :: P.zip vs) m x = _
    unfold bindC
    exact bindC_get (i := i) (List.nodup_cons.mp nd).2 (by simpa using h1) (by simpa using h2) hk
/-- the names' values at the entry -/
def start (N : List Str) (vs : List V) : St := vs.map some ++ List.replicate (N.length - vs.length) none
/-- the context of a def's body, at its entry; an exception leaves the frame, then lies as CX says -/
def cxOf (CX : CXT) (P : Program) (w : World) (K : PySem.W.Frag) (mg : Str → Option Value) (base : Heap) (N : List Str) (qual : Str) (scope : Scope) (f : Addr) (cd : Value) (A : Around) (outer : List Env) (s : Shared) (H : Hp) (E : XK) : Cx where
  prog := P
  w := w
  K := K
  mg := mg
  base := base
  A := A.deeper (envOfC qual scope s.heap.objs.size f cd)
  N := N
  s₀ := s
  H₀ := H
  env := envOfC qual scope s.heap.objs.size f cd
  outer := outer
  stack := envOfC qual scope s.heap.objs.size f cd :: outer
  ex := []
  calm := true
  fn := fun _ => true
  pn := []
  xe := fun e s' => wpAny (model P w) (A.deeper (envOfC qual scope s.heap.objs.size f cd)) (leaving (envOfC qual scope s.heap.objs.size f cd) e) (fun _ s'' => CX outer H s E e s'') (fun e' s'' => CX outer H s E e' s'') s'
theorem cell_has {sc : Scope} {n : Nat} {x : Str} (h : sc.names.lookup x = some .cell) : ∃ c, (cellsFrom n sc.names []).lookup x = some c := by
  have q := PySem.W.cellsFrom_some sc.names n [] (.inl h)
  exact Option.isSome_iff_exists.mp q
theorem inv_start {CX : CXT} {P : Program} {w : World} {K : PySem.W.Frag} {mg : Str → Option Value} {base : Heap} {N ps : List Str} {qual : Str} {scope : Scope} {f : Addr} {cd : Value} {A : Around} {outer : List Env} {s s1 : Shared} {H : Hp} {E : XK} {us : List Value} {vs : List V}
    (S : FnScope N ps scope) (hd : A.handled = none) (e0 : Env0 P w K mg base A outer s H) (hl : vs.length = ps.length) (r : Vals vs us)
    (x : InCallC s s.heap.objs.size (bindL (envOfC qual scope s.heap.objs.size f cd).kindOf (ps.zip us) fun _ => none) (cellsFrom (s.heap.objs.size + 1) scope.names []) (bindC (envOfC qual scope s.heap.objs.size f cd).kindOf (ps.zip us) fun _ => none) s1) :
    Inv (cxOf CX P w K mg base N qual scope f cd A outer s H E) [] (start N vs) H s1 := by
  have hpl : ps.length ≤ N.length := by have := congrArg List.length S.pre; rw [List.length_take] at this; omega
  obtain ⟨h1, tk, rfl, hk⟩ := x.done
  have noA : ∀ b : Addr, b ∉ (cxOf CX P w K mg base N qual scope f cd A outer s H E).ex := fun b z => absurd (show b ∈ ([] : List Addr) from z) (by simp)
  refine ⟨⟨e0.mod, S.kind, rfl, rfl, Nat.le_refl _, fun y z c h1 h2 => ?_, fun y hy => ?_, fun y c _ h => ?_, fun _ => hd, Around.frames_deeper e0.frames, .inr ⟨rfl, rfl⟩, fun b z => absurd z (noA b), e0.bs, e0.bsz, fun b _ _ => noA b, fun b z => absurd z (noA b), e0.funs, e0.frf⟩,
    rfl, e0.bare, Un.kept hk, ⟨_, x.toInCall.ns, fun i y v h1 h2 h3 => ?_⟩, fun y c h => ⟨_, x.cell y c h⟩, e0.hok.fresh (Nat.le_refl _), fun y c h => ?_, fun p hp => absurd (show p ∈ ([] : List (Addr × Obj)) from hp) (by simp), e0.hok.kept hk, ?_⟩
  · exact name_of_addr x.apart (PySem.mem_of_lookup h1) (PySem.mem_of_lookup h2)
  · have hy : scope.names.lookup y = some .cell ∨ scope.names.lookup y = some .free := hy
    rcases hy with hy | hy
    · exact cell_has hy
    · exact absurd rfl (S.nofree _ (PySem.mem_of_lookup hy))
  · exact Nat.le_of_lt (x.above y c (PySem.mem_of_lookup h))
  · have hi : i < vs.length := by
      unfold start at h2
      by_cases hi : i < vs.length
      · exact hi
      · rw [List.getElem?_append_right (by simpa using hi)] at h2
        rw [List.getElem?_replicate] at h2
        split at h2 <;> cases h2
    have ha : vs[i]? = some v := by
      unfold start at h2
      rw [List.getElem?_append_left (by simpa using hi), List.getElem?_map] at h2
      cases e : vs[i]? with
      | none => rw [e] at h2; cases h2
      | some a => rw [e] at h2; cases h2; rfl
    obtain ⟨u, hu, rv⟩ := r.get ha
    have hp : ps[i]? = some y := by
      rw [← S.pre, List.getElem?_take_of_lt (by omega)]; exact h1
    have ndP : ps.Nodup := by rw [← S.pre]; exact S.nd.sublist (List.take_sublist _ _)
    refine ⟨u, rv, ?_⟩
    rcases S.par y (List.mem_of_getElem? hp) with k | k
    · exact .inl ⟨k, bindL_get ndP hp hu k⟩
    · obtain ⟨c, e⟩ := cell_has (n := s.heap.objs.size + 1) k
      refine .inr ⟨.inl k, c, e, ?_⟩
      have q := x.cell y c e
      rw [bindC_get ndP hp hu (by show scope.names.lookup y ≠ _; rw [k]; decide)] at q
      exact q
  · exact e0.hok.fresh (Nat.le_of_lt (x.above y c (PySem.mem_of_lookup h)))
  · unfold start
    show _ = N.length
    rw [List.length_append, List.length_map, List.length_replicate]
    omega
/-- THE RULE: a def (or a method) of the text, by its body. The body's reading t is chosen for each entry; it is run at the parameters' values -/
theorem fn_of {CX : CXT} {P : Program} {w : World} {K : PySem.W.Frag} {mg : Str → Option Value} {base : Heap} {k : Nat} {f : Addr} {name qual : Str} {params : Arguments} {body : List Stmt} {scope : Scope} {dV kV doc pm cdv ct oc : Value} {an od : Option Addr}
    {osl : Array (Option Value)} {N ps : List Str} {sp : Sp} (lk : K.lookup f = some ⟨oc, od, .func (PySem.W.fnOf name qual params body scope dV kV doc pm an cdv ct), osl⟩) (hcd : PySem.W.codeIn K cdv qual = true) (S : FnScope N ps scope)
    (len : ∀ vs H Q E, sp vs H Q E → vs.length = ps.length)
    (hbody : ∀ (A : Around) (outer : List Env) (s : Shared) (H : Hp) (vs : List V) (Q : VK) (E : XK), Room k (A.deeper (envOfC qual scope s.heap.objs.size f cdv)) → sp vs H Q E →
      ∃ t, PSs (cxOf CX P w K mg base N qual scope f cdv A outer s H E) body t ∧ t { nx := fun _ H' => Q .non H', rt := Q } (start N vs) H) :
    FnOk P w K mg base CX (k + 1) f (PySem.W.fnOf name qual params body scope dV kV doc pm an cdv ct) ps sp := by
  refine ⟨len, fun A outer s H args us vs Q E hr e0 hb r hsp => ?_⟩
  have hl := len _ _ _ _ hsp
  have KX : K.In s.heap := e0.mod.kin.keeps fun b o e => (e0.bs b o e).1
  have lim : s.heap.NoLimit := e0.mod.nolimit.keeps fun b o e => (e0.bs b o e).1
  have hkind : ∀ y ∈ ps.zip us, scope.names.lookup y.1 = some .local ∨ (scope.names.lookup y.1 = some .cell ∧ ((cellsFrom (s.heap.objs.size + 1) scope.names []).lookup y.1).isSome = true) := fun ⟨n, v⟩ hy => by
    rcases S.par n (List.of_mem_zip hy).1 with q | q
    · exact .inl q
    · exact .inr ⟨q, PySem.W.cellsFrom_some _ _ _ (.inl q)⟩
  refine codeAny_call_function hr.depth (KX _ _ lk) rfl S.co S.gen rfl (PySem.W.codeRec_of KX hcd) (hb _ _ _ _ ?_)
  refine wpAny_newFunctionEnv_cells S.kind hkind fun env he s1 x => ?_
  subst he
  refine ⟨lim.keeps x.toInCall.keep, codeAny_func ?_⟩
  obtain ⟨t, ht, hq⟩ := hbody A outer s H vs Q E (hr.deeper _) hsp
  have I : Inv (cxOf CX P w K mg base N qual scope f cdv A outer s H E) [] (start N vs) H s1 := inv_start S hr.hd e0 hl r x
  refine wpAny_mono (ht [] s1 (start N vs) H _ I hq) (fun fl s' hs => ?_) fun e s' hs => hs
  have fin : ∀ {σ' : St} {H' : Hp} {v : V} {u : Value}, Inv (cxOf CX P w K mg base N qual scope f cdv A outer s H E) [] σ' H' s' → RelV v u → Q v H' → CE outer P w H s Q u s' :=
    fun {σ' H' v u} J rv q => ⟨v, H', J.os, J.bare, J.base, J.hok, rv, q⟩
  cases fl with
  | ret u =>
    obtain ⟨v, σ', H', J, rv, q⟩ := hs
    exact fin J rv q
  | next =>
    obtain ⟨σ', H', J, q⟩ := hs
    exact fin (v := V.non) (u := Value.none) J rfl q
  | brk =>
    obtain ⟨_, _, _, q⟩ := hs
    exact False.elim q
  | cont =>
    obtain ⟨_, _, _, q⟩ := hs
    exact False.elim q
end L2
namespace L2
open PySem PySem.Spec PyProof.Rows
section
variable {X : Cx} {x : Str} {p pos : Pos} {e : Expr} {es : List Expr} {t : TA} {id T : String} {r : List V → Hp → VK → Prop}
def tCB (r : List V → Hp → VK → Prop) (t : TA) : TE := fun σ H Q => t σ H fun vs H1 => r vs H1 Q
/-- f(e, ..), f a built-in function -/
theorem pe_callB (hc : CallR X (.builtin id) r) (hg : Gl X x) (hm : X.mg x = none) (hv : bootBuiltins x = some (.builtin id)) (ha : PA X (e :: es) t) (hn : x ≠ "__name__" := by decide) (hdb : (x == ("__debug__" : Str)) = false := by decide)
    (he : starEach (e :: es) X.env = (false, eval e X.env) :: starEach es X.env := by rfl) (hpl : (backTo pos (starEach es X.env)).any (·.1) = false := by rfl) : PE X (.Call (.Name x p) (e :: es) [] pos) (tCB r t) := by
  intro pins s σ H Q I h
  refine wpAny_Call_Name_kw (ld_blt I hg hm hv ?_ hn hdb)
  exact PyProof.Rows.callWith_builtin1 (thn (ha pos pins s σ H _ I h) fun us s1 ⟨vs, H1, I1, r1, q1⟩ => hc pins s1 σ H1 vs us Q I1 r1 q1) he hpl
end
end L2
namespace HT
open PySem PyProof.Rows
theorem rcLt_int (A : Around) (s : Shared) (a : Int) (t : Tok) (c : Int) (u : Tok) (prog : Program) (w : World) (E : Value → Shared → Prop) (Q : Value → Shared → Prop) (h : Q (.bool (decide (a < c))) s) :
    wpAny (model prog w) A (richCompare .Lt (.int a t) (.int c u)) Q E s :=
  (PyProof.Rows.lt_int h : wpAny (model prog w) A (compareOp .Lt (.int a t) (.int c u)) Q E s)
section
open PySem.SeqAt
open PySem.AutoSeq1 (wpAny_loadPart')
open PySem.MeetsSeq PySem.MeetsSeq2 PySem.MeetsSeq3
end
section
variable {prog : Program} {w : World} {A : Around} {E : Value → Shared → Prop} {s : Shared}
/-- t + u, t not empty -/
theorem cat_tup {t b : Addr} {vs ws : List Value} {Q : Value → Shared → Prop} (ht : IsTup s.heap t vs.toArray) (hb : IsTup s.heap b ws.toArray) (hv : vs ≠ [])
    (h1 : ws = [] → Q (.ref t) s) (h2 : ws ≠ [] → Q (.ref s.heap.objs.size) { s with heap := s.heap.push { cls := .type "tuple", data := .seq (vs ++ ws).toArray } })
    (hsz : vs.length + ws.length ≤ sizeLine) : wpAny (model prog w) A (binaryOp .Add (.ref t) (.ref b)) Q E s := by
  obtain ⟨⟨cls, dd, data, sl⟩, ho, hc, n, hd⟩ := id ht
  obtain ⟨⟨cls2, dd2, data2, sl2⟩, ho2, hc2, n2, hd2⟩ := id hb
  simp only at hc hd hc2 hd2
  subst hc hd hc2 hd2
  have e : vs.toArray ++ ws.toArray = (vs ++ ws).toArray := by simp
  by_cases hw : ws = []
  · exact concat_meets ⟨_, ho, rfl⟩ ⟨_, ho2, rfl⟩ noFill_tuple_add seq_tuple_add PySem.F.slot_tuple_add PySem.F.entry_tuple_add (PySem.F.args_tuple_add_2 _ _)
      (tuple_addW1 t b vs.toArray ws.toArray n n2 dd dd2 sl sl2 (by simpa using hv) (by simp [hw])) ⟨ho, ho2, h1 hw⟩
  · refine concat_meets ⟨_, ho, rfl⟩ ⟨_, ho2, rfl⟩ noFill_tuple_add seq_tuple_add PySem.F.slot_tuple_add PySem.F.entry_tuple_add (PySem.F.args_tuple_add_2 _ _)
      (tuple_addW2 t b vs.toArray ws.toArray n n2 dd dd2 sl sl2 (by simpa using hv) (by simpa using hw) (by rw [List.size_toArray, List.size_toArray]; exact hsz)) ⟨ho, ho2, ?_⟩
    rw [e]
    exact h2 hw
end
end HT
namespace L2
open PySem PySem.Spec PyProof.Rows
section
variable {X : Cx} {e : Expr} {te : TE} {lo hi : Option Expr} {tl th : TO} {pos p2 : Pos}
/-- t + u, t not empty: u empty gives t itself -/
def rCatT (K : PySem.W.Frag) : R2 := fun x y H Q => ∃ a b xs ys, x = .ref a ∧ y = .ref b ∧ SqT K H a xs ∧ SqT K H b ys ∧ xs ≠ [] ∧ xs.length + ys.length ≤ sizeLine ∧
  (ys = [] → Q (.ref a) H) ∧ (ys ≠ [] → ∀ p, H p = none → Q (.ref p) (upd H p (.tup (xs ++ ys))))
theorem Vals.nil_iff {xs : List V} {us : List Value} (r : Vals xs us) : us = [] ↔ xs = [] := by
  cases r with
  | nil => simp
  | cons _ _ => simp
theorem op_catT : OpR X (binaryOp .Add) (rCatT X.K) := by
  intro pins s σ H x y v u Q I rx ry h
  obtain ⟨a, b, xs, ys, rfl, rfl, ha, hb, hx, hz, q1, q2⟩ := h
  cases rx
  cases ry
  obtain ⟨its, r1, p1, _⟩ := I.tuple ha
  obtain ⟨its2, r2, p2, _⟩ := I.tuple hb
  refine HT.cat_tup p1 p2 (fun z => hx (r1.nil_iff.mp z)) (fun z => ⟨.ref a, H, I, rfl, q1 (r2.nil_iff.mp z)⟩) (fun z => ?_) (by rw [← r1.length, ← r2.length]; exact hz)
  refine ⟨.ref s.heap.objs.size, _, I.laid (t' := s.toks) (o := .tup (xs ++ ys)) (fun b ob q => Heap.get?_push_of_some _ q) (Nat.le_refl _) ?_, rfl, q2 (fun w => z (r2.nil_iff.mpr w)) _ (I.hok.fresh (Nat.le_refl _))⟩
  exact ⟨by rw [List.length_append]; exact hz, _, r1.append r2, IsTup.new _ _⟩
end
end L2
namespace L2
open PySem PySem.Spec PyProof.Rows
/-- the place that an index of any sign means -/
def ixN (n : Nat) (i : Int) : Option Nat := if 0 ≤ i then (if i < n then some i.toNat else none) else if -(n : Int) ≤ i then some (i + n).toNat else none
def atI {α : Type} (xs : List α) (i : Int) : Option α := (ixN xs.length i).bind fun j => xs[j]?
theorem ixN_seq {n : Nat} {i : Int} {j : Nat} (h : ixN n i = some j) : seqIndex? i n = some j ∧ j < n ∧ -(n : Int) ≤ i ∧ i < n := by
  unfold ixN at h
  by_cases h0 : 0 ≤ i
  · rw [if_pos h0] at h
    by_cases h1 : i < n
    · rw [if_pos h1] at h
      have e : i.toNat = j := Option.some.inj h
      exact ⟨by rw [seqIndex_of h0 h1, e], by omega, by omega, h1⟩
    · rw [if_neg h1] at h; cases h
  · rw [if_neg h0] at h
    by_cases h1 : -(n : Int) ≤ i
    · rw [if_pos h1] at h
      have e : (i + n).toNat = j := Option.some.inj h
      exact ⟨by rw [seqIndex_neg (by omega) h1, e], by omega, h1, by omega⟩
    · rw [if_neg h1] at h; cases h
theorem atI_get {α : Type} {xs : List α} {i : Int} {v : α} (h : atI xs i = some v) : ∃ j, seqIndex? i xs.length = some j ∧ xs[j]? = some v ∧ j < xs.length ∧ -(xs.length : Int) ≤ i ∧ i < xs.length := by
  unfold atI at h
  cases e : ixN xs.length i with
  | none => rw [e] at h; cases h
  | some j =>
    rw [e] at h
    obtain ⟨h1, h2, h3, h4⟩ := ixN_seq e
    exact ⟨j, h1, h, h2, h3, h4⟩
theorem atI_nat {α : Type} {xs : List α} {j : Nat} {v : α} (h : xs[j]? = some v) : atI xs (j : Int) = some v := by
  have hj : j < xs.length := (List.getElem?_eq_some_iff.mp h).1
  have e : ixN xs.length (j : Int) = some j := by
    unfold ixN
    rw [if_pos (by omega), if_pos (by omega)]; simp
  unfold atI; rw [e]; exact h
/-- what stands as an index of a plain subscript -/
def PlainIx (b : Expr) : Prop := ∀ o i, subscripted b false o i = operate [o, i] (getItem o i)
/-- a subscript by values -/
def IxR (X : Cx) (r : R2) : Prop :=
  ∀ (value slice : Expr) (pins : List (Addr × Obj)) (s : Shared) (σ : St) (H : Hp) (x y : V) (v u : Value) (Q : VK), Inv X pins σ H s → RelV x v → RelV y u → r x y H Q →
    subscripted slice false v u = operate [v, u] (getItem v u) → wpAny (model X.prog X.w) X.A (subscriptTail value slice v u) (EP X pins σ Q) X.xe s
/-- a call of a builtin's method by values: the receiver, the arguments -/
def MtR (X : Cx) (id : String) (r : V → List V → Hp → VK → Prop) : Prop :=
  ∀ (pins : List (Addr × Obj)) (s : Shared) (σ : St) (H : Hp) (x : V) (xs : List V) (v : Value) (us : List Value) (Q : VK), Inv X pins σ H s → RelV x v → Vals xs us → r x xs H Q →
    wpAny (model X.prog X.w) X.A (call (.builtin id) (v :: us)) (EP X pins σ Q) X.xe s
section
variable {X : Cx} {a b : Expr} {ta tb : TE} {pos : Pos}
/-- a[b] -/
theorem pe_ix {r : R2} (hr : IxR X r) (ha : PE X a ta) (hb : PE X b tb) (hs : PlainIx b) : PE X (.Subscript a b pos) (tOp r ta tb) := by
  intro pins s σ H Q I h
  exact Subscript_ (binT ha hb I h fun v u s2 x y H2 I2 rx ry q => hr a b pins s2 σ H2 x y v u Q I2 rx ry q (hs _ _))
def rIxL (K : PySem.W.Frag) : R2 := fun x y H Q => ∃ p xs i v, x = .ref p ∧ y = .int i ∧ SqL K H p xs ∧ atI xs i = some v ∧ Q v H
def rIxT (K : PySem.W.Frag) : R2 := fun x y H Q => ∃ p xs i v, x = .ref p ∧ y = .int i ∧ SqT K H p xs ∧ atI xs i = some v ∧ Q v H
theorem ix_list : IxR X (rIxL X.K) := by
  intro value slice pins s σ H x y v u Q I rx ry h hs
  obtain ⟨p, xs, i, z, rfl, rfl, hq, he, q⟩ := h
  cases rx
  obtain ⟨t, rfl⟩ := ry
  obtain ⟨its, r, pl, hz⟩ := I.list hq
  obtain ⟨j, h1, h2, h3, h4, h5⟩ := atI_get he
  obtain ⟨w, ew, rw'⟩ := r.get h2
  have hl := r.length
  have hn := line63
  have fin : EP X pins σ Q w s := ⟨z, H, I, rw', q⟩
  by_cases h0 : 0 ≤ i
  · have hj : i.toNat = j := by
      rw [seqIndex_of h0 h5] at h1
      exact Option.some.inj h1
    exact item_listR pl.isList h0 (by omega) (by rw [hj]; simpa using ew) fin hs
  · have hj : (i + (its.toArray.size : Int)).toNat = j := by
      rw [seqIndex_neg (by omega) h4] at h1
      rw [List.size_toArray, ← hl]
      exact Option.some.inj h1
    exact subscriptTail_builtinR (x := w) pl.isList.typeIs slot_list_getitem.lookup
      (wpAny_getItem_list_neg (Q := fun r s' => r = w ∧ EP X pins σ Q r s') pl.isList (by omega) (by rw [List.size_toArray] <;> omega) (by omega) (by rw [hj]; simpa using ew) ⟨rfl, fin⟩) hs
theorem ix_tup : IxR X (rIxT X.K) := by
  intro value slice pins s σ H x y v u Q I rx ry h hs
  obtain ⟨p, xs, i, z, rfl, rfl, hq, he, q⟩ := h
  cases rx
  obtain ⟨t, rfl⟩ := ry
  obtain ⟨its, r, pl, hz⟩ := I.tuple hq
  obtain ⟨j, h1, h2, h3, h4, h5⟩ := atI_get he
  obtain ⟨w, ew, rw'⟩ := r.get h2
  have hl := r.length
  have hn := line63
  have fin : EP X pins σ Q w s := ⟨z, H, I, rw', q⟩
  exact subscriptTail_builtinR (x := w) pl.typeIs slot_tuple_getitem.lookup
    (getItem_tuple (j := j) (Q := fun r s' => r = w ∧ EP X pins σ Q r s') pl (by omega) (by omega) (by rw [List.size_toArray, ← hl]; exact h1) (by simpa using ew) ⟨rfl, fin⟩) hs
theorem call_len_seq : CallR X (.builtin "len") (fun xs H Q => ∃ p ys, xs = [.ref p] ∧ (SqL X.K H p ys ∨ SqT X.K H p ys) ∧ Q (.int ys.length) H) := by
  intro pins s σ H xs us Q I r h
  obtain ⟨p, ys, rfl, hq, q⟩ := h
  obtain ⟨u, rfl, rx⟩ := vals1 r
  cases rx
  have hn := line63
  rcases hq with hq | hq
  · obtain ⟨its, r', pl, hz⟩ := I.list hq
    have hlen := r'.length
    exact Calls.call_len_list pl.isList (by simp only [List.size_toArray] <;> omega) ⟨.int ys.length, H, I.tok _, ⟨s.toks + 1, by rw [List.size_toArray, hlen]⟩, q⟩
  · obtain ⟨its, r', pl, hz⟩ := I.tuple hq
    have hlen := r'.length
    exact len_tuple pl (by simp only [List.size_toArray] <;> omega) ⟨.int ys.length, H, I.tok _, ⟨s.toks + 1, by rw [List.size_toArray, hlen]⟩, q⟩
/-- the value is of that builtin type -/
def tyV (K : PySem.W.Frag) (T : String) (x : V) (H : Hp) : Prop := match x with
  | .str _ => T = "str"
  | .int _ => T = "int"
  | .ref p => (T = "list" ∧ ∃ xs, SqL K H p xs) ∨ (T = "tuple" ∧ ∃ o, K.lookup p = some o ∧ o.cls = .type "tuple" ∧ o.dict = none) ∨
      (T = "dict" ∧ ((∃ kvs, H p = some (.dK kvs)) ∨ ∃ kvs, H p = some (.dT kvs))) ∨ (T = "set" ∧ ∃ S n, H p = some (.set S n))
  | _ => False
theorem tyV_is {pins : List (Addr × Obj)} {σ : St} {H : Hp} {s : Shared} {T : String} {x : V} {v : Value} (I : Inv X pins σ H s) (r : RelV x v) (ty : tyV X.K T x H) :
    s.TypeIs v T ∧ ∀ a, v = .ref a → ∃ ob, s.heap.get? a = some ob ∧ ob.dict = none := by
  cases x with
  | str z =>
    obtain ⟨t, rfl⟩ := r
    cases (show T = "str" from ty)
    exact ⟨typeIs_str s z t, fun _ e => nomatch e⟩
  | int i =>
    obtain ⟨t, rfl⟩ := r
    cases (show T = "int" from ty)
    exact ⟨typeIs_int s i t, fun _ e => nomatch e⟩
  | ref p =>
    cases r
    rcases ty with ⟨rfl, xs, hq⟩ | ⟨rfl, o, hk, hc, hd⟩ | ⟨rfl, hk⟩ | ⟨rfl, S, n, hk⟩
    · obtain ⟨its, _, pl, _⟩ := I.list hq
      refine ⟨pl.isList.typeIs, fun a e => ?_⟩
      cases e
      obtain ⟨o, n, e, c, hd, _⟩ := pl
      exact ⟨o, e, hd⟩
    · refine ⟨⟨o, I.kIn p o hk, hc⟩, fun a e => ?_⟩
      cases e
      exact ⟨o, I.kIn _ o hk, hd⟩
    · have z : ∃ o, s.heap.get? p = some o ∧ o.ExactDict := by
        rcases hk with ⟨kvs, hk⟩ | ⟨kvs, hk⟩
        · obtain ⟨_, _, _, _, o, _, _, e, ex, _⟩ := I.hok p _ hk
          exact ⟨o, e, ex⟩
        · obtain ⟨_, _, _, _, o, _, _, e, ex, _⟩ := I.hok p _ hk
          exact ⟨o, e, ex⟩
      obtain ⟨o, e, ex⟩ := z
      refine ⟨⟨o, e, ex.1⟩, fun a e2 => ?_⟩
      cases e2
      exact ⟨o, e, ex.2.1⟩
    · obtain ⟨o, _, _, _, e, ex, _⟩ := I.hok p _ hk
      refine ⟨⟨o, e, ex.1⟩, fun a e2 => ?_⟩
      cases e2
      exact ⟨o, e, ex.2.1⟩
  | _ => exact False.elim ty
def tBM0 (K : PySem.W.Frag) (T : String) (r : V → List V → Hp → VK → Prop) (to : TE) : TE := fun σ H Q => to σ H fun x H1 => tyV K T x H1 ∧ r x [] H1 Q
def tBM (K : PySem.W.Frag) (T : String) (r : V → List V → Hp → VK → Prop) (to : TE) (t : TA) : TE := fun σ H Q => to σ H fun x H1 => tyV K T x H1 ∧ t σ H1 fun xs H2 => r x xs H2 Q
variable {o e : Expr} {es : List Expr} {to : TE} {t : TA} {name : Str} {apos cpos : Pos} {T id : String} {r : V → List V → Hp → VK → Prop}
theorem pe_bm0 (pa : PlainAttrs T) (slot : Slot T name id) (hty : typeOf (.builtin id) = pure (.type "method_descriptor")) (hm : MtR X id r) (ho : PE X o to)
    (hbase : attributeBase o name X.env (eval o X.env) = eval o X.env := by rfl) (hline : (apos.endLine == cpos.line) = true := by rfl) : PE X (.Call (.Attribute o name apos) [] [] cpos) (tBM0 X.K T r to) := by
  intro pins s σ H Q I h
  refine wpAny_Call_method0_late hbase hline (thn (ho pins s σ H _ I h) fun v s1 ⟨x, H1, I1, r1, ty, q1⟩ => ?_)
  obtain ⟨h1, h2⟩ := tyV_is I1 r1 ty
  exact ⟨T, id, pa, slot, hty, h1, h2, Calls.callWith_builtin rfl (PySem.evalArgs_none (hm pins s1 σ H1 x [] v [] Q I1 r1 .nil q1))⟩
theorem pe_bm (pa : PlainAttrs T) (slot : Slot T name id) (hty : typeOf (.builtin id) = pure (.type "method_descriptor")) (hm : MtR X id r) (ho : PE X o to) (ha : PA X (e :: es) t)
    (hbase : attributeBase o name X.env (eval o X.env) = eval o X.env := by rfl)
    (hfew : ((backTo cpos (starEach (e :: es) X.env)).all (fun x => !x.1) && (backToKw cpos (keywordEach [] X.env)).all (fun x => x.1.isSome)
      && decide ((e :: es).length + ([] : List Keyword).length + (if ([] : List Keyword).isEmpty then 0 else 1) < 30)) = true := by rfl)
    (hline : (apos.endLine == cpos.line) = true := by rfl) (hs : starEach (e :: es) X.env = (false, eval e X.env) :: starEach es X.env := by rfl) (hplain : (backTo cpos (starEach es X.env)).any (·.1) = false := by rfl) :
    PE X (.Call (.Attribute o name apos) (e :: es) [] cpos) (tBM X.K T r to t) := by
  intro pins s σ H Q I h
  refine wpAny_Call_method_late hbase hfew hline rfl (thn (ho pins s σ H _ I h) fun v s1 ⟨x, H1, I1, r1, ty, q1⟩ => ?_)
  obtain ⟨h1, h2⟩ := tyV_is I1 r1 ty
  refine ⟨T, id, pa, slot, hty, h1, h2, ?_⟩
  have hA := ha cpos pins s1 σ H1 _ I1 q1
  rw [hs] at hA ⊢
  refine Calls.callWith_builtin (by show (false || (backTo cpos (starEach es X.env)).any (·.1)) = false; rw [hplain] <;> rfl) (Calls.evalArgs_plain ?_)
  exact thn hA fun us s2 ⟨vs, H2, I2, r2, q2⟩ => hm pins s2 σ H2 x vs v us Q I2 r1 r2 q2
/- xs.append(e), list.index on a module's tuple .. are MtR facts of 06m -/
end
end L2
namespace L2
open PySem PySem.Spec PyProof.Rows
def MtM (X : Cx) (id : String) (r : V → List V → Hp → VK → Prop) : Prop :=
  ∀ (pins : List (Addr × Obj)) (s : Shared) (σ : St) (H : Hp) (x : V) (xs : List V) (v : Value) (us : List Value) (Q : VK), Inv X pins σ H s → RelV x v → Vals xs us → r x xs H Q →
    wpAny (model X.prog X.w) X.A (call (.builtin id) (v :: us)) (EP X pins σ Q) X.xe s
theorem Vals.one : ∀ {x : V} {us : List Value}, Vals [x] us → ∃ u, us = [u] ∧ RelV x u
  | _, _, .cons r .nil => ⟨_, rfl, r⟩
section
variable {X : Cx} {pins : List (Addr × Obj)} {σ : St} {H : Hp} {s : Shared} {l b : Addr} {xs ys zs : List V}
theorem Inv.lset {its its' : List Value} {n : Nat} {f : Array Value → Array Value} {t' : Nat} (I : Inv X pins σ H s) (hH : H l = some (.lst xs))
    (e : s.heap.get? l = some { cls := .type "list", data := .seq its.toArray n }) (hf : f its.toArray = its'.toArray) (hv : Vals ys its') (hz : ys.length ≤ sizeLine) :
    Inv X pins σ (upd H l (.lst ys)) { s with heap := s.heap.update l (Obj.mapSeq f), toks := t' } := by
  have q := PySem.IsL.update e f
  rw [hf] at q
  refine I.write (x := l) (e := l) (by rw [hH]; exact trivial) (.inl rfl) (fun b' u hb hu => (Heap.get?_update_other s.heap (Obj.mapSeq f) (Ne.symm hb)).trans hu) ⟨_, q⟩ ?_
  exact ⟨hz, its', _, hv, q⟩
theorem Inv.lnew {its : List Value} {t' : Nat} (I : Inv X pins σ H s) (hv : Vals ys its) (hz : ys.length ≤ sizeLine) :
    Inv X pins σ (upd H s.heap.objs.size (.lst ys)) { s with heap := s.heap.push { cls := .type "list", data := .seq its.toArray }, toks := t' } :=
  I.laid (fun _ _ q => Heap.get?_push_of_some _ q) (Nat.le_refl _) ⟨hz, its, 0, hv, Heap.get?_push_size _ rfl⟩
theorem Inv.lstM (I : Inv X pins σ H s) (hH : H l = some (.lst xs)) : xs.length ≤ sizeLine ∧ ∃ (its : List Value) (n : Nat), Vals xs its ∧ xs.length = its.length ∧ s.heap.get? l = some { cls := .type "list", data := .seq its.toArray n } := by
  obtain ⟨z, its, n, r, e⟩ := I.hok l _ hH
  exact ⟨z, its, n, r, r.length, e⟩
end
section
variable {X : Cx}
def rAppend : V → List V → Hp → VK → Prop := fun x vs H Q => ∃ l xs y, x = .ref l ∧ vs = [y] ∧ H l = some (.lst xs) ∧ xs.length < sizeLine ∧ Q .non (upd H l (.lst (xs ++ [y])))
theorem mt_append : MtM X "list.append" rAppend := by
  intro pins s σ H x vs v us Q I rx rv h
  obtain ⟨l, xs, y, rfl, rfl, hH, hz, q⟩ := h
  cases rx
  obtain ⟨u, rfl, ru⟩ := rv.one
  obtain ⟨z, its, n, r, hl, e⟩ := I.lstM hH
  refine call_meets F.slot_list_append ⟨_, e, rfl⟩ F.entry_list_append (F.args_list_append_2 _ _) (PySem.list_append l its.toArray n u (by rw [List.size_toArray]; omega)) ⟨e, ?_⟩
  refine ⟨.non, _, I.lset (its' := its ++ [u]) hH e (by simp) (r.append (.cons ru .nil)) ?_, rfl, q⟩
  rw [List.length_append, List.length_singleton]
  omega
end
section
variable {prog : Program} {w : World} {A : Around} {E : Value → Shared → Prop} {s : Shared}
end
section
variable {X : Cx}
end
end L2
namespace Att
open PySem PySem.W PySem.Calls PyProof.Rows
theorem ints_of_wellAll {P : Params} {h : Heap} : ∀ (ns : List Int) (vs : List Value), WellAll P h vs (ns.map WData.int) → IntsAre vs ns := by
  intro ns
  induction ns with
  | nil =>
    intro vs w
    rw [List.map_nil] at w
    cases w
    exact .nil
  | cons n ns ih =>
    intro vs w
    rw [List.map_cons] at w
    cases w with
    | cons a b =>
      cases a
      exact .cons _ _ (ih _ b)
theorem script_of {l : OpenLaw} {n : Nat} (hn : l.most = some n) {P : Params} {h : Heap} {args : List WData} {vals : List Value}
    (hpre : l.row.toRowW.claim.pre args = true) (hwl : WellAll P h vals args) :
    ∃ a vs ns, vals = [Value.ref a] ∧ args = [WData.list (ns.map WData.int)] ∧ h.get? a = some { cls := .type "list", data := .seq vs.toArray } ∧ IntsAre vs ns ∧ ns.length ≤ n := by
  have hsh : WShape.hasAll [] args [.list .int] = true := (pre_splitW hpre).1
  have hc : l.pre.holds [] { args := args } = true := (pre_splitW hpre).2
  obtain ⟨d, r, rfl, h1, h2⟩ := hasAllW_cons hsh
  obtain rfl := hasAllW_nil h2
  obtain ⟨xs, rfl, h3⟩ := hasW_list h1
  obtain ⟨ns, rfl⟩ := items_int h3
  have hlen : ns.length ≤ n := by
    unfold OpenLaw.pre at hc
    have h4 : (WTm.not (.lt (.lit (.int (n : Int))) (.len (.arg 0)))).holds [] { args := [.list (ns.map .int)] } = true := by
      have h4 := (holds_andW hc).1
      rw [hn] at h4
      exact h4
    have h5 := condW_of h4 (w_not (w_lt w_lit (w_len_list (w_arg rfl))))
    rw [List.length_map] at h5
    refine Nat.le_of_not_lt fun q => ?_
    have q' : (n : Int) < ((ns.length : Nat) : Int) := by omega
    first
      | (rw [decide_eq_true q'] at h5; exact absurd h5 (by decide))
      | (simp at h5; omega)
  cases hwl with
  | cons w1 w2 =>
    cases w2
    cases w1 with
    | list ho hall => exact ⟨_, _, ns, rfl, rfl, ho, ints_of_wellAll ns _ hall, hlen⟩
theorem post_true (l : OpenLaw) (args : List WData) : l.row.toRowW.claim.post args (.bool true) args = true :=
  postW_of (r := l.row.toRowW) (X := (true == true))
    (show WShape.has [] (.bool true) .bool = true by first | rfl | decide | simp [WShape.has, WShape.arms, WShape.armsAll])
    (show (WTm.eq .res (.lit (.bool true))).value [] { args := args, res := some (.bool true), after := args } = some (.bool (true == true)) from w_eq_bool (w_res rfl) w_lit) rfl
/-- the same from a codeAny of the CALL (for a layer whose function contracts speak of calls) -/
theorem attach_call {l : OpenLaw} {n : Nat} {q : Program} {loose : List Str} {XP : (Str → Option Value) → Heap → Prop} {YP : World → Heap → Prop} {d : DefRec}
    (hn : l.most = some n) (hdf : d.params.defaults = [])
    (call : ∀ (w : World) (s₀ s₁ : Shared) (mg mb : Str → Option Value) (fa : Addr) (o : Obj) (pm cd doc : Value) (a : Addr) (vs : List Value) (ns : List Int),
      Ground q loose [] XP w s₀ mg mb s₁.heap → YP w s₁.heap →
      s₁.heap.get? fa = some o → o.data = .func (docDef d.name d.params d.body d.scope pm cd doc) → s₁.heap.CodeRec cd d.name → mg d.name = some (.ref fa) →
      s₁.heap.get? a = some { cls := .type "list", data := .seq vs.toArray } → IntsAre vs ns → ns.length ≤ n → s₁.gens = #[] →
      codeAny (model l.prog w) callerA (.call (.ref fa) ⟨[.ref a], []⟩) (fun r s' => r = .ok (.ret (.bool true)) ∧ OldK s₁.heap s'.heap ∧ s'.os = s₁.os ∧ AllBare s'.gens) s₁) :
    WalkO q loose XP YP l.row.toRowW d [] (fun f vs => PySem.call f vs) := by
  intro w s₀ s₁ mg mb G Y fa o pm cd doc dV kV ho hd hcd hD hmg hg args vals as hpre hlay hrd hwl hlo
  obtain rfl : dV = .none := Dflts.none hD hdf
  obtain rfl : kV = .none := Dflts.noKw hD
  obtain ⟨a, vs, ns, rfl, rfl, hobj, hints, hlen⟩ := script_of hn hpre hwl
  refine enter_call (codeAny_mono (call w s₀ s₁ mg mb fa o pm cd doc a vs ns G Y ho (fd_plain hd) hcd hmg hobj hints hlen hg) fun r s' hq => ?_)
  obtain ⟨rfl, h2, h3, h4⟩ := hq
  exact ⟨.inl ⟨.bool true, .bool true, [], rfl, fun _ => rfl, .bool true, post_true l _, fun _ => ⟨List.Pairwise.nil, fun _ hm => (nomatch hm)⟩⟩, h2, h3, h4⟩
section
variable {prog : Program} {w : World} {A : Around} {E : Value → Shared → Prop} {s : Shared} {K : Frag}
end
end Att
namespace L2
open PySem PySem.Spec PyProof.Rows
theorem vals_ints : ∀ {vs : List Value} {ns : List Int}, IntsAre vs ns → Vals (ns.map V.int) vs
  | _, _, .nil => .nil
  | _, _, .cons n t h => .cons ⟨t, rfl⟩ (vals_ints h)
/-- nothing is tracked but the script, known to the object (or it is an object of the module) -/
def Only (H : Hp) : Prop := ∀ b, H b = none ∨ ∃ o xs, H b = some (.frz o (.lst xs))
/-- THE HEAD: the law's promise, at the heap behind the top. F, the promise of the law's def, may use that base is part of the heap (so K.In base, base.Ns mainGlobals mg stand in Mod) -/
theorem law_call {P : Program} {w : World} {K : PySem.W.Frag} {mg mb : Str → Option Value} {CX : CXT} {k : Nat} {fa a : Addr} {fd : FuncData} {x : Str} {sp : Sp} {s₁ : Shared} {vs : List Value} {ns : List Int}
    (KX : K.In s₁.heap) (hns : s₁.heap.Ns mainGlobals mg) (hb : s₁.heap.Ns builtinsNs mb) (hbb : ∀ x : Str, x ≠ "__name__" → mb x = bootBuiltins x) (hlim : s₁.heap.NoLimit) (hg : s₁.gens = #[])
    (ha : s₁.heap.get? a = some { cls := .type "list", data := .seq vs.toArray }) (hi : IntsAre vs ns) (hl : ns.length ≤ sizeLine) (hr : Room k callerA)
    (F : ∀ base : Heap, K.In base → base.Ns mainGlobals mg → FnOk P w K mg base CX k fa fd [x] sp) (hbind : ∀ (s : Shared) (u : Value), BindsTo s fd ⟨[u], []⟩ [(x, u)])
    (hsp : ∀ H : Hp, Only H → SqL K H a (ns.map V.int) → sp [.ref a] H (fun v _ => v = .bl true) fun _ _ _ => False)
    (hCX : ∀ H e s', CX [] H s₁ (fun _ _ _ => False) e s' → False) :
    codeAny (model P w) callerA (.call (.ref fa) ⟨[.ref a], []⟩) (fun r s' => r = .ok (.ret (.bool true)) ∧ OldK s₁.heap s'.heap ∧ s'.os = s₁.os ∧ AllBare s'.gens) s₁ := by
  have rv := vals_ints hi
  have lenV := hi.length
  -- from an abstract heap in which nothing but the script may be tracked
  have core : ∀ H : Hp, Only H → SqL K H a (ns.map V.int) → HOk P w H s₁.heap → (∀ b, H b ≠ none → b = a) → (H a ≠ none → K.lookup a = none) →
      codeAny (model P w) callerA (.call (.ref fa) ⟨[.ref a], []⟩) (fun r s' => r = .ok (.ret (.bool true)) ∧ OldK s₁.heap s'.heap ∧ s'.os = s₁.os ∧ AllBare s'.gens) s₁ := by
    intro H hO hS hok hA hK
    have base_of : ∀ {b : Addr} {o : Obj}, s₁.heap.get? b = some o → H b = none → (hidT s₁.heap H).get? b = some o := fun e n => hidT_get e n
    have noA : ∀ {b : Addr} {o : Obj} {es : Array DictEntry} {ep : Nat}, s₁.heap.get? b = some o → o.data = .dict es ep → H b = none := fun {b o es ep} e d => by
      cases q : H b with
      | none => rfl
      | some u =>
        have e' : b = a := hA b (by rw [q]; simp)
        subst e'
        rw [ha] at e; cases e
        have d' : Data.seq vs.toArray _ = Data.dict es ep := d
        cases d'
    have nsK : ∀ {b : Addr} {m : Str → Option Value}, s₁.heap.Ns b m → (hidT s₁.heap H).Ns b m := fun {b m} ⟨o, es, ep, e, d, r⟩ => ⟨o, es, ep, base_of e (noA e d), d, r⟩
    have hKb : K.In (hidT s₁.heap H) := fun b o e => base_of (KX b o e) (by
      cases q : H b with
      | none => rfl
      | some u =>
        have e' : b = a := hA b (by rw [q]; simp)
        subst e'
        rw [hK (by rw [q]; simp)] at e; cases e)
    have hM : Mod K mg (hidT s₁.heap H) := ⟨hKb, nsK hns, ⟨mb, nsK hb, hbb⟩, let ⟨mc, h1, h2⟩ := hlim; ⟨mc, nsK h1, h2⟩⟩
    have e0 : Env0 P w K mg (hidT s₁.heap H) callerA [] s₁ H := ⟨rfl, hM, fun b o e => of_hidT e, Nat.le_of_eq (hidT_size _ _), trivial, fun b hb => absurd (show b ∈ ([] : List Addr) from hb) (by simp), hok, .of_eq hg⟩
    refine codeAny_mono ((F _ hKb (nsK hns)).run callerA [] s₁ H ⟨[.ref a], []⟩ [.ref a] [.ref a] _ _ hr e0 (hbind s₁ (.ref a)) (.cons rfl .nil) (hsp H hO hS)) fun r s' h => ?_
    cases r with
    | error e => exact (hCX H e s' h).elim
    | ok fl =>
      cases fl with
      | next => exact False.elim h
      | brk => exact False.elim h
      | cont => exact False.elim h
      | ret u =>
        obtain ⟨v, H', os, bare, un, hok', r', q⟩ := h
        have q' : v = .bl true := q
        subst q'
        obtain rfl : u = Value.bool true := r'
        refine ⟨rfl, OldK.of_keep fun b o e => ?_, os, bare⟩
        cases q : H b with
        | none => exact un.keep b o e q (by intro z; exact absurd (show b ∈ ([] : List Addr) from z) (by simp)) (by simp)
        | some u =>
          rcases hO b with z | ⟨ob, xs, z⟩
          · rw [q] at z; cases z
          · have z2 := un.frzs b ob _ z
            obtain ⟨e1, _⟩ := hok b _ z
            obtain ⟨e2, _⟩ := hok' b _ z2
            rw [e] at e1; cases e1
            exact e2
  cases hk : K.lookup a with
  | some o =>
    -- the script is one of the module's own objects
    have e := KX a o hk
    rw [ha] at e
    cases e
    refine core (fun _ => none) (fun _ => .inl rfl) (.inr ⟨_, vs.toArray, _, hk, rfl, rfl, rfl, by rw [List.size_toArray, lenV]; exact hl, by simpa using rv⟩) (fun b u z => by have z' : (none : Option HO) = some u := z; cases z') (fun b z => absurd rfl z) fun z => absurd rfl z
  | none =>
    refine core (fun b => if b = a then some (.frz { cls := .type "list", data := .seq vs.toArray } (.lst (ns.map V.int))) else none) (fun b => ?_) (.inl (.inr ⟨{ cls := .type "list", data := .seq vs.toArray }, if_pos rfl⟩)) (fun b u z => ?_) (fun b z => ?_) fun _ => hk
    · by_cases hb : b = a
      · exact .inr ⟨_, _, if_pos hb⟩
      · exact .inl (if_neg hb)
    · by_cases hb : b = a
      · have z' := (if_pos hb).symm.trans z
        cases z'
        subst hb
        exact ⟨ha, by rw [List.length_map]; exact hl, vs, _, rv, ha⟩
      · have z' := (if_neg hb).symm.trans z
        cases z'
    · by_cases hb : b = a
      · exact hb
      · exact absurd (if_neg hb) z
end L2
namespace L2
open PySem PySem.Spec PyProof.Rows
/-- the goal that k_head leaves (case hc), from the law's promise. F gives the function object fd (K's own) once, then the promise over every base -/
theorem walk_of {l : PySem.W.OpenLaw} {n k : Nat} {q : Program} {loose : List Str} {XP : (Str → Option Value) → Heap → Prop} {YP : World → Heap → Prop} {d : DefRec} {K : Params → PySem.W.Frag} {CX : World → CXT} {sp : World → Sp} {x : Str}
    (hn : l.most = some n) (hn2 : n ≤ sizeLine) (hdf : d.params.defaults = []) (hr : Room k callerA)
    (hY : ∀ (w : World) (h : Heap), YP w h → (K w.params).In h)
    (F : ∀ (w : World) (mg : Str → Option Value) (fa : Addr) (h : Heap), (K w.params).In h → h.Ns mainGlobals mg → mg d.name = some (.ref fa) →
      ∃ fd : FuncData, (∀ (s : Shared) (u : Value), BindsTo s fd ⟨[u], []⟩ [(x, u)]) ∧
        ∀ base : Heap, (K w.params).In base → base.Ns mainGlobals mg → FnOk l.prog w (K w.params) mg base (CX w) k fa fd [x] (sp w))
    (hsp : ∀ (w : World) (H : Hp) (a : Addr) (ns : List Int), ns.length ≤ n → Only H → SqL (K w.params) H a (ns.map V.int) → sp w [.ref a] H (fun v _ => v = .bl true) fun _ _ _ => False)
    (hCX : ∀ (w : World) (H : Hp) (s : Shared) (e : Value) (s' : Shared), CX w [] H s (fun _ _ _ => False) e s' → False) :
    PySem.W.WalkO q loose XP YP l.row.toRowW d [] (fun f vs => PySem.call f vs) := by
  refine Att.attach_call hn hdf fun w s₀ s₁ mg mb fa o pm cd doc a vs ns G Y ho hd hcd hmg hobj hints hlen hg => ?_
  have KX := hY w _ Y
  obtain ⟨fd, hb, hF⟩ := F w mg fa _ KX G.T.g hmg
  exact law_call KX G.T.g G.T.b G.T.builtins G.T.nolimit hg hobj hints (Nat.le_trans hlen hn2) hr hF hb (fun H hO hS => hsp w H a ns hlen hO hS) fun H e s' => hCX w H s₁ e s'
end L2
/- THE LAST THEOREM (shape; LID, My.* are yours):
   My.Adr: a structure of the addresses that your layer names (classes, functions); My.Txt K t: a structure (Prop) of the equations over K;
   My.txt_mk : {K} {implicit addresses ..} (e1 : nsIn K mainGlobals "law" = some (some (.ref f))) (e2 : K.lookup f = some ⟨oc, od, .func (fnOf "law" "law" params body scope dV kV doc pm an cdv ct), sl⟩) (e3 : codeIn K cdv "law" = true) .. : ∃ t, My.Txt K t
set_option maxRecDepth 100000 in
set_option maxHeartbeats 0 in
theorem PySem.Challenge.cw_LID_holds : PySem.Challenge.rw_LID.Holds := by
  w_on; o_law; k_head; (case hw => w_witness2)
  k_fill
  refine L2.walk_of (l := PySem.Challenge.rw_LID) (n := 63) (k := 40) (x := "script") (CX := fun w => ..) (sp := fun _ => My.sp_law) rfl (by decide) rfl ⟨rfl, by decide, by decide⟩ (fun w h Y => PySem.W.kIn_of Y) ?F ?S ?C
  case F =>
    intro w mg fa h KX G hmg
    have T : ∃ t, My.Txt (L2.KOf KX) t := by
      dsimp only [L2.KOf]                          -- K must stand as «<heap const> w.params» for k_is
      refine' My.txt_mk ?e1 ?e2 ?e3 ..
      (case e1 => PySem.W.k_is)                    -- in the order: a name -> its address -> its object -> its parts
      (case e2 => PySem.W.k_is)
      ..
    obtain ⟨t, T⟩ := T
    have e0 := hmg.symm.trans (PySem.W.mg_of KX G T.law)
    cases e0                                       -- fa is the law's own address
    exact ⟨_, fun s u => .of_eq rfl, fun base kb nb => My.law_fn T kb nb⟩     -- if «.of_eq rfl» comes too early: refine' ⟨_, ?b, fun base kb nb => My.law_fn T kb nb⟩; exact fun s u => .of_eq rfl
  case S => exact fun w H a ns hl hO hS => ..
  case C => exact ..
(the tactic k_is has no namespace: write k_is) -/
namespace L2
open PySem PySem.Spec PyProof.Rows
/-- the j-th statement of a class's body -/
def inClass (s : Stmt) (j : Nat) : Stmt := match s with
  | .ClassDef _ _ _ body _ _ _ _ _ _ _ => body.getD j (.Pass ⟨0, 0, 0, 0⟩)
  | _ => .Pass ⟨0, 0, 0, 0⟩
def defArgs (s : Stmt) : Arguments := match s with
  | .FunctionDef _ a _ _ _ _ _ _ _ _ => a
  | _ => { posonlyargs := [], args := [], vararg := none, kwonlyargs := [], kw_defaults := [], kwarg := none, defaults := [] }
def defBody (s : Stmt) : List Stmt := match s with
  | .FunctionDef _ _ b _ _ _ _ _ _ _ => b
  | _ => []
def defScope (s : Stmt) : Scope := match s with
  | .FunctionDef _ _ _ _ _ _ sc _ _ _ => sc
  | _ => { kind := .function, names := [], isGenerator := false, isCoroutine := false }
abbrev CX0 : CXT := fun _ _ _ _ _ _ => False
abbrev E0 : XK := fun _ _ _ => False
theorem pass0 {X : Cx} : Passes CX0 X E0 := fun _ _ _ _ _ _ _ h => h.elim
structure Fun (K : PySem.W.Frag) (x qual : Str) (st : Stmt) (f : Addr) (fd : FuncData) : Prop where
  ex : ∃ (oc : Value) (od : Option Addr) (kV doc pm : Value) (an : Option Addr) (cdv ct : Value) (osl : Array (Option Value)),
    fd = PySem.W.fnOf x qual (defArgs st) (defBody st) (defScope st) .none kV doc pm an cdv ct ∧ K.lookup f = some ⟨oc, od, .func fd, osl⟩ ∧ PySem.W.codeIn K cdv qual = true
  kp : PySem.W.keepIn K (.ref f) = true
section
variable {P : Program} {w : World} {K : PySem.W.Frag} {mg : Str → Option Value} {base : Heap}
/-- THE RULE for a def: its body as a term of rules, and the reading of that term -/
theorem Fun.ok {x qual : Str} {st : Stmt} {f : Addr} {fd : FuncData} {N ps : List Str} {k : Nat} {sp : Sp} (F : Fun K x qual st f fd) (S : FnScope N ps (defScope st)) (len : ∀ vs H Q E, sp vs H Q E → vs.length = ps.length)
    (hbody : ∀ (cdv : Value) (A : Around) (outer : List Env) (s : Shared) (H : Hp) (vs : List V) (Q : VK) (E : XK), Room k (A.deeper (envOfC qual (defScope st) s.heap.objs.size f cdv)) → sp vs H Q E →
      ∃ t, PSs (cxOf CX0 P w K mg base N qual (defScope st) f cdv A outer s H E).nox (defBody st) t ∧ t { nx := fun _ H' => Q .non H', rt := Q } (start N vs) H) : FnOk P w K mg base CX0 (k + 1) f fd ps sp := by
  obtain ⟨oc, od, kV, doc, pm, an, cdv, ct, osl, rfl, lk, hcd⟩ := F.ex
  refine fn_of lk hcd S len fun A outer s H vs Q E hr hsp => ?_
  obtain ⟨t, h, q⟩ := hbody cdv A outer s H vs Q E hr hsp
  exact ⟨t, h.nox, q⟩
theorem fun_mk {x qual : Str} {st : Stmt} {f : Addr} {oc : Value} {od an : Option Addr} {osl : Array (Option Value)} {kV doc pm cdv ct : Value} (l : K.lookup f = some ⟨oc, od, .func (PySem.W.fnOf x qual (defArgs st) (defBody st) (defScope st) .none kV doc pm an cdv ct), osl⟩)
    (c : PySem.W.codeIn K cdv qual = true) (k : PySem.W.keepIn K (.ref f) = true) : Fun K x qual st f (PySem.W.fnOf x qual (defArgs st) (defBody st) (defScope st) .none kV doc pm an cdv ct) := ⟨⟨oc, od, kV, doc, pm, an, cdv, ct, osl, rfl, l, c⟩, k⟩
end
section
variable {X : Cx}
theorem pv (i : Nat) {x : Str} {pos : Pos} (hN : X.N[i]? = some x := by rfl) (hv : Vis X.env.scope x := by first | exact Or.inl rfl | exact Or.inr (Or.inl rfl) | exact Or.inr (Or.inr rfl)) (hd : (x == ("__debug__" : Str)) = false := by decide)
    (hcd : (x == ("__classdict__" : Str)) = false := by decide) : PE X (.Name x pos) (tVar i) := pe_var hN hv hd hcd
end
theorem iteF {A B : Prop} (h : B) : if false = true then A else B := by
  rw [if_neg Bool.false_ne_true]
  exact h
theorem ite2 {c A B : Prop} [Decidable c] (h1 : c → A) (h2 : ¬ c → B) : if c then A else B := by
  by_cases h : c
  · rw [if_pos h]
    exact h1 h
  · rw [if_neg h]
    exact h2 h
theorem iteNS {c A B : Prop} [Decidable c] (hc : c) (h : B) : if (!decide c) = true then A else B := by
  rw [decide_eq_true hc]
  exact iteF h
/-- all that was tracked is as it was -/
def Same (H H' : Hp) : Prop := ∀ b o, H b = some o → H' b = some o
theorem Same.refl (H : Hp) : Same H H := fun _ _ h => h
theorem Same.trans {H H1 H2 : Hp} (a : Same H H1) (b : Same H1 H2) : Same H H2 := fun c o h => b c o (a c o h)
theorem Same.seq {K : PySem.W.Frag} {H H' : Hp} {a : Addr} {xs : List V} (e : Same H H') (h : SqL K H a xs) : SqL K H' a xs := by
  rcases h with (h | ⟨o, h⟩) | h
  · exact .inl (.inl (e _ _ h))
  · exact .inl (.inr ⟨o, e _ _ h⟩)
  · exact .inr h
end L2
namespace L2
open PySem PySem.Spec PyProof.Rows
theorem bt_isinstance : bootBuiltins "isinstance" = some (.builtin "isinstance") := by decide +kernel
theorem bt_len : bootBuiltins "len" = some (.builtin "len") := by decide +kernel
theorem bt_min : bootBuiltins "min" = some (.builtin "min") := by decide +kernel
theorem bt_sorted : bootBuiltins "sorted" = some (.builtin "sorted") := by decide +kernel
theorem bt_ValueError : bootBuiltins "ValueError" = some (.type "ValueError") := by decide +kernel
end L2
namespace L2
open PySem PySem.Spec PyProof.Rows
theorem log2_of {n k : Nat} (hk : 0 < k) (h : n < 2 ^ k) : n.log2 < k := by
  rcases Nat.eq_zero_or_pos n with e | e
  · subst e
    have : Nat.log2 0 = 0 := by decide
    omega
  · exact (Nat.log2_lt (Nat.ne_of_gt e)).mpr h
/-- at most a hundred figures -/
def Fig (i : Int) : Prop := -(10 ^ 100) < i ∧ i < 10 ^ 100
set_option exponentiation.threshold 500 in
theorem Fig.nat {i : Int} (h : Fig i) : i.natAbs < 2 ^ 400 := by
  have h1 : -(10 ^ 100 : Int) < i := h.1
  have h2 : i < (10 ^ 100 : Int) := h.2
  have e : (10 : Int) ^ 100 < 2 ^ 400 := by decide
  omega
theorem Fig.noPy {i j : Int} (h : Fig j) : Builtin.divisionGoesByPylong i j = false :=
  PyProof.noPylong_of_log2 (Nat.lt_trans (log2_of (by decide) h.nat) (by decide))
section
variable {X : Cx}
/-- // by a positive divisor of at most a hundred figures -/
theorem op_fdivB : OpR X (binaryOp .FloorDiv) (rI (fun _ j => 0 < j ∧ Fig j) fun i j => .int (i / j)) := opI fun i j _ _ _ _ _ hc q => by
  have h1 : (0 : Int) < j := hc.1
  exact floordiv_int (by omega) (by rw [Int.fdiv_eq_ediv_of_nonneg i (by omega)]; exact q) (.inl hc.2.noPy)
end
section
variable {X : Cx} {tg : Expr}
end
theorem codeAny_compLoop_gen {prog : Program} {w : World} {A : Around} {R : Result → Shared → Prop} {s : Shared} {elt target iter : Expr} {ifs : List Expr} {scope : Scope} {pos : Pos} {it acc : Value} {env : Env} (I : Nat → Shared → Prop)
    (turn : ∀ n s, I n s → wpAny (model prog w) A (pyNext it) (fun r s₁ => match r with
      | none => R (.ok .next) s₁
      | some v => wpAny (model prog w) A (letOwnedTupleGo target it v) (fun _ s₁' => wpAny (model prog w) A (assign target env v) (fun _ s₂ =>
          wpAny (model prog w) A (forIn ifs true fun c r => if r = true then do let ok ← isTrue c env (eval c env); pure (ForInStep.yield ok) else pure (ForInStep.yield r)) (fun ok s₃ =>
            if ok = true then wpAny (model prog w) A (eval elt env) (fun x s₄ =>
              wpAny (model prog w) A (call (.builtin "list.append") [acc, x]) (fun _ s₅ => ∃ m, m < n ∧ I m s₅) (notedBy (model prog w) A env fun e s' => R (.error e) s') s₄) (notedBy (model prog w) A env fun e s' => R (.error e) s') s₃
            else ∃ m, m < n ∧ I m s₃) (notedBy (model prog w) A env fun e s' => R (.error e) s') s₂) (notedBy (model prog w) A env fun e s' => R (.error e) s') s₁') (notedBy (model prog w) A env fun e s' => R (.error e) s') s₁)
      (notedBy (model prog w) A env fun e s' => R (.error e) s') s)
    (n : Nat) (h : I n s) :
    codeAny (model prog w) A (.compLoop (.ListComp elt [⟨target, iter, ifs, 0⟩] scope pos) 0 it acc env) R s := by
  refine codeAny_loop rfl I (fun n s hI => ?_) n h
  show wpAny _ A ((compTurn (.ListComp elt [⟨target, iter, ifs, 0⟩] scope pos) 0 it acc env).onRaise (fun x => do noteFrame x env; theTreesLotGoes x)) _ _ s
  refine wpAny_noted ?_
  rw [compTurn_list]
  refine wpAny_bind (wpAny_standAt (wpAny_bind (wpAny_mono (turn n s hI) (fun r s₁ h₁ => ?_) fun _ _ h' => h')))
  cases r with
  | none => exact wpAny_pure h₁
  | some v =>
    refine wpAny_bind (wpAny_mono h₁ (fun _ s₁' h₁' => ?_) fun _ _ h' => h')
    refine wpAny_bind (wpAny_mono h₁' (fun _ s₂ h₂ => wpAny_bind (wpAny_mono h₂ (fun ok s₃ h₃ => ?_) fun _ _ h' => h')) fun _ _ h' => h')
    cases ok with
    | false => exact wpAny_pure ⟨rfl, h₃⟩
    | true =>
      exact wpAny_bind (wpAny_bind (wpAny_mono h₃ (fun x s₄ h₄ => wpAny_bind (wpAny_mono h₄ (fun _ s₅ h₅ => wpAny_pure (wpAny_pure ⟨rfl, h₅⟩)) fun _ _ h' => h')) fun _ _ h' => h'))
/-- the tests of a comprehension -/
def PIfs (X : Cx) (ifs : List Expr) (t : TT) : Prop :=
  ∀ (pins : List (Addr × Obj)) (s : Shared) (σ : St) (H : Hp) (Q : Bool → Hp → Prop), Inv X pins σ H s → t σ H Q →
    wpAny (model X.prog X.w) X.A (forIn ifs true fun c r => if r = true then do let ok ← isTrue c X.env (eval c X.env); pure (ForInStep.yield ok) else pure (ForInStep.yield r)) (TP X pins σ Q) X.xe s
def tYes : TT := fun _ H Q => Q true H
theorem pif_nil {X : Cx} : PIfs X [] tYes := fun _ _ _ H _ I h => by
  rw [List.forIn_nil]
  exact wpAny_pure ⟨H, I, h⟩
theorem pif_one {X : Cx} {c : Expr} {t : TT} (h : PT X c t) : PIfs X [c] t := fun pins s σ H Q I hw => wpAny_tests_one (h pins s σ H Q I hw)
/-- the block's names: own ones (none), those of the body around by their slots there -/
def subSt (js : List (Option Nat)) (σ : St) : St := js.map fun o => o.bind fun j => (σ[j]?).join
/-- no more is known than there -/
def Weak (σ' σ : St) : Prop := σ'.length = σ.length ∧ ∀ (i : Nat) v, σ'[i]? = some (some v) → σ[i]? = some (some v)
def tComp (wi : TI) (g : TG) (tc : TT) (te : TE) (js : List (Option Nat)) : TE := fun σ H Q => wi σ H fun J H1 => ∀ D, H1 D = none → ∃ W : Nat → Nat → List V → Hp → Prop, (∃ m, W 0 m [] (upd H1 D (.lst []))) ∧
  ∀ i m xs H, W i m xs H → H D = some (.lst xs) ∧ ((J.stop i H ∧ Q (.ref D) H) ∨ (J.go i H ∧ ∃ N : List V → Hp → Prop, (∀ ys H', N ys H' → ∃ m', m' < m ∧ W (i + 1) m' ys H') ∧ ∀ x H', J.yld i H x H' → g x (subSt js σ) H' fun σ2 H2 => Weak (subSt js σ) σ2 ∧ tc σ2 H2 fun b H3 =>
    if b = true then te σ2 H3 fun v H4 => ∃ ys, H4 D = some (.lst ys) ∧ ys.length < sizeLine ∧ N (ys ++ [v]) (upd H4 D (.lst (ys ++ [v])))
    else ∃ ys, N ys H3))
/-- the block's context -/
def cxComp (X : Cx) (pins : List (Addr × Obj)) (NY : List Str) (scope : Scope) (cl : List (Str × Addr)) (fp : List Addr) (C : Addr) (s : Shared) (H : Hp) : Cx :=
  { X with N := NY, s₀ := s, H₀ := H, env := compEnvC scope cl C X.env, outer := X.stack, stack := X.stack, ex := fp, fn := fun _ => false, pn := X.pn ++ pins, xe := fun _ _ => False }
def ClIn (cells : List (Str × Addr)) : List (Str × Addr) → Prop
  | [] => True
  | p :: r => cells.lookup p.1 = some p.2 ∧ ClIn cells r
theorem ClIn.get {cells : List (Str × Addr)} : ∀ {cl : List (Str × Addr)} {y : Str} {c : Addr}, ClIn cells cl → cl.lookup y = some c → cells.lookup y = some c
  | [], _, _, _, h => by simp at h
  | (n, a) :: r, y, c, ⟨h1, h2⟩, h => by
    rw [List.lookup_cons] at h
    cases e : y == n with
    | true =>
      rw [e] at h
      cases h
      rw [beq_iff_eq] at e
      rw [e]
      exact h1
    | false =>
      rw [e] at h
      exact ClIn.get h2 h
/-- what the block's names must be: none: its own; some j: the name in the j-th slot around, free here, a cell (or free) there -/
def JsOk (X : Cx) (scope : Scope) : List (Option Nat) → List Str → Prop
  | [], [] => True
  | none :: js, _ :: N => JsOk X scope js N
  | some j :: js, x :: N => (X.N[j]? = some x ∧ scope.names.lookup x = some .free ∧ X.env.kindOf x ≠ some .local ∧ (X.env.kindOf x = some .cell ∨ X.env.kindOf x = some .free)) ∧ JsOk X scope js N
  | _, _ => False
theorem JsOk.len {X : Cx} {scope : Scope} : ∀ {js : List (Option Nat)} {N : List Str}, JsOk X scope js N → js.length = N.length
  | [], [], _ => rfl
  | none :: js, _ :: N, h => by
    have h' : JsOk X scope js N := h
    rw [List.length_cons, List.length_cons, h'.len]
  | some j :: js, x :: N, h => by
    have h' : JsOk X scope js N := h.2
    rw [List.length_cons, List.length_cons, h'.len]
  | [], _ :: _, h => h.elim
  | none :: _, [], h => h.elim
  | some _ :: _, [], h => h.elim
theorem JsOk.get {X : Cx} {scope : Scope} : ∀ {js : List (Option Nat)} {N : List Str} {i j : Nat} {x : Str}, JsOk X scope js N → js[i]? = some (some j) → N[i]? = some x →
    X.N[j]? = some x ∧ scope.names.lookup x = some .free ∧ X.env.kindOf x ≠ some .local ∧ (X.env.kindOf x = some .cell ∨ X.env.kindOf x = some .free)
  | [], [], _, _, _, _, e, _ => by simp at e
  | none :: js, y :: N, 0, _, _, _, e, _ => by simp at e
  | none :: js, y :: N, i + 1, _, _, h, e, e' => JsOk.get (js := js) (N := N) (i := i) h (by simpa using e) (by simpa using e')
  | some j' :: js, y :: N, 0, _, _, h, e, e' => by
    simp at e e'
    subst e e'
    exact h.1
  | some j' :: js, y :: N, i + 1, _, _, h, e, e' => JsOk.get (js := js) (N := N) (i := i) h.2 (by simpa using e) (by simpa using e')
  | [], _ :: _, _, _, _, h, _, _ => h.elim
  | none :: _, [], _, _, _, h, _, _ => h.elim
  | some _ :: _, [], _, _, _, h, _, _ => h.elim
theorem lookup_relabel_free {env : Env} : ∀ {names : List (Str × NameKind)} {x : Str}, names.lookup x = some .free →
    ((names.map fun (n, k) => if (k == NameKind.free && env.scope.kind == .function && env.kindOf n == some .cell) then (n, NameKind.cell) else (n, k)).lookup x = some .cell ∨
     (names.map fun (n, k) => if (k == NameKind.free && env.scope.kind == .function && env.kindOf n == some .cell) then (n, NameKind.cell) else (n, k)).lookup x = some .free)
  | [], _, h => by simp at h
  | (n, k) :: r, x, h => by
    have ih := @lookup_relabel_free env r x
    simp only [List.map_cons]
    cases hx : x == n with
    | true =>
      simp only [List.lookup_cons, hx] at h
      cases h
      by_cases hc : (NameKind.free == NameKind.free && env.scope.kind == .function && env.kindOf n == some .cell) = true
      · rw [if_pos hc]; simp only [List.lookup_cons, hx]; simp
      · rw [if_neg hc]; simp only [List.lookup_cons, hx]; simp
    | false =>
      simp only [List.lookup_cons, hx] at h
      by_cases hc : (k == NameKind.free && env.scope.kind == .function && env.kindOf n == some .cell) = true
      · rw [if_pos hc]; simp only [List.lookup_cons, hx]; exact ih h
      · rw [if_neg hc]; simp only [List.lookup_cons, hx]; exact ih h
theorem relabel_mem {env : Env} {scope : Scope} {x : Str} {k : NameKind} (hcell : ∀ y ∈ scope.names, y.2 ≠ .cell) (h : (relabel scope env).names.lookup x = some k) (hk : k = .cell ∨ k = .free) : ∃ y ∈ scope.names, y.1 = x ∧ y.2 = .free := by
  have hm := PySem.mem_of_lookup h
  have hm' : (x, k) ∈ scope.names.map fun (n, k) => if (k == NameKind.free && env.scope.kind == .function && env.kindOf n == some .cell) then (n, NameKind.cell) else (n, k) := hm
  obtain ⟨⟨n, k'⟩, hy, e⟩ := List.mem_map.mp hm'
  by_cases hc : (k' == NameKind.free && env.scope.kind == .function && env.kindOf n == some .cell) = true
  · have e' : (n, NameKind.cell) = (x, k) := by rw [← e]; exact (if_pos hc).symm
    injection e' with e1 e2
    have hc2 : k' = NameKind.free := by
      rw [Bool.and_eq_true, Bool.and_eq_true] at hc
      simpa using hc.1.1
    exact ⟨(n, k'), hy, e1, hc2⟩
  · have e' : (n, k') = (x, k) := by rw [← e]; exact (if_neg hc).symm
    injection e' with e1 e2
    rcases hk with hk | hk
    · exact absurd (e2.trans hk) (hcell _ hy)
    · exact ⟨(n, k'), hy, e1, e2.trans hk⟩
section
variable {X : Cx}
theorem comp_ok {pins : List (Addr × Obj)} {σ : St} {H : Hp} {s : Shared} {NY : List Str} {scope : Scope} {cl : List (Str × Addr)} {fp : List Addr} (I : Inv X pins σ H s) (hkind : scope.kind = .function)
    (hcell : ∀ y ∈ scope.names, y.2 ≠ .cell) (hcl : ClIn X.env.cells cl) (hfr : ∀ y ∈ scope.names, y.2 = .free → (cl.lookup y.1).isSome = true) (hf : ∀ b ∈ fp, FpOk X pins H b) (ho : ∀ b ∈ fp, ∃ o, s.heap.get? b = some o) :
    (cxComp X pins NY scope cl fp s.heap.objs.size s H).Ok where
  mod := I.ok.mod
  kind := hkind
  glob := I.ok.glob
  blt := I.ok.blt
  above := Nat.le_refl _
  inj := fun x y c h1 h2 => I.ok.inj x y c (hcl.get h1) (hcl.get h2)
  has := fun x hx => by
    have h : ∃ k, (relabel scope X.env).names.lookup x = some k ∧ (k = .cell ∨ k = .free) := by
      rcases hx with hx | hx
      · exact ⟨_, hx, .inl rfl⟩
      · exact ⟨_, hx, .inr rfl⟩
    obtain ⟨k, h1, h2⟩ := h
    obtain ⟨y, hy, e1, e2⟩ := relabel_mem hcell h1 h2
    have := hfr y hy e2
    rw [e1] at this
    exact Option.isSome_iff_exists.mp this
  cab := fun x c h => absurd h Bool.false_ne_true
  hd := I.ok.hd
  frames := I.ok.frames
  stk := .inl rfl
  exf := fun b hb => by
    obtain ⟨f0, f1, f2, f3, f4, f5⟩ := hf b hb
    obtain ⟨o, e⟩ := ho b hb
    exact ⟨Nat.ne_of_lt (Heap.lt_size e), fun x c h => f4 x c (hcl.get h)⟩
  bs := I.bs
  bsz := Nat.le_trans I.ok.bsz I.sz
  noex := fun b o e hb => by
    obtain ⟨f0, f1, f2, f3, f4, f5⟩ := hf b hb
    rcases f3 with z | z
    · exact I.ok.noex b o e z
    · exact absurd (Nat.lt_of_lt_of_le (Heap.lt_size e) (Nat.le_trans I.ok.bsz z)) (Nat.lt_irrefl _)
  exfs := fun b hb hfs => by
    obtain ⟨f0, f1, f2, f3, f4, f5⟩ := hf b hb
    rcases List.mem_cons.mp (I.stkSub b hfs) with z | z
    · exact f1 z
    · exact f2 z
  funs := I.stack
  frf := I.stkFree
theorem subSt_get {js : List (Option Nat)} {σ : St} {i : Nat} {v : V} (h : (subSt js σ)[i]? = some (some v)) : ∃ j, js[i]? = some (some j) ∧ σ[j]? = some (some v) := by
  unfold subSt at h
  rw [List.getElem?_map] at h
  cases e : js[i]? with
  | none => rw [e] at h; cases h
  | some o =>
    rw [e] at h
    have h' : (o.bind fun j => (σ[j]?).join) = some v := Option.some.inj h
    cases o with
    | none => cases h'
    | some j =>
      have h'' : (σ[j]?).join = some v := h'
      refine ⟨j, rfl, ?_⟩
      cases e2 : σ[j]? with
      | none => rw [e2] at h''; cases h''
      | some w =>
        rw [e2] at h''
        cases w with
        | none => cases h''
        | some u =>
          have : u = v := Option.some.inj h''
          rw [this]
/-- the block's first state: the list has been laid, then the block's own dict -/
theorem comp_inv {pins : List (Addr × Obj)} {σ : St} {H : Hp} {s : Shared} {h' : Heap} {NY : List Str} {js : List (Option Nat)} {scope : Scope} {cl : List (Str × Addr)} {fp : List Addr} {t' : Nat} {m' : Str → Option Value} (I : Inv X pins σ H s) (hkind : scope.kind = .function)
    (hcell : ∀ y ∈ scope.names, y.2 ≠ .cell) (hcl : ClIn X.env.cells cl) (hfr : ∀ y ∈ scope.names, y.2 = .free → (cl.lookup y.1).isSome = true) (hjs : JsOk X scope js NY) (hf : ∀ b ∈ fp, FpOk X pins H b) (ho : ∀ b ∈ fp, ∃ o, s.heap.get? b = some o)
    (hk : ∀ b o, s.heap.get? b = some o → h'.get? b = some o) (hn : h'.Ns s.heap.objs.size m') :
    Inv (cxComp X pins NY scope cl fp s.heap.objs.size s H) [] (subSt js σ) H { s with heap := h', toks := t' } where
  ok := comp_ok I hkind hcell hcl hfr hf ho
  os := rfl
  bare := I.bare
  base := Un.kept hk
  loc := by
    obtain ⟨m, hnX, hl⟩ := I.loc
    refine ⟨m', hn, fun i x v e1 e2 e3 => ?_⟩
    obtain ⟨j, ej, ev⟩ := subSt_get e2
    obtain ⟨a1, a2, a3, a4⟩ := hjs.get ej e1
    have vis : Vis X.env.scope x := by
      rcases a4 with a4 | a4
      · exact .inr (.inl a4)
      · exact .inr (.inr a4)
    obtain ⟨u, ru, lk⟩ := hl j x v a1 ev vis
    refine ⟨u, ru, ?_⟩
    rcases lk with ⟨k, _⟩ | ⟨_, c, ec, hc⟩
    · exact absurd k a3
    · have h1 : ∃ c', cl.lookup x = some c' := by
        have := hfr (x, .free) (PySem.mem_of_lookup a2) rfl
        exact Option.isSome_iff_exists.mp this
      obtain ⟨c', ec'⟩ := h1
      have e4 := hcl.get ec'
      rw [ec] at e4
      cases e4
      refine .inr ⟨?_, c, ec', ?_⟩
      · exact lookup_relabel_free a2
      · obtain ⟨o, h1, h2⟩ := hc
        exact ⟨o, hk _ _ h1, h2⟩
  cell := fun x c e => by
    obtain ⟨v, o, h1, h2⟩ := I.cell x c (hcl.get e)
    exact ⟨v, o, hk _ _ h1, h2⟩
  free := I.hok.fresh (Nat.le_refl _)
  freeC := fun x c e => I.freeC x c (hcl.get e)
  pin := fun p hp => by
    have hp' : p ∈ (X.pn ++ pins) ++ [] := hp
    rw [List.append_nil] at hp'
    obtain ⟨a1, a2, a3, a4, a5⟩ := I.pin p hp'
    refine ⟨hk _ _ a1, a2, Nat.ne_of_lt (Heap.lt_size a1), fun z => ?_, a5⟩
    rcases List.mem_cons.mp (I.stkSub p.1 z) with z | z
    · exact a3 z
    · exact a4 z
  hok := I.hok.kept hk
  len := by
    show (js.map _).length = NY.length
    rw [List.length_map]
    exact hjs.len
theorem pe_comp {elt tgt iter : Expr} {ifs : List Expr} {scope : Scope} {cl : List (Str × Addr)} {pos : Pos} {wi : TI} {g : TG} {tc : TT} {te : TE} {NY : List Str} {js : List (Option Nat)} (hc : X.calm = true)
    (hkind : scope.kind = .function) (hclos : closureFor scope X.env = pure cl) (hcl : ClIn X.env.cells cl) (hjs : JsOk X scope js NY)
    (hi : PI X tgt iter wi)
    (hb : ∀ pins fp C s H, PG (cxComp X pins NY scope cl fp C s H) tgt g ∧ PIfs (cxComp X pins NY scope cl fp C s H) ifs tc ∧ PE (cxComp X pins NY scope cl fp C s H) elt te)
    (hcell : ∀ y ∈ scope.names, y.2 ≠ .cell := by decide) (hnames : ∀ y ∈ scope.names, y.2 = .local → scope.names.lookup y.1 = some .local := by decide)
    (hfr' : (scope.names.all fun y => !(y.2 == .free) || (cl.lookup y.1).isSome) = true := by first | rfl | with_unfolding_all rfl) (hs : ∀ x, foldedSetIterable iter X.env x = pure x := by intro _; rfl) :
    PE X (.ListComp elt [⟨tgt, iter, ifs, 0⟩] scope pos) (tComp wi g tc te js) := by
  intro pins s σ H Q I h
  have hfr : ∀ y ∈ scope.names, y.2 = .free → (cl.lookup y.1).isSome = true := fun y hy e => by
    have z := List.all_eq_true.mp hfr' y hy
    rw [e] at z
    simpa using z
  rw [eval_ListComp]
  refine wpAny_comprehension_free (use := none) (g := ⟨tgt, iter, ifs, 0⟩) (gs := []) rfl hs hclos hkind hnames (thn (hi pins s σ H _ I h) fun v s1 h1 => thn h1 fun itv s2 h2 => ?_)
  obtain ⟨it, fp, tn, J, H2, e, I2, T, st2, f2, q2⟩ := h2
  subst e
  -- the list
  refine wpAny_newObj_type ?_ (by show 0 ≤ sizeLine; exact Nat.zero_le _)
  have nD : H2 s2.heap.objs.size = none := I2.hok.fresh (Nat.le_refl _)
  obtain ⟨W, ⟨m0, w0⟩, turn⟩ := q2 s2.heap.objs.size nD
  have I3 : Inv X pins σ (upd H2 s2.heap.objs.size (.lst [])) { s2 with heap := s2.heap.push { cls := .type "list", data := .seq ([] : List Value).toArray } } := I2.lnew (t' := s2.toks) .nil (Nat.zero_le _)
  have kp3 : ∀ b o, s2.heap.get? b = some o → (s2.heap.push { cls := .type "list", data := .seq ([] : List Value).toArray }).get? b = some o := fun b o e => Heap.get?_push_of_some _ e
  have ob2 : ∀ b ∈ fp, ∃ o, s2.heap.get? b = some o := fun b hb => let ⟨o, e, _⟩ := T.obj _ _ st2 b hb; ⟨o, e⟩
  have f3 : ∀ b ∈ fp, FpOk X pins (upd H2 s2.heap.objs.size (.lst [])) b := fun b hb => by
    obtain ⟨f0, fr⟩ := f2 b hb
    obtain ⟨o, e⟩ := ob2 b hb
    exact ⟨by rw [upd_ne (Nat.ne_of_lt (Heap.lt_size e))]; exact f0, fr⟩
  generalize hs3 : ({ s2 with heap := s2.heap.push { cls := .type "list", data := .seq ([] : List Value).toArray } } : Shared) = s3 at I3
  have hs3' : s3.heap = s2.heap.push { cls := .type "list", data := .seq ([] : List Value).toArray } := by rw [← hs3]
  have st3 : tn 0 s3.heap := T.keep _ _ _ st2 fun b hb o e => by rw [hs3']; exact kp3 b o e
  have ob3 : ∀ b ∈ fp, ∃ o, s3.heap.get? b = some o := fun b hb => by
    obtain ⟨o, e⟩ := ob2 b hb
    exact ⟨o, by rw [hs3']; exact kp3 b o e⟩
  -- the block's dict
  refine wpAny_newFunctionEnv hcell (by intro y hy; simp at hy) (fun h1 hns hsb => ?_) hkind
  have kp4 : ∀ b o, s3.heap.get? b = some o → h1.get? b = some o := fun b o e => hsb.extBut b o (Nat.ne_of_lt (Heap.lt_size e)) (Heap.get?_push_of_some _ e)
  have IY := comp_inv (X := X) (NY := NY) (js := js) (scope := scope) (cl := cl) (fp := fp) (t' := s3.toks + ([] : List (Str × Value)).length) I3 hkind hcell hcl hfr hjs f3 ob3 kp4 hns
  have st4 : tn 0 h1 := T.keep _ _ _ st3 fun b _ o e => kp4 b o e
  have stat : ∀ {pl : List (Addr × Obj)} {H' : Hp}, (∀ b ∈ fp, H' b = none) → (∀ p ∈ pl, p.1 ∉ fp) → ∀ b ∈ fp, FpOk (cxComp X pins NY scope cl fp s3.heap.objs.size s3 (upd H2 s2.heap.objs.size (.lst []))) pl H' b := fun {pl H'} hn hp b hb => by
    obtain ⟨g1, g2⟩ := IY.ok.exf b hb
    refine ⟨hn b hb, g1, IY.ok.exfs b hb, .inl hb, g2, fun p hp' => ?_⟩
    rcases List.mem_append.mp hp' with z | z
    · exact (f3 b hb).2.2.2.2.2 p z
    · intro e
      exact hp p z (e ▸ hb)
  have loop : ∀ s4 : Shared, s4 = { s3 with heap := h1, toks := s3.toks + ([] : List (Str × Value)).length } →
      codeAny (model X.prog X.w) X.A (.compLoop (.ListComp elt [⟨tgt, iter, ifs, 0⟩] scope pos) 0 (.ref it) (.ref s2.heap.objs.size) (compEnvC scope cl s3.heap.objs.size X.env))
        (compPost (model X.prog X.w) X.A X.xe none (EP X pins σ Q) (.ref s2.heap.objs.size) s3.heap.objs.size) s4 := by
    rintro s4 rfl
    refine codeAny_compLoop_gen (fun n s' => ∃ i xs H', Inv (cxComp X pins NY scope cl fp s3.heap.objs.size s3 (upd H2 s2.heap.objs.size (.lst []))) [] (subSt js σ) H' s' ∧ tn i s'.heap ∧ (∀ b ∈ fp, H' b = none) ∧ W i n xs H') ?_ m0
      ⟨0, [], _, IY, st4, fun b hb => (f3 b hb).1, w0⟩
    rintro n s5 ⟨i, xs, H5, I5, st5, fr5, w5⟩
    obtain ⟨hD5, alt⟩ := turn i n xs H5 w5
    obtain ⟨bG, bI, bE⟩ := hb pins fp s3.heap.objs.size s3 (upd H2 s2.heap.objs.size (.lst []))
    rcases alt with ⟨stop, qn⟩ | ⟨go, N, hN, step⟩
    · refine wpAny_mono (T.done (cxComp X pins NY scope cl fp s3.heap.objs.size s3 (upd H2 s2.heap.objs.size (.lst []))) rfl rfl rfl hc i [] s5 (subSt js σ) H5 (fun _ _ => False) I5 (stat fr5 (by simp)) st5 stop) (fun r s6 hr => ?_) fun _ _ z => z.elim
      obtain ⟨hr, I6⟩ := hr
      subst hr
      obtain ⟨m6, hn6, _⟩ := I6.loc
      refine ⟨m6, hn6, fun h7 sb7 => ?_⟩
      have I7 : Inv X pins σ H5 s6 := I3.call' I6.os I6.base I6.hok I6.bare fun b hb => let ⟨_, g1, _, g3, g4, g5⟩ := f3 b hb; ⟨g3, g1, g4, g5⟩
      obtain ⟨c0, c1, c2, c3, c4, c5⟩ := I3.fpOk (b := s3.heap.objs.size) (Nat.le_refl _) (show H5 s3.heap.objs.size = none from I6.free)
      refine ⟨.ref s2.heap.objs.size, H5, ?_, rfl, qn⟩
      exact I7.turned (t' := s6.toks) (fun b o hb e => sb7.extBut b o hb e) c0 c1 c3 c4 c5
    · refine wpAny_mono (T.item (cxComp X pins NY scope cl fp s3.heap.objs.size s3 (upd H2 s2.heap.objs.size (.lst []))) rfl rfl rfl hc i [] s5 (subSt js σ) H5 (fun _ _ => False) I5 (stat fr5 (by simp)) st5 go) (fun r s6 hr => ?_) fun _ _ z => z.elim
      obtain ⟨u, hr, h6⟩ := hr
      subst hr
      refine wpAny_mono h6 (fun _ s7 h7 => ?_) fun _ _ z => z.elim
      obtain ⟨x, H7, I7, r7, y7, st7, fr7⟩ := h7
      have I7' := I7.pinned (stat fr7 (by simp)) (T.obj _ _ st7)
      have back : ∀ {σ8 : St} {H8 : Hp} {s8 : Shared}, Inv (cxComp X pins NY scope cl fp s3.heap.objs.size s3 (upd H2 s2.heap.objs.size (.lst []))) ([] ++ pinsAt fp s7.heap) σ8 H8 s8 → tn (i + 1) s8.heap ∧ (∀ b ∈ fp, H8 b = none) := fun {σ8 H8 s8} I8 => by
        refine ⟨T.keep _ _ _ st7 fun b hb o e => (I8.pin (b, o) (List.mem_append_right _ (List.mem_append_right _ (mem_pinsAt hb e)))).1, fun b hb => ?_⟩
        obtain ⟨o, e, _⟩ := T.obj _ _ st7 b hb
        exact (I8.pin (b, o) (List.mem_append_right _ (List.mem_append_right _ (mem_pinsAt hb e)))).2.1
      refine wpAny_mono (bG _ s7 (subSt js σ) H7 x u _ I7' r7 (step x H7 y7)) (fun _ s8 h8 => ?_) fun _ _ z => z.elim
      obtain ⟨σ8, H8, I8, wk, q8⟩ := h8
      have forget : ∀ {H8 : Hp} {s8 : Shared}, Inv (cxComp X pins NY scope cl fp s3.heap.objs.size s3 (upd H2 s2.heap.objs.size (.lst []))) ([] ++ pinsAt fp s7.heap) σ8 H8 s8 → Inv (cxComp X pins NY scope cl fp s3.heap.objs.size s3 (upd H2 s2.heap.objs.size (.lst []))) [] (subSt js σ) H8 s8 := fun I8 => I8.unpinned.weak wk.1 wk.2
      refine wpAny_mono (bI _ s8 σ8 H8 _ I8 q8) (fun ok s9 h9 => ?_) fun _ _ z => z.elim
      obtain ⟨H9, I9, q9⟩ := h9
      cases ok with
      | false =>
        rw [if_neg Bool.false_ne_true] at q9 ⊢
        obtain ⟨ys, n9⟩ := q9
        obtain ⟨m', hm, w9⟩ := hN _ _ n9
        exact ⟨m', hm, i + 1, ys, H9, forget I9, (back I9).1, (back I9).2, w9⟩
      | true =>
        rw [if_pos rfl] at q9 ⊢
        refine wpAny_mono (bE _ s9 σ8 H9 _ I9 q9) (fun xv s10 h10 => ?_) fun _ _ z => z.elim
        obtain ⟨v, H10, I10, r10, ys, hD, hz, n10⟩ := h10
        obtain ⟨m', hm, w10⟩ := hN _ _ n10
        refine wpAny_mono (mt_append (X := cxComp X pins NY scope cl fp s3.heap.objs.size s3 (upd H2 s2.heap.objs.size (.lst []))) _ s10 σ8 H10 (.ref s2.heap.objs.size) [v] _ [xv] (fun _ H11 => H11 = upd H10 s2.heap.objs.size (.lst (ys ++ [v]))) I10 rfl (.cons r10 .nil) ⟨_, ys, v, rfl, rfl, hD, hz, rfl⟩) (fun _ s11 h11 => ?_) fun _ _ z => z.elim
        obtain ⟨_, H11, I11, _, e11⟩ := h11
        subst e11
        exact ⟨m', hm, i + 1, _, _, forget I11, (back I11).1, (back I11).2, w10⟩
  exact codeAny_compStart_list (loop _ rfl) (T.self _ 0 _ _ _ st4 (loop _ rfl))
end
end L2
namespace L2
open PySem PySem.Spec PyProof.Rows
inductive Dv where
  | non | bl (b : Bool) | int (i : Int) | str (x : Str) | tup (l : List Dv) | lst (l : List Dv)
mutual
inductive Dn (K : PySem.W.Frag) (H : Hp) : V → Dv → Prop
  | non : Dn K H .non .non
  | bl (b : Bool) : Dn K H (.bl b) (.bl b)
  | int (i : Int) : Dn K H (.int i) (.int i)
  | str (x : Str) : Dn K H (.str x) (.str x)
  | tup {a : Addr} {xs : List V} {ds : List Dv} : SqT K H a xs → Dns K H xs ds → Dn K H (.ref a) (.tup ds)
  | lst {a : Addr} {xs : List V} {ds : List Dv} : SqL K H a xs → Dns K H xs ds → Dn K H (.ref a) (.lst ds)
inductive Dns (K : PySem.W.Frag) (H : Hp) : List V → List Dv → Prop
  | nil : Dns K H [] []
  | cons {x : V} {xs : List V} {d : Dv} {ds : List Dv} : Dn K H x d → Dns K H xs ds → Dns K H (x :: xs) (d :: ds)
end
mutual
def Dv.dep : Dv → Nat
  | .tup l => Dv.deps l + 1
  | .lst l => Dv.deps l + 1
  | _ => 0
def Dv.deps : List Dv → Nat
  | [] => 0
  | d :: r => max (Dv.dep d) (Dv.deps r)
end
/- no bool meets an int -/
mutual
def nomix : Dv → Dv → Bool
  | .bl _, .int _ => false
  | .int _, .bl _ => false
  | .tup l, .tup r => nomixs l r
  | .lst l, .lst r => nomixs l r
  | _, _ => true
def nomixs : List Dv → List Dv → Bool
  | d :: l, e :: r => nomix d e && nomixs l r
  | _, _ => true
end
theorem Dns.length {K : PySem.W.Frag} {H : Hp} : ∀ {xs : List V} {ds : List Dv}, Dns K H xs ds → xs.length = ds.length
  | _, _, .nil => rfl
  | _, _, .cons _ t => by rw [List.length_cons, List.length_cons, Dns.length t]
theorem Dns.get {K : PySem.W.Frag} {H : Hp} : ∀ {xs : List V} {ds : List Dv} {i : Nat} {d : Dv}, Dns K H xs ds → ds[i]? = some d → ∃ x, xs[i]? = some x ∧ Dn K H x d
  | _, _, _, _, .nil, e => by simp at e
  | _, _, 0, _, .cons r _, e => by
    simp at e
    subst e
    exact ⟨_, rfl, r⟩
  | _, _, i + 1, d, .cons _ t, e => by
    obtain ⟨x, h1, h2⟩ := Dns.get (i := i) t (by simpa using e)
    exact ⟨x, by simpa using h1, h2⟩
theorem Dns.get' {K : PySem.W.Frag} {H : Hp} : ∀ {xs : List V} {ds : List Dv} {i : Nat} {x : V}, Dns K H xs ds → xs[i]? = some x → ∃ d, ds[i]? = some d ∧ Dn K H x d
  | _, _, _, _, .nil, e => by simp at e
  | _, _, 0, _, .cons r _, e => by
    simp at e
    subst e
    exact ⟨_, rfl, r⟩
  | _, _, i + 1, x, .cons _ t, e => by
    obtain ⟨d, h1, h2⟩ := Dns.get' (i := i) t (by simpa using e)
    exact ⟨d, by simpa using h1, h2⟩
/-- what of the heap data lean on -/
structure Stays (K : PySem.W.Frag) (H H' : Hp) : Prop where
  t : ∀ a xs, SqT K H a xs → SqT K H' a xs
  l : ∀ a xs, SqL K H a xs → SqL K H' a xs
mutual
theorem Dn.stay {K : PySem.W.Frag} {H H' : Hp} (e : Stays K H H') : ∀ {v : V} {d : Dv}, Dn K H v d → Dn K H' v d
  | _, _, .non => .non
  | _, _, .bl b => .bl b
  | _, _, .int i => .int i
  | _, _, .str x => .str x
  | _, _, .tup h t => .tup (e.t _ _ h) (Dns.stay e t)
  | _, _, .lst h t => .lst (e.l _ _ h) (Dns.stay e t)
theorem Dns.stay {K : PySem.W.Frag} {H H' : Hp} (e : Stays K H H') : ∀ {vs : List V} {ds : List Dv}, Dns K H vs ds → Dns K H' vs ds
  | _, _, .nil => .nil
  | _, _, .cons r t => .cons (Dn.stay e r) (Dns.stay e t)
end
theorem Same.seqT {K : PySem.W.Frag} {H H' : Hp} {a : Addr} {xs : List V} (e : Same H H') (h : SqT K H a xs) : SqT K H' a xs := by
  rcases h with (h | ⟨o, h⟩) | h
  · exact .inl (.inl (e _ _ h))
  · exact .inl (.inr ⟨o, e _ _ h⟩)
  · exact .inr h
theorem Same.new {H : Hp} {a : Addr} {o : HO} (h : H a = none) : Same H (upd H a o) := fun b u e => by
  rw [upd_ne (ne_of_none e h)]
  exact e
theorem in1_units (A : Around) : A.in1.units = A.units + 1 := by
  first | rfl | simp [Around.in1]
section
variable {X : Cx} {pins : List (Addr × Obj)} {σ : St} {H : Hp} {s : Shared}
theorem eq_items {A : Around} {its its2 : List Value} {ds es : List Dv} (he : ∀ (j : Nat) u w d e, its[j]? = some u → its2[j]? = some w → ds[j]? = some d → es[j]? = some e → ∃ b, SeqAt.EqAt A s u w b ∧ (b = true ↔ d = e))
    (l1 : its.length = ds.length) (l2 : its2.length = es.length) :
    ∃ f : Nat → Bool, (∀ j (h1 : j < its.toArray.size) (h2 : j < its2.toArray.size), SeqAt.EqAt A s its.toArray[j] its2.toArray[j] (f j)) ∧
      (((List.range (min its.length its2.length)).all f && its.length == its2.length) = true ↔ ds = es) := by
  have key : ∀ j : Nat, ∃ b : Bool, (∀ (h1 : j < its.length) (h2 : j < its2.length), SeqAt.EqAt A s its[j] its2[j] b ∧ (b = true ↔ ds[j]? = es[j]?)) := fun j => by
    by_cases h1 : j < its.length
    · by_cases h2 : j < its2.length
      · obtain ⟨b, hb, hi⟩ := he j its[j] its2[j] (ds[j]'(by omega)) (es[j]'(by omega)) (by simp [h1]) (by simp [h2]) (by simp) (by simp)
        refine ⟨b, fun _ _ => ⟨hb, ?_⟩⟩
        rw [hi]
        simp [show j < ds.length by omega, show j < es.length by omega]
      · exact ⟨true, fun _ z => absurd z h2⟩
    · exact ⟨true, fun z => absurd z h1⟩
  refine ⟨fun j => Classical.choose (key j), fun j h1 h2 => ?_, ?_⟩
  · have h1' : j < its.length := by simpa using h1
    have h2' : j < its2.length := by simpa using h2
    have := (Classical.choose_spec (key j) h1' h2').1
    simpa using this
  · rw [Bool.and_eq_true, List.all_eq_true, beq_iff_eq]
    constructor
    · rintro ⟨ha, hl⟩
      apply List.ext_getElem?
      intro j
      by_cases hj : j < its.length
      · have hj2 : j < its2.length := by omega
        exact ((Classical.choose_spec (key j) hj hj2).2).mp (ha j (List.mem_range.mpr (by omega)))
      · rw [List.getElem?_eq_none (by omega), List.getElem?_eq_none (by omega)]
    · rintro rfl
      refine ⟨fun j hj => ?_, by omega⟩
      have hj' := List.mem_range.mp hj
      exact ((Classical.choose_spec (key j) (by omega) (by omega)).2).mpr rfl
theorem nomixs_get : ∀ {ds es : List Dv} {j : Nat} {d e : Dv}, nomixs ds es = true → ds[j]? = some d → es[j]? = some e → nomix d e = true
  | [], _, _, _, _, _, h, _ => by simp at h
  | _ :: _, [], _, _, _, _, _, h => by simp at h
  | a :: l, b :: r, 0, d, e, h, h1, h2 => by
    simp at h1 h2
    subst h1 h2
    simp only [nomixs, Bool.and_eq_true] at h
    exact h.1
  | a :: l, b :: r, j + 1, d, e, h, h1, h2 => by
    simp only [nomixs, Bool.and_eq_true] at h
    exact nomixs_get (j := j) h.2 (by simpa using h1) (by simpa using h2)
theorem deps_get : ∀ {ds : List Dv} {j : Nat} {d : Dv}, ds[j]? = some d → d.dep ≤ Dv.deps ds
  | [], _, _, h => by simp at h
  | a :: l, 0, d, h => by
    simp at h
    subst h
    simp only [Dv.deps]
    exact Nat.le_max_left _ _
  | a :: l, j + 1, d, h => by
    have := deps_get (ds := l) (j := j) (d := d) (by simpa using h)
    simp only [Dv.deps]
    exact Nat.le_trans this (Nat.le_max_right _ _)
/-- the lists' and tuples' step: what is asked of the items gives the whole -/
theorem rc_tups {A : Around} {a b : Addr} {xs ys : List V} {ds es : List Dv} (I : Inv X pins σ H s) (ha : SqT X.K H a xs) (hb : SqT X.K H b ys) (da : Dns X.K H xs ds) (db : Dns X.K H ys es) (hu : A.units < cLine)
    (he : ∀ (j : Nat) x y u w d e, xs[j]? = some x → ys[j]? = some y → ds[j]? = some d → es[j]? = some e → Dn X.K H x d → Dn X.K H y e → RelV x u → RelV y w → ∃ b, SeqAt.EqAt A.in1 s u w b ∧ (b = true ↔ d = e)) :
    ∃ k, SeqAt.RcAt A s (.ref a) (.ref b) k ∧ SeqAt.RcNeAt A s (.ref a) (.ref b) (!k) ∧ (k = true ↔ ds = es) := by
  obtain ⟨its, r1, p1, _⟩ := I.tuple ha
  obtain ⟨its2, r2, p2, _⟩ := I.tuple hb
  obtain ⟨f, h1, h2⟩ := eq_items (A := A.in1) (s := s) (its := its) (its2 := its2) (ds := ds) (es := es) (fun j u w d e e1 e2 e3 e4 => by
    obtain ⟨x, ex, dx⟩ := da.get e3
    obtain ⟨y, ey, dy⟩ := db.get e4
    obtain ⟨u', eu, ru⟩ := r1.get ex
    obtain ⟨w', ew, rw'⟩ := r2.get ey
    rw [e1] at eu; cases eu
    rw [e2] at ew; cases ew
    exact he j x y u w d e ex ey e3 e4 dx dy ru rw') (by rw [← r1.length]; exact da.length) (by rw [← r2.length]; exact db.length)
  have q1 := SeqAt.RcAt.tuples (A := A) (s := s) (l := a) (b := b) (items := its.toArray) (items2 := its2.toArray) (e := f) p1 p2 hu h1
  have q2 := SeqAt.RcNeAt.tuples (A := A) (s := s) (l := a) (b := b) (items := its.toArray) (items2 := its2.toArray) (e := f) p1 p2 hu h1
  rw [List.size_toArray, List.size_toArray] at q1 q2
  exact ⟨_, q1, q2, h2⟩
theorem rc_lsts {A : Around} {a b : Addr} {xs ys : List V} {ds es : List Dv} (I : Inv X pins σ H s) (ha : SqL X.K H a xs) (hb : SqL X.K H b ys) (da : Dns X.K H xs ds) (db : Dns X.K H ys es) (hu : A.units < cLine)
    (he : ∀ (j : Nat) x y u w d e, xs[j]? = some x → ys[j]? = some y → ds[j]? = some d → es[j]? = some e → Dn X.K H x d → Dn X.K H y e → RelV x u → RelV y w → ∃ b, SeqAt.EqAt A.in1 s u w b ∧ (b = true ↔ d = e)) :
    ∃ k, SeqAt.RcAt A s (.ref a) (.ref b) k ∧ SeqAt.RcNeAt A s (.ref a) (.ref b) (!k) ∧ (k = true ↔ ds = es) := by
  obtain ⟨its, r1, p1, _⟩ := I.list ha
  obtain ⟨its2, r2, p2, _⟩ := I.list hb
  obtain ⟨f, h1, h2⟩ := eq_items (A := A.in1) (s := s) (its := its) (its2 := its2) (ds := ds) (es := es) (fun j u w d e e1 e2 e3 e4 => by
    obtain ⟨x, ex, dx⟩ := da.get e3
    obtain ⟨y, ey, dy⟩ := db.get e4
    obtain ⟨u', eu, ru⟩ := r1.get ex
    obtain ⟨w', ew, rw'⟩ := r2.get ey
    rw [e1] at eu; cases eu
    rw [e2] at ew; cases ew
    exact he j x y u w d e ex ey e3 e4 dx dy ru rw') (by rw [← r1.length]; exact da.length) (by rw [← r2.length]; exact db.length)
  have l1 : its.length = ds.length := by rw [← r1.length]; exact da.length
  have l2 : its2.length = es.length := by rw [← r2.length]; exact db.length
  by_cases hl : its.length = its2.length
  · have hsz : its.toArray.size = its2.toArray.size := by rw [List.size_toArray, List.size_toArray]; exact hl
    have q1 := SeqAt.RcAt.lists (A := A) (s := s) (l := a) (b := b) (items := its.toArray) (items2 := its2.toArray) (e := f) p1.isList p2.isList hsz hu h1
    have q2 := SeqAt.RcNeAt.lists (A := A) (s := s) (l := a) (b := b) (items := its.toArray) (items2 := its2.toArray) (e := f) p1.isList p2.isList hsz hu h1
    rw [List.size_toArray] at q1 q2
    refine ⟨_, q1, q2, ?_⟩
    rw [← h2, hl, Nat.min_self]
    simp
  · have hsz : (its.toArray.size != its2.toArray.size) = true := by
      rw [List.size_toArray, List.size_toArray]
      simpa using hl
    refine ⟨false, SeqAt.RcAt.lists_lengths p1.isList p2.isList hsz hu, SeqAt.RcNeAt.lists_lengths p1.isList p2.isList hsz hu, ?_⟩
    constructor
    · intro z; cases z
    · rintro rfl
      exact absurd (l1.trans l2.symm) hl
mutual
theorem Dn.inj (I : Inv X pins σ H s) : ∀ {x : V} {d e : Dv}, Dn X.K H x d → Dn X.K H x e → d = e
  | _, _, _, .non, .non => rfl
  | _, _, _, .bl _, .bl _ => rfl
  | _, _, _, .int _, .int _ => rfl
  | _, _, _, .str _, .str _ => rfl
  | _, _, _, .tup (a := a) h t, .tup h' t' => by
    have e := I.tuple_inj h h'
    subst e
    rw [Dns.inj I t t']
  | _, _, _, .lst (a := a) h t, .lst h' t' => by
    have e := I.list_inj h h'
    subst e
    rw [Dns.inj I t t']
  | _, _, _, .tup (a := a) h t, .lst h' t' => by
    obtain ⟨its, _, p1, _⟩ := I.tuple h
    obtain ⟨its2, _, p2, _⟩ := I.list h'
    exact absurd rfl (SeqAt.ne_of_list_tuple p2.isList p1)
  | _, _, _, .lst (a := a) h t, .tup h' t' => by
    obtain ⟨its, _, p1, _⟩ := I.tuple h'
    obtain ⟨its2, _, p2, _⟩ := I.list h
    exact absurd rfl (SeqAt.ne_of_list_tuple p2.isList p1)
theorem Dns.inj (I : Inv X pins σ H s) : ∀ {xs : List V} {ds es : List Dv}, Dns X.K H xs ds → Dns X.K H xs es → ds = es
  | _, _, _, .nil, .nil => rfl
  | _, _, _, .cons r t, .cons r' t' => by rw [Dn.inj I r r', Dns.inj I t t']
end
theorem iff_ff {d e : Dv} (h : d ≠ e) : (false = true ↔ d = e) := ⟨fun z => (nomatch z), fun z => absurd z h⟩
theorem deep_step (I : Inv X pins σ H s) {n : Nat} {A : Around} {d e : Dv} {x y : V} {u w : Value} (hd : d.dep ≤ n) (hu : A.units < cLine) (hm : nomix d e = true) (dx : Dn X.K H x d) (dy : Dn X.K H y e) (rx : RelV x u) (ry : RelV y w)
    (ih : ∀ {d' e' : Dv} {x' y' : V} {u' w' : Value}, d'.dep + 1 ≤ n → nomix d' e' = true → Dn X.K H x' d' → Dn X.K H y' e' → RelV x' u' → RelV y' w' → ∃ b, SeqAt.EqAt A.in1 s u' w' b ∧ (b = true ↔ d' = e')) :
    ∃ b, SeqAt.EqAt A s u w b ∧ (b = true ↔ d = e) := by
  cases dx with
  | non =>
    cases rx
    cases dy with
    | non => cases ry; exact ⟨true, SeqAt.EqAt.same _, by simp⟩
    | bl b => cases ry; exact ⟨false, SeqAt.EqAt.none_bool b, iff_ff (by simp)⟩
    | int i => obtain ⟨t, rfl⟩ := ry; exact ⟨false, SeqAt.EqAt.none_int i t, iff_ff (by simp)⟩
    | str z => obtain ⟨t, rfl⟩ := ry; exact ⟨false, SeqAt.EqAt.none_str z t, iff_ff (by simp)⟩
    | tup h _ => cases ry; obtain ⟨its, _, p, _⟩ := I.tuple h; exact ⟨false, SeqAt.EqAt.none_tuple p hu, iff_ff (by simp)⟩
    | lst h _ => cases ry; obtain ⟨its, _, p, _⟩ := I.list h; exact ⟨false, SeqAt.EqAt.none_list p.isList hu, iff_ff (by simp)⟩
  | bl a =>
    cases rx
    cases dy with
    | non => cases ry; exact ⟨false, SeqAt.EqAt.bool_none a, iff_ff (by simp)⟩
    | bl b => cases ry; exact ⟨_, SeqAt.EqAt.bool_bool a b, by simp⟩
    | int i => exact absurd hm (by simp [nomix])
    | str z => obtain ⟨t, rfl⟩ := ry; exact ⟨false, SeqAt.EqAt.bool_str a z t, iff_ff (by simp)⟩
    | tup h _ => cases ry; obtain ⟨its, _, p, _⟩ := I.tuple h; exact ⟨false, SeqAt.EqAt.bool_tuple a p hu, iff_ff (by simp)⟩
    | lst h _ => cases ry; obtain ⟨its, _, p, _⟩ := I.list h; exact ⟨false, SeqAt.EqAt.bool_list a p.isList hu, iff_ff (by simp)⟩
  | int a =>
    obtain ⟨ta, rfl⟩ := rx
    cases dy with
    | non => cases ry; exact ⟨false, SeqAt.EqAt.int_none a ta, iff_ff (by simp)⟩
    | bl b => exact absurd hm (by simp [nomix])
    | int i => obtain ⟨t, rfl⟩ := ry; exact ⟨_, SeqAt.EqAt.int_int a ta i t, by simp⟩
    | str z => obtain ⟨t, rfl⟩ := ry; exact ⟨false, SeqAt.EqAt.int_str a ta z t, iff_ff (by simp)⟩
    | tup h _ => cases ry; obtain ⟨its, _, p, _⟩ := I.tuple h; exact ⟨false, SeqAt.EqAt.int_tuple a ta p hu, iff_ff (by simp)⟩
    | lst h _ => cases ry; obtain ⟨its, _, p, _⟩ := I.list h; exact ⟨false, SeqAt.EqAt.int_list a ta p.isList hu, iff_ff (by simp)⟩
  | str a =>
    obtain ⟨ta, rfl⟩ := rx
    cases dy with
    | non => cases ry; exact ⟨false, SeqAt.EqAt.str_none a ta, iff_ff (by simp)⟩
    | bl b => cases ry; exact ⟨false, SeqAt.EqAt.str_bool a ta b, iff_ff (by simp)⟩
    | int i => obtain ⟨t, rfl⟩ := ry; exact ⟨false, SeqAt.EqAt.str_int a ta i t, iff_ff (by simp)⟩
    | str z => obtain ⟨t, rfl⟩ := ry; exact ⟨_, SeqAt.EqAt.str_str a ta z t, by simp⟩
    | tup h _ => cases ry; obtain ⟨its, _, p, _⟩ := I.tuple h; exact ⟨false, SeqAt.EqAt.str_tuple a ta p hu, iff_ff (by simp)⟩
    | lst h _ => cases ry; obtain ⟨its, _, p, _⟩ := I.list h; exact ⟨false, SeqAt.EqAt.str_list a ta p.isList hu, iff_ff (by simp)⟩
  | @tup a xs ds ha da =>
    cases rx
    obtain ⟨its, _, p, _⟩ := I.tuple ha
    cases dy with
    | non => cases ry; exact ⟨false, SeqAt.EqAt.tuple_none p hu, iff_ff (by simp)⟩
    | bl b => cases ry; exact ⟨false, SeqAt.EqAt.tuple_bool b p hu, iff_ff (by simp)⟩
    | int i => obtain ⟨t, rfl⟩ := ry; exact ⟨false, SeqAt.EqAt.tuple_int i t p hu, iff_ff (by simp)⟩
    | str z => obtain ⟨t, rfl⟩ := ry; exact ⟨false, SeqAt.EqAt.tuple_str z t p hu, iff_ff (by simp)⟩
    | lst h _ => cases ry; obtain ⟨its2, _, p2, _⟩ := I.list h; exact ⟨false, SeqAt.EqAt.tuple_list p p2.isList hu, iff_ff (by simp)⟩
    | @tup b ys es hb db =>
      cases ry
      by_cases hab : a = b
      · subst hab
        exact ⟨true, SeqAt.EqAt.same _, by rw [Dn.inj I (.tup ha da) (.tup hb db)]; simp⟩
      · have hm' : nomixs ds es = true := by simpa only [nomix] using hm
        have hd' : Dv.deps ds + 1 ≤ n := by simpa only [Dv.dep] using hd
        obtain ⟨k, q1, _, q3⟩ := rc_tups I ha hb da db hu (fun j x' y' u' w' d' e' _ _ e3 e4 dx' dy' rx' ry' => ih (by have := deps_get e3; omega) (nomixs_get hm' e3 e4) dx' dy' rx' ry')
        refine ⟨k, SeqAt.EqAt.of_refs hab q1, ?_⟩
        rw [q3]
        simp
  | @lst a xs ds ha da =>
    cases rx
    obtain ⟨its, _, p, _⟩ := I.list ha
    cases dy with
    | non => cases ry; exact ⟨false, SeqAt.EqAt.list_none p.isList hu, iff_ff (by simp)⟩
    | bl b => cases ry; exact ⟨false, SeqAt.EqAt.list_bool b p.isList hu, iff_ff (by simp)⟩
    | int i => obtain ⟨t, rfl⟩ := ry; exact ⟨false, SeqAt.EqAt.list_int i t p.isList hu, iff_ff (by simp)⟩
    | str z => obtain ⟨t, rfl⟩ := ry; exact ⟨false, SeqAt.EqAt.list_str z t p.isList hu, iff_ff (by simp)⟩
    | tup h _ => cases ry; obtain ⟨its2, _, p2, _⟩ := I.tuple h; exact ⟨false, SeqAt.EqAt.list_tuple p.isList p2 hu, iff_ff (by simp)⟩
    | @lst b ys es hb db =>
      cases ry
      by_cases hab : a = b
      · subst hab
        exact ⟨true, SeqAt.EqAt.same _, by rw [Dn.inj I (.lst ha da) (.lst hb db)]; simp⟩
      · have hm' : nomixs ds es = true := by simpa only [nomix] using hm
        have hd' : Dv.deps ds + 1 ≤ n := by simpa only [Dv.dep] using hd
        obtain ⟨k, q1, _, q3⟩ := rc_lsts I ha hb da db hu (fun j x' y' u' w' d' e' _ _ e3 e4 dx' dy' rx' ry' => ih (by have := deps_get e3; omega) (nomixs_get hm' e3 e4) dx' dy' rx' ry')
        refine ⟨k, SeqAt.EqAt.of_refs hab q1, ?_⟩
        rw [q3]
        simp
theorem deep_eq (I : Inv X pins σ H s) : ∀ (n : Nat) {A : Around} {d e : Dv} {x y : V} {u w : Value}, d.dep ≤ n → A.units + n < cLine → nomix d e = true → Dn X.K H x d → Dn X.K H y e → RelV x u → RelV y w → ∃ b, SeqAt.EqAt A s u w b ∧ (b = true ↔ d = e)
  | 0, A, d, e, x, y, u, w, hd, hu, hm, dx, dy, rx, ry => deep_step I hd (by omega) hm dx dy rx ry fun h => absurd h (by omega)
  | n + 1, A, d, e, x, y, u, w, hd, hu, hm, dx, dy, rx, ry => deep_step I hd (by omega) hm dx dy rx ry fun h hm' dx' dy' rx' ry' => deep_eq I n (by omega) (by rw [in1_units]; omega) hm' dx' dy' rx' ry'
end
end L2
namespace L2
open PySem PySem.Spec PyProof.Rows
structure DefIn (K : PySem.W.Frag) (x : Str) (st : Stmt) : Prop where
  ex : ∃ (f : Addr) (oc : Value) (od : Option Addr) (kV doc pm : Value) (an : Option Addr) (cdv ct : Value) (osl : Array (Option Value)),
    PySem.W.nsIn K mainGlobals x = some (some (.ref f)) ∧ K.lookup f = some ⟨oc, od, .func (PySem.W.fnOf x x (defArgs st) (defBody st) (defScope st) .none kV doc pm an cdv ct), osl⟩ ∧ PySem.W.codeIn K cdv x = true ∧ PySem.W.keepIn K (.ref f) = true
theorem DefIn.mk' {K : PySem.W.Frag} {x : Str} {st : Stmt} {f : Addr} {oc : Value} {od : Option Addr} {kV doc pm : Value} {an : Option Addr} {cdv ct : Value} {osl : Array (Option Value)}
    (a : PySem.W.nsIn K mainGlobals x = some (some (.ref f))) (l : K.lookup f = some ⟨oc, od, .func (PySem.W.fnOf x x (defArgs st) (defBody st) (defScope st) .none kV doc pm an cdv ct), osl⟩)
    (c : PySem.W.codeIn K cdv x = true) (k : PySem.W.keepIn K (.ref f) = true) : DefIn K x st := ⟨⟨f, oc, od, kV, doc, pm, an, cdv, ct, osl, a, l, c, k⟩⟩
/-- the module's names by the written part -/
structure MG (K : PySem.W.Frag) (mg : Str → Option Value) : Prop where
  is : ∀ x v, PySem.W.nsIn K mainGlobals x = some (some v) → mg x = some v
  no : ∀ x, PySem.W.nsIn K mainGlobals x = some none → mg x = none
def FnB (P : Program) (w : World) (K : PySem.W.Frag) (mg : Str → Option Value) (x : Str) (ps : List Str) (k : Nat) (sp : Sp) : Prop :=
  ∃ (f : Addr) (fd : FuncData), mg x = some (.ref f) ∧ PySem.W.keepIn K (.ref f) = true ∧ (∀ us : List Value, us.length = ps.length → bindArgs fd ⟨us, []⟩ = pure (ps.zip us)) ∧ ∀ base, FnOk P w K mg base CX0 k f fd ps sp
theorem DefIn.fn {P : Program} {w : World} {K : PySem.W.Frag} {mg : Str → Option Value} {x : Str} {st : Stmt} {N ps : List Str} {k : Nat} {sp : Sp} (D : DefIn K x st) (M : MG K mg) (S : FnScope N ps (defScope st))
    (hb : ∀ (kV doc pm : Value) (an : Option Addr) (cdv ct : Value) (us : List Value), us.length = ps.length → bindArgs (PySem.W.fnOf x x (defArgs st) (defBody st) (defScope st) .none kV doc pm an cdv ct) ⟨us, []⟩ = pure (ps.zip us))
    (len : ∀ vs H Q E, sp vs H Q E → vs.length = ps.length)
    (hbody : ∀ (f : Addr) (base : Heap) (cdv : Value) (A : Around) (outer : List Env) (s : Shared) (H : Hp) (vs : List V) (Q : VK) (E : XK), Room k (A.deeper (envOfC x (defScope st) s.heap.objs.size f cdv)) → sp vs H Q E →
      ∃ t, PSs (cxOf CX0 P w K mg base N x (defScope st) f cdv A outer s H E).nox (defBody st) t ∧ t { nx := fun _ H' => Q .non H', rt := Q } (start N vs) H) : FnB P w K mg x ps (k + 1) sp := by
  obtain ⟨f, oc, od, kV, doc, pm, an, cdv, ct, osl, a, l, c, kp⟩ := D.ex
  have F : Fun K x x st f (PySem.W.fnOf x x (defArgs st) (defBody st) (defScope st) .none kV doc pm an cdv ct) := fun_mk l c kp
  exact ⟨f, _, M.is _ _ a, kp, hb kV doc pm an cdv ct, fun base => F.ok S len (hbody f base)⟩
section
variable {X : Cx} {k : Nat} {ps : List Str} {sp : Sp} {x : Str} {p pos : Pos} {e : Expr} {es : List Expr} {t : TA}
/-- f(e, ..), f a def of the module -/
theorem pe_callF (F : FnB X.prog X.w X.K X.mg x ps k sp) (hr : Room k X.A) (hg : Gl X x) (ha : PA X (e :: es) t)
    (hdb : (x == ("__debug__" : Str)) = false := by decide) (he : starEach (e :: es) X.env = (false, eval e X.env) :: starEach es X.env := by rfl) (hpl : (backTo pos (starEach es X.env)).any (·.1) = false := by rfl) :
    PE X (.Call (.Name x p) (e :: es) [] pos) (tCall sp [] E0 t) := by
  obtain ⟨f, fd, h1, h2, h3, h4⟩ := F
  exact pe_call (h4 X.base) hr hg h1 h2 (.all h3) .nil pass0 ha hdb he hpl
/-- a constant of the module -/
def GlobIs (K : PySem.W.Frag) (x : Str) (v : V) : Prop := ∃ u, PySem.W.nsIn K mainGlobals x = some (some u) ∧ RelV v u
theorem pe_globC {v : V} (G : GlobIs X.K x v) (M : MG X.K X.mg) (hg : Gl X x) (hd : (x == ("__debug__" : Str)) = false := by decide) : PE X (.Name x p) (tC v) := by
  obtain ⟨u, h1, h2⟩ := G
  exact pe_glob hg (M.is _ _ h1) h2 hd
end
/-- the law's last step: its promise gives the whole -/
theorem walkB {l : PySem.W.OpenLaw} {q : Program} {loose : List Str} {XP : (Str → Option Value) → Heap → Prop} {YP : World → Heap → Prop} {d : DefRec} {K : Params → PySem.W.Frag} {x : Str} (k : Nat) (hk : Room k callerA)
    (hn : l.most = some 63) (hdf : d.params.defaults = [])
    (hY : ∀ (w : World) (h : Heap), YP w h → (K w.params).In h)
    (sp : PySem.W.Frag → Sp) (hsp : ∀ (K : PySem.W.Frag) (H : Hp) (a : Addr) (ns : List Int), ns.length ≤ 63 → SqL K H a (ns.map V.int) → sp K [.ref a] H (fun v _ => v = .bl true) fun _ _ _ => False)
    (F : ∀ (w : World) (mg : Str → Option Value), MG (K w.params) mg → FnB l.prog w (K w.params) mg d.name [x] k (sp (K w.params))) :
    PySem.W.WalkO q loose XP YP l.row.toRowW d [] (fun f vs => PySem.call f vs) :=
  L2.walk_of (n := 63) (k := k) (x := x) (CX := fun _ => CX0) (sp := fun w => sp (K w.params)) hn (by decide) hdf hk hY
    (fun w mg fa h KX G hmg => by
      have M : MG (K w.params) mg := ⟨fun y v e => PySem.W.mg_of KX G e, fun y e => PySem.W.mg_none_of KX G e⟩
      obtain ⟨f, fd, h1, h2, h3, h4⟩ := F w mg M
      have e := hmg.symm.trans h1
      cases e
      exact ⟨fd, fun s u => .of_eq (h3 [u] rfl), fun base _ _ => h4 base⟩)
    (fun w H a ns hl _ hS => hsp (K w.params) H a ns hl hS) fun _ _ _ _ _ z => z
end L2
namespace L2
open PySem PySem.Spec PyProof.Rows
/-- a statement, then the rest, met at a word G of the state between -/
def tSeqJ (t u : TS) : TS := fun D σ H => ∃ G : St → Hp → Prop, t { D with nx := G } σ H ∧ ∀ σ' H', G σ' H' → u D σ' H'
theorem pss_consJ {X : Cx} {st : Stmt} {rest : List Stmt} {t u : TS} (h1 : PS X st t) (h2 : PSs X rest u) : PSs X (st :: rest) (tSeqJ t u) := by
  intro pins s σ H D I h
  obtain ⟨G, q1, q2⟩ := h
  refine wpAny_execs_cons (thn (h1 pins s σ H { D with nx := G } I q1) fun f s1 q => ?_)
  cases f with
  | next =>
    obtain ⟨σ', H', I', q⟩ := q
    exact h2 pins s1 σ' H' D I' (q2 σ' H' q)
  | ret v => exact q
  | brk => exact q
  | cont => exact q
theorem JsOk.nil {X : Cx} {scope : Scope} : JsOk X scope [] [] := trivial
theorem JsOk.own {X : Cx} {scope : Scope} {js : List (Option Nat)} {x : Str} {N : List Str} (h : JsOk X scope js N) : JsOk X scope (none :: js) (x :: N) := h
theorem JsOk.out {X : Cx} {scope : Scope} {j : Nat} {js : List (Option Nat)} {x : Str} {N : List Str} (h1 : X.N[j]? = some x) (h2 : scope.names.lookup x = some .free) (h3 : X.env.kindOf x = some .cell ∨ X.env.kindOf x = some .free) (h : JsOk X scope js N) : JsOk X scope (some j :: js) (x :: N) := by
  refine ⟨⟨h1, h2, ?_, h3⟩, h⟩
  rcases h3 with e | e <;> rw [e] <;> intro z <;> cases z
theorem ClIn.nil {cells : List (Str × Addr)} : ClIn cells [] := trivial
theorem ClIn.cons {cells : List (Str × Addr)} {p : Str × Addr} {r : List (Str × Addr)} (h1 : cells.lookup p.1 = some p.2) (h2 : ClIn cells r) : ClIn cells (p :: r) := ⟨h1, h2⟩
end L2
namespace L2
abbrev KOfM {K : PySem.W.Frag} {mg : PySem.Str → Option PySem.Value} (_ : MG K mg) : PySem.W.Frag := K
end L2
namespace L2
open PySem PySem.Spec PyProof.Rows
def plainE : Expr → Bool
  | .Starred .. => false
  | _ => true
theorem star_plain {e : Expr} {es : List Expr} {env : Env} (h : plainE e = true) : starEach (e :: es) env = (false, eval e env) :: starEach es env := by
  cases e <;> first | rfl | exact absurd h Bool.false_ne_true
def plainEs : List Expr → Bool
  | [] => true
  | e :: r => plainE e && plainEs r
theorem back_plain {pos : Pos} {env : Env} : ∀ {es : List Expr}, plainEs es = true → (backTo pos (starEach es env)).any (·.1) = false
  | [], _ => rfl
  | e :: r, h => by
    simp only [plainEs, Bool.and_eq_true] at h
    rw [star_plain h.1]
    show (false || (backTo pos (starEach r env)).any (·.1)) = false
    rw [back_plain h.2]
    rfl
def noComp : Expr → Bool
  | .ListComp .. => false
  | .SetComp .. => false
  | .DictComp .. => false
  | _ => true
theorem swaps_plain {e : Expr} {t : Option Expr} {l : Nat} {env : Env} (h : noComp e = true) : swapsWith e t l env = pure false := by
  cases e <;> first | rfl | exact absurd h Bool.false_ne_true
section
variable {X : Cx} {e : Expr} {es : List Expr} {te ta tb : TE} {t : TA} {pos p : Pos} {x : Str} {k : Nat} {ps : List Str} {sp : Sp}
theorem pc (ha : PE X e te) (hr : PA X es t) (h : plainE e = true := by rfl) : PA X (e :: es) (tCons te t) := pa_cons ha hr (star_plain h)
theorem pset {i : Nat} {pos' : Pos} (hN : X.N.Nodup) (hi : X.N[i]? = some x) (hx : Loc X.env.scope x) (he : PE X e te) (h : noComp e = true := by rfl) (hf : X.fn x = true ∨ X.env.scope.names.lookup x = some .local := by first | exact .inl rfl | exact .inr rfl | assumption) :
    PS X (.Assign [.Name x pos'] e pos) (tAsg te (gName i)) := ps_set hN hi hx he (swaps_plain h) hf
theorem pexpr (he : PE X e te) (h : noComp e = true := by rfl) : PS X (.Expr e pos) (tDrop te) := ps_expr he (swaps_plain h)
theorem pcallF (F : FnB X.prog X.w X.K X.mg x ps k sp) (hr : Room k X.A) (hg : Gl X x) (ha : PA X (e :: es) t) (hdb : (x == ("__debug__" : Str)) = false := by decide) (h1 : plainE e = true := by rfl) (h2 : plainEs es = true := by rfl) :
    PE X (.Call (.Name x p) (e :: es) [] pos) (tCall sp [] E0 t) := pe_callF F hr hg ha hdb (star_plain h1) (back_plain h2)
variable {id T : String} {r : List V → Hp → VK → Prop}
theorem pcallB (hc : CallR X (.builtin id) r) (hg : Gl X x) (hm : X.mg x = none) (hv : bootBuiltins x = some (.builtin id)) (ha : PA X (e :: es) t) (hn : x ≠ "__name__" := by decide) (hdb : (x == ("__debug__" : Str)) = false := by decide)
    (h1 : plainE e = true := by rfl) (h2 : plainEs es = true := by rfl) : PE X (.Call (.Name x p) (e :: es) [] pos) (tCB r t) := pe_callB hc hg hm hv ha hn hdb (star_plain h1) (back_plain h2)
end
end L2
namespace L2
open PySem PySem.Spec PyProof.Rows
def zAdd : R2 := fun x y H Q => ∃ i j, x = .int i ∧ y = .int j ∧ Q (.int (i + j)) H
def zSub : R2 := fun x y H Q => ∃ i j, x = .int i ∧ y = .int j ∧ Q (.int (i - j)) H
def zMul : R2 := fun x y H Q => ∃ i j, x = .int i ∧ y = .int j ∧ CMul i j ∧ Q (.int (i * j)) H
def zFdiv : R2 := fun x y H Q => ∃ i j, x = .int i ∧ y = .int j ∧ (0 < j ∧ Fig j) ∧ Q (.int (i / j)) H
def zMod : R2 := fun x y H Q => ∃ i j, x = .int i ∧ y = .int j ∧ 0 < j ∧ Q (.int (i % j)) H
def zLt : R2 := fun x y H Q => ∃ i j, x = .int i ∧ y = .int j ∧ Q (.bl (decide (i < j))) H
def zGt : R2 := fun x y H Q => ∃ i j, x = .int i ∧ y = .int j ∧ Q (.bl (decide (j < i))) H
def zNeg : V → Hp → VK → Prop := fun x H Q => ∃ i, x = .int i ∧ Q (.int (-i)) H
section
variable {X : Cx}
theorem oAdd : OpR X (binaryOp .Add) zAdd := op_add
theorem oSub : OpR X (binaryOp .Sub) zSub := op_sub
theorem oMul : OpR X (binaryOp .Mult) zMul := op_mul
theorem oFdiv : OpR X (binaryOp .FloorDiv) zFdiv := op_fdivB
theorem oMod : OpR X (binaryOp .Mod) zMod := op_mod
theorem oLt : OpR X (compareOp .Lt) zLt := op_lt
theorem oGt : OpR X (compareOp .Gt) zGt := op_gt
theorem uNeg : UnR X (unaryOp .USub) zNeg := un_neg
end
end L2
namespace L2
open PySem PySem.Spec PyProof.Rows
theorem GlobIs.ofStr {K : PySem.W.Frag} {x z : Str} {t : Tok} (a : PySem.W.nsIn K mainGlobals x = some (some (.str z t))) : GlobIs K x (.str z) := ⟨_, a, ⟨t, rfl⟩⟩
theorem GlobIs.ofInt {K : PySem.W.Frag} {x : Str} {i : Int} {t : Tok} (a : PySem.W.nsIn K mainGlobals x = some (some (.int i t))) : GlobIs K x (.int i) := ⟨_, a, ⟨t, rfl⟩⟩
end L2
namespace L2
open PySem PySem.Spec PyProof.Rows
section
variable {κ : Type} [DecidableEq κ]
end
/-- raw entries of a dict with tuple keys -/
abbrev KT (H : Hp) : List (List Key × V) → List (List Key × Addr × Value) → Prop := Paired fun p q => p.1 = q.1 ∧ H q.2.1 = some (.tup (p.1.map kV)) ∧ RelV p.2 q.2.2
section
variable {P : Program} {w : World} {H : Hp} {h : Heap} {a : Addr}
end
section
variable {X : Cx} {pins : List (Addr × Obj)} {σ : St} {H : Hp} {s : Shared} {a : Addr} {y v : V} {u r : Value} {o : Option V} {A : Around} {E : Value → Shared → Prop}
theorem Inv.big (I : Inv X pins σ H s) : sysModules < s.heap.objs.size := by
  have h : mainGlobals < s.heap.objs.size := (I.mod.glob.keeps I.bk).lt
  exact Nat.lt_trans (by decide) h
end
section
variable {X : Cx} {pins : List (Addr × Obj)} {σ : St} {H : Hp} {s : Shared} {a : Addr} {kvs : List (Key × V)} {k : Key} {u : Value} {A : Around} {E : Value → Shared → Prop}
end
section
variable {X : Cx} {o i e value : Expr} {pos pos' tpos : Pos} {td ty tv : TE}
end
theorem dt_empty {P : Program} {w : World} {H : Hp} (h : Heap) (hb : sysModules < h.objs.size) : ObjOk P w H (h.push { cls := .type "dict", data := .dict #[] }) h.objs.size (.dT []) :=
  ⟨Nat.zero_le _, beq_eq_false_iff_ne.mpr (Ne.symm (Nat.ne_of_lt hb)), [], .nil, _, #[], 0, Heap.get?_push_size _ rfl, ⟨rfl, rfl, rfl⟩, rfl, rfl, List.nodup_nil⟩
def tDNewT : TE := fun _ H Q => ∀ p, H p = none → Q (.ref p) (upd H p (.dT []))
section
variable {X : Cx} {pos : Pos}
theorem pe_dnewT : PE X (.Dict [] [] pos) tDNewT := fun pins s σ H Q I h =>
  wpAny_Dict_empty ⟨.ref s.heap.objs.size, _, I.laid (a := s.heap.objs.size) (o := .dT []) (t' := s.toks) (fun _ _ q => Heap.get?_push_of_some _ q) (Nat.le_refl _) (dt_empty s.heap I.big), rfl, h _ (I.hok.fresh (Nat.le_refl _))⟩
end
/-- a method call o.m(e) of a built-in, with one argument: what must be seen of the text -/
structure M1 (X : Cx) (o : Expr) (m : Str) (apos : Pos) (e : Expr) (cpos : Pos) : Prop where
  base : attributeBase o m X.env (eval o X.env) = eval o X.env
  few : ((backTo cpos (starEach [e] X.env)).all (fun x => !x.1) && (backToKw cpos (keywordEach [] X.env)).all (fun x => x.1.isSome)
    && decide (([e] : List Expr).length + ([] : List Keyword).length + (if ([] : List Keyword).isEmpty then 0 else 1) < 30)) = true
  line : (apos.endLine == cpos.line) = true
  trees : backTo cpos (starEach [e] X.env) = [(false, eval e X.env)]
structure M2 (X : Cx) (o : Expr) (m : Str) (apos : Pos) (e f : Expr) (cpos : Pos) : Prop where
  base : attributeBase o m X.env (eval o X.env) = eval o X.env
  few : ((backTo cpos (starEach [e, f] X.env)).all (fun x => !x.1) && (backToKw cpos (keywordEach [] X.env)).all (fun x => x.1.isSome)
    && decide (([e, f] : List Expr).length + ([] : List Keyword).length + (if ([] : List Keyword).isEmpty then 0 else 1) < 30)) = true
  line : (apos.endLine == cpos.line) = true
  trees : backTo cpos (starEach [e, f] X.env) = [(false, eval e X.env), (false, eval f X.env)]
section
variable {X : Cx} {pins : List (Addr × Obj)} {σ : St} {H : Hp} {s : Shared} {a : Addr} {y d : V} {u r : Value} {o : Option V} {A : Around} {E : Value → Shared → Prop}
end
section
variable {X : Cx} {o e f : Expr} {apos cpos : Pos} {td ty tx : TE}
end
section
variable {X : Cx} {pins : List (Addr × Obj)} {σ : St} {H : Hp} {s : Shared} {a : Addr} {kvs : List (Key × V)} {A : Around} {E : Value → Shared → Prop}
end
section
variable {X : Cx} {pins : List (Addr × Obj)} {σ : St} {H : Hp} {s : Shared} {a : Addr} {y : V} {u : Value} {A : Around} {E : Value → Shared → Prop}
end
end L2
namespace L2
open PySem PySem.Spec PyProof.Rows
section
variable {X : Cx}
end
section
variable {κ : Type} [DecidableEq κ]
end
end L2
namespace TS
open PySem PyProof.Rows
abbrev SM := StateT SortSt Sem
def gallop' : Bool → Keyed → Array Keyed → Nat → Nat → Nat → SM (Option Nat) := sortPriv% PySem.Builtin.gallop
def byd (left : Bool) (key : Keyed) (arr : Array Keyed) (base i : Nat) : SM (Option Bool) := elem' arr (base + i) >>= fun x => if left = true then lt' x key else lt' key x >>= fun r => pure (r.map fun b => !b)
def bin (p : Nat → SM (Option Bool)) (n lo hi : Nat) : SM (Option Nat) :=
  (forIn [:n] ((none, lo, hi) : Option (Option Nat) × Nat × Nat) fun _ c =>
    if c.2.1 ≥ c.2.2 then pure (.done (none, c.2.1, c.2.2)) else p (c.2.1 + (c.2.2 - c.2.1) / 2) >>= fun x => match x with
      | some z => if z = true then pure (.yield (none, c.2.1 + (c.2.2 - c.2.1) / 2 + 1, c.2.2)) else pure (.yield (none, c.2.1, c.2.1 + (c.2.2 - c.2.1) / 2))
      | _ => pure (.done (some none, c.2.1, c.2.2))) >>= fun c => match c.1 with
    | some r => pure r
    | none => pure (some c.2.2)
def upw (p : Nat → SM (Option Bool)) (n hint m : Nat) : SM (Option (Option Nat) × Nat × Nat) :=
  forIn [:n] ((none, 0, 1) : Option (Option Nat) × Nat × Nat) fun _ c =>
    if c.2.2 ≥ m then pure (.done (none, c.2.1, c.2.2)) else p (hint + c.2.2) >>= fun x => match x with
      | some z => if (!z) = true then pure (.done (none, c.2.1, c.2.2)) else pure (.yield (none, c.2.2, 2 * c.2.2 + 1))
      | _ => pure (.done (some none, c.2.1, c.2.2))
def dnw (p : Nat → SM (Option Bool)) (n hint m : Nat) : SM (Option (Option Nat) × Nat × Nat) :=
  forIn [:n] ((none, 0, 1) : Option (Option Nat) × Nat × Nat) fun _ c =>
    if c.2.2 ≥ m then pure (.done (none, c.2.1, c.2.2)) else p (hint - c.2.2) >>= fun x => match x with
      | some z => if z = true then pure (.done (none, c.2.1, c.2.2)) else pure (.yield (none, c.2.2, 2 * c.2.2 + 1))
      | _ => pure (.done (some none, c.2.1, c.2.2))
def gal (p : Nat → SM (Option Bool)) (n hint : Nat) : SM (Option Nat) := p hint >>= fun x => match x with
  | some z => if z = true then upw p n hint (n - hint) >>= fun c => (match c.1 with
        | some r => pure r
        | none => bin p n (hint + c.2.1 + 1) (hint + min c.2.2 (n - hint)))
      else dnw p n hint (hint + 1) >>= fun c => (match c.1 with
        | some r => pure r
        | none => bin p n (hint + 1 - min c.2.2 (hint + 1)) (hint - c.2.1))
  | _ => pure none
theorem bnd {α β : Type} (m : SM α) {f g : α → SM β} (h : ∀ x, f x = g x) : (m >>= f) = (m >>= g) := by rw [funext h]
theorem lop {β : Type} (n : Nat) (c : β) {f g : Nat → β → SM (ForInStep β)} (h : ∀ i x, f i x = g i x) : (forIn [:n] c f) = (forIn [:n] c g) := by rw [funext fun i => funext (h i)]
theorem bnd2 {α β : Type} {m m' : SM α} {f g : α → SM β} (h0 : m = m') (h : ∀ x, f x = g x) : (m >>= f) = (m' >>= g) := by rw [h0, funext h]
theorem gallop'_eq (left : Bool) (key : Keyed) (arr : Array Keyed) (base n hint : Nat) : gallop' left key arr base n hint = gal (byd left key arr base) n hint := by
  unfold gallop' gal
  refine bnd _ fun x => ?_
  cases x with
  | none => rfl
  | some z =>
    cases z with
    | true =>
      refine bnd2 (lop _ _ fun i c => ?_) fun c => ?_
      · obtain ⟨r, l, o⟩ := c
        refine ite_congr rfl (fun _ => rfl) (fun _ => bnd _ fun x => ?_)
        cases x <;> rfl
      · obtain ⟨r, l, o⟩ := c
        cases r with
        | some r => rfl
        | none =>
          refine bnd2 (lop _ _ fun i c => ?_) fun c => ?_
          · obtain ⟨r, l, o⟩ := c
            refine ite_congr rfl (fun _ => rfl) (fun _ => bnd _ fun x => ?_)
            cases x <;> rfl
          · obtain ⟨r, l, o⟩ := c
            cases r <;> rfl
    | false =>
      refine bnd2 (lop _ _ fun i c => ?_) fun c => ?_
      · obtain ⟨r, l, o⟩ := c
        refine ite_congr rfl (fun _ => rfl) (fun _ => bnd _ fun x => ?_)
        cases x <;> rfl
      · obtain ⟨r, l, o⟩ := c
        cases r with
        | some r => rfl
        | none =>
          refine bnd2 (lop _ _ fun i c => ?_) fun c => ?_
          · obtain ⟨r, l, o⟩ := c
            refine ite_congr rfl (fun _ => rfl) (fun _ => bnd _ fun x => ?_)
            cases x <;> rfl
          · obtain ⟨r, l, o⟩ := c
            cases r <;> rfl
structure Ord (S : Keyed → Prop) (blt : Keyed → Keyed → Bool) : Prop where
  irr : ∀ x, S x → blt x x = false
  asy : ∀ x y, S x → S y → blt x y = true → blt y x = false
  tr : ∀ x y z, S x → S y → S z → blt y x = false → blt z y = false → blt z x = false
def Cmp (prog : Program) (w : World) (A : Around) (E : Value → Shared → Prop) (s : Shared) (κ : SortKind) (S : Keyed → Prop) (blt : Keyed → Keyed → Bool) : Prop :=
  ∀ (x y : Keyed) (st : SortSt) (Q : Option Bool → SortSt → Prop), S x → S y → kindOf st = κ → Q (some (blt x y)) st → wpS (model prog w) A E s (lt' x y) Q st
section
variable {prog : Program} {w : World} {A : Around} {E : Value → Shared → Prop} {s : Shared} {κ : SortKind} {S : Keyed → Prop} {blt : Keyed → Keyed → Bool}
theorem w_elem {arr : Array Keyed} {i : Nat} {p : Keyed} {Q : Keyed → SortSt → Prop} {st : SortSt} (h : arr[i]? = some p) (hq : Q p st) : wpS (model prog w) A E s (elem' arr i) Q st := by
  rw [elem'_eq, h]
  exact wpS_pure hq
theorem w_byd (C : Cmp prog w A E s κ S blt) {left : Bool} {key x : Keyed} {arr : Array Keyed} {base i : Nat} {st : SortSt} {Q : Option Bool → SortSt → Prop} (hk : kindOf st = κ) (hx : arr[base + i]? = some x) (sx : S x) (sk : S key)
    (hq : Q (some (if left = true then blt x key else !blt key x)) st) : wpS (model prog w) A E s (byd left key arr base i) Q st := by
  refine wpS_bind (w_elem hx ?_)
  cases left with
  | true => exact C x key st _ sx sk hk hq
  | false => exact wpS_bind (C key x st _ sk sx hk (wpS_pure hq))
/-- a test by place, known to be P -/
def Tst (prog : Program) (w : World) (A : Around) (E : Value → Shared → Prop) (s : Shared) (p : Nat → SM (Option Bool)) (P : Nat → Bool) (n : Nat) (st : SortSt) : Prop :=
  ∀ (i : Nat) (Q : Option Bool → SortSt → Prop), i < n → Q (some (P i)) st → wpS (model prog w) A E s (p i) Q st
theorem w_bin {p : Nat → SM (Option Bool)} {P : Nat → Bool} {n lo hi : Nat} {st : SortSt} {Q : Option Nat → SortSt → Prop} (T : Tst prog w A E s p P n st) (mono : ∀ i j, i ≤ j → j < n → P j = true → P i = true) (hlh : lo ≤ hi) (hhn : hi ≤ n)
    (h1 : ∀ i, i < lo → P i = true) (h2 : ∀ i, hi ≤ i → i < n → P i = false) (hq : ∀ k, k ≤ n → (∀ i, i < k → P i = true) → (∀ i, k ≤ i → i < n → P i = false) → Q (some k) st) : wpS (model prog w) A E s (bin p n lo hi) Q st := by
  refine wpS_bind (wpS_forRange (fun i c st' => st' = st ∧ c.1 = none ∧ c.2.1 ≤ c.2.2 ∧ c.2.2 ≤ n ∧ c.2.2 - c.2.1 + i ≤ n ∧ (∀ i, i < c.2.1 → P i = true) ∧ ∀ i, c.2.2 ≤ i → i < n → P i = false) ?_ ?_ ⟨rfl, rfl, hlh, hhn, by simp only; omega, h1, h2⟩)
  · rintro i ⟨r, l, h⟩ st' _ hi ⟨rfl, rfl, a1, a2, a3, a4, a5⟩
    simp only at a1 a2 a3 a4 a5 ⊢
    by_cases hc : l ≥ h
    · rw [if_pos hc]
      refine wpS_pure ?_
      have e : l = h := by omega
      subst e
      exact wpS_pure (hq l a2 a4 a5)
    · rw [if_neg hc]
      have hm : l + (h - l) / 2 < n := by omega
      refine wpS_bind (T _ _ hm ?_)
      cases z : P (l + (h - l) / 2) with
      | true =>
        refine wpS_pure ⟨rfl, rfl, ?_, a2, ?_, fun j hj => ?_, a5⟩
        · simp only; omega
        · simp only; omega
        · simp only at hj
          exact mono j _ (by omega) hm z
      | false =>
        refine wpS_pure ⟨rfl, rfl, ?_, ?_, ?_, a4, fun j hj hjn => ?_⟩
        · simp only; omega
        · simp only; omega
        · simp only; omega
        · simp only at hj
          cases y : P j with
          | false => rfl
          | true =>
            have := mono _ j hj hjn y
            rw [z] at this
            cases this
  · rintro ⟨r, l, h⟩ st' ⟨rfl, rfl, a1, a2, a3, a4, a5⟩
    simp only at a1 a2 a3 a4 a5 ⊢
    have e : l = h := by omega
    subst e
    exact wpS_pure (hq l a2 a4 a5)
theorem w_gal {p : Nat → SM (Option Bool)} {P : Nat → Bool} {n hint : Nat} {st : SortSt} {Q : Option Nat → SortSt → Prop} (T : Tst prog w A E s p P n st) (mono : ∀ i j, i ≤ j → j < n → P j = true → P i = true) (hh : hint < n)
    (hq : ∀ k, k ≤ n → (∀ i, i < k → P i = true) → (∀ i, k ≤ i → i < n → P i = false) → Q (some k) st) : wpS (model prog w) A E s (gal p n hint) Q st := by
  have dn : ∀ i j, i ≤ j → j < n → P i = false → P j = false := fun i j hij hj z => by
    cases y : P j with
    | false => rfl
    | true =>
      have := mono i j hij hj y
      rw [z] at this
      cases this
  refine wpS_bind (T _ _ hh ?_)
  cases z : P hint with
  | true =>
    refine wpS_bind (wpS_forRange (fun i c st' => st' = st ∧ c.1 = none ∧ i < c.2.2 ∧ c.2.1 < c.2.2 ∧ hint + c.2.1 < n ∧ P (hint + c.2.1) = true) ?_ ?_ ⟨rfl, rfl, by simp, by simp, by simpa using hh, by simpa using z⟩)
    · rintro i ⟨r, l, o⟩ st' _ hi ⟨rfl, rfl, a1, a2, a3, a4⟩
      simp only at a1 a2 a3 a4 ⊢
      by_cases hc : o ≥ n - hint
      · rw [if_pos hc]
        refine wpS_pure ?_
        refine w_bin T mono (by simp only; omega) (by simp only; omega) (fun j hj => mono j _ (by simp only at hj; omega) a3 a4) (fun j hj hjn => ?_) hq
        simp only at hj
        omega
      · rw [if_neg hc]
        refine wpS_bind (T _ _ (by omega) ?_)
        cases y : P (hint + o) with
        | true => exact wpS_pure ⟨rfl, rfl, by simp only; omega, by simp only; omega, by simp only; omega, y⟩
        | false =>
          refine wpS_pure ?_
          refine w_bin T mono (by simp only; omega) (by simp only; omega) (fun j hj => mono j _ (by simp only at hj; omega) a3 a4) (fun j hj hjn => dn _ j ?_ hjn y) hq
          simp only at hj
          omega
    · rintro ⟨r, l, o⟩ st' ⟨rfl, rfl, a1, a2, a3, a4⟩
      simp only at a1 a2 a3 a4 ⊢
      refine w_bin T mono (by omega) (by omega) (fun j hj => mono j _ (by omega) a3 a4) (fun j hj hjn => ?_) hq
      omega
  | false =>
    refine wpS_bind (wpS_forRange (fun i c st' => st' = st ∧ c.1 = none ∧ i < c.2.2 ∧ c.2.1 < c.2.2 ∧ c.2.1 ≤ hint ∧ P (hint - c.2.1) = false) ?_ ?_ ⟨rfl, rfl, by simp, by simp, by simp, by simpa using z⟩)
    · rintro i ⟨r, l, o⟩ st' _ hi ⟨rfl, rfl, a1, a2, a3, a4⟩
      simp only at a1 a2 a3 a4 ⊢
      by_cases hc : o ≥ hint + 1
      · rw [if_pos hc]
        refine wpS_pure ?_
        refine w_bin T mono (by simp only; omega) (by simp only; omega) (fun j hj => ?_) (fun j hj hjn => dn _ j (by simp only at hj; omega) hjn a4) hq
        simp only at hj
        omega
      · rw [if_neg hc]
        refine wpS_bind (T _ _ (by omega) ?_)
        cases y : P (hint - o) with
        | false => exact wpS_pure ⟨rfl, rfl, by simp only; omega, by simp only; omega, by simp only; omega, y⟩
        | true =>
          refine wpS_pure ?_
          refine w_bin T mono (by simp only; omega) (by simp only; omega) (fun j hj => mono j _ ?_ (by omega) y) (fun j hj hjn => dn _ j (by simp only at hj; omega) hjn a4) hq
          simp only at hj
          omega
    · rintro ⟨r, l, o⟩ st' ⟨rfl, rfl, a1, a2, a3, a4⟩
      simp only at a1 a2 a3 a4 ⊢
      refine w_bin T mono (by omega) (by omega) (fun j hj => ?_) (fun j hj hjn => dn _ j (by omega) hjn a4) hq
      omega
theorem w_gallop (O : Ord S blt) (C : Cmp prog w A E s κ S blt) {left : Bool} {key : Keyed} {arr : Array Keyed} {base n hint : Nat} {X : Nat → Keyed} {st : SortSt} {Q : Option Nat → SortSt → Prop} (hk : kindOf st = κ)
    (hX : ∀ i, i < n → arr[base + i]? = some (X i)) (hS : ∀ i, i < n → S (X i)) (sk : S key) (srt : ∀ i j, i ≤ j → j < n → blt (X j) (X i) = false) (hh : hint < n)
    (hq : ∀ k, k ≤ n → (∀ i, i < k → (if left = true then blt (X i) key else !blt key (X i)) = true) → (∀ i, k ≤ i → i < n → (if left = true then blt (X i) key else !blt key (X i)) = false) → Q (some k) st) :
    wpS (model prog w) A E s (gallop' left key arr base n hint) Q st := by
  rw [gallop'_eq]
  refine w_gal (P := fun i => if left = true then blt (X i) key else !blt key (X i)) (fun i Q' hi hQ' => w_byd C hk (hX i hi) (hS i hi) sk hQ') (fun i j hij hj z => ?_) hh hq
  have l1 := srt i j hij hj
  cases left with
  | true =>
    simp only [if_true] at z ⊢
    cases y : blt (X i) key with
    | true => rfl
    | false =>
      have := O.tr key (X i) (X j) sk (hS i (by omega)) (hS j hj) y l1
      rw [z] at this
      cases this
  | false =>
    simp only [Bool.false_eq_true, if_false, Bool.not_eq_true'] at z ⊢
    exact O.tr (X i) (X j) key (hS i (by omega)) (hS j hj) sk l1 z
end
end TS
namespace TS
open PySem PyProof.Rows
abbrev Srt (blt : Keyed → Keyed → Bool) (l : List Keyed) : Prop := l.Pairwise fun x y => blt y x = false
structure Lo (blt : Keyed → Keyed → Bool) (T o ra rb : List Keyed) : Prop where
  perm : (o ++ (ra ++ rb)).Perm T
  so : Srt blt o
  sa : Srt blt ra
  sb : Srt blt rb
  low : ∀ x ∈ o, ∀ y ∈ ra ++ rb, blt y x = false
structure Good (blt : Keyed → Keyed → Bool) (T : List Keyed) (r : Array Keyed) : Prop where
  perm : r.toList.Perm T
  srt : Srt blt r.toList
theorem Lo.takeA {blt : Keyed → Keyed → Bool} {T o p ra rb : List Keyed} (h : Lo blt T o (p ++ ra) rb) (hx : ∀ x ∈ p, ∀ y ∈ rb, blt y x = false) : Lo blt T (o ++ p) ra rb := by
  obtain ⟨h1, h2, h3, h4, h5⟩ := h
  have h3' := List.pairwise_append.mp h3
  refine ⟨?_, ?_, h3'.2.1, h4, fun x hx' y hy => ?_⟩
  · have e : o ++ p ++ (ra ++ rb) = o ++ (p ++ ra ++ rb) := by simp
    rw [e]
    exact h1
  · exact List.pairwise_append.mpr ⟨h2, h3'.1, fun x hx' y hy => h5 x hx' y (by simp [hy])⟩
  · rcases List.mem_append.mp hx' with z | z
    · exact h5 x z y (by rcases List.mem_append.mp hy with q | q <;> simp [q])
    · rcases List.mem_append.mp hy with q | q
      · exact h3'.2.2 x z y q
      · exact hx x z y q
theorem Lo.takeB {blt : Keyed → Keyed → Bool} {T o p ra rb : List Keyed} (h : Lo blt T o ra (p ++ rb)) (hx : ∀ x ∈ p, ∀ y ∈ ra, blt y x = false) : Lo blt T (o ++ p) ra rb := by
  obtain ⟨h1, h2, h3, h4, h5⟩ := h
  have h4' := List.pairwise_append.mp h4
  refine ⟨?_, ?_, h3, h4'.2.1, fun x hx' y hy => ?_⟩
  · refine List.Perm.trans ?_ h1
    rw [List.append_assoc]
    refine List.Perm.append_left o ?_
    rw [← List.append_assoc, ← List.append_assoc]
    exact List.Perm.append_right rb List.perm_append_comm
  · exact List.pairwise_append.mpr ⟨h2, h4'.1, fun x hx' y hy => h5 x hx' y (by simp [hy])⟩
  · rcases List.mem_append.mp hx' with z | z
    · exact h5 x z y (by rcases List.mem_append.mp hy with q | q <;> simp [q])
    · rcases List.mem_append.mp hy with q | q
      · exact hx x z y q
      · exact h4'.2.2 x z y q
theorem Lo.end {blt : Keyed → Keyed → Bool} {T o : List Keyed} (h : Lo blt T o [] []) : o.Perm T ∧ Srt blt o := ⟨by simpa using h.perm, h.so⟩
theorem Lo.endA {blt : Keyed → Keyed → Bool} {T o ra : List Keyed} (h : Lo blt T o ra []) : (o ++ ra).Perm T ∧ Srt blt (o ++ ra) := by
  have h' : Lo blt T o (ra ++ []) [] := by rw [List.append_nil]; exact h
  exact (h'.takeA fun _ _ _ z => by cases z).end
theorem Lo.endB {blt : Keyed → Keyed → Bool} {T o rb : List Keyed} (h : Lo blt T o [] rb) : (o ++ rb).Perm T ∧ Srt blt (o ++ rb) := by
  have h' : Lo blt T o [] (rb ++ []) := by rw [List.append_nil]; exact h
  exact (h'.takeB fun _ _ _ z => by cases z).end
theorem drop_cons {l : List Keyed} {i : Nat} {x : Keyed} (h : l[i]? = some x) : l.drop i = x :: l.drop (i + 1) := by
  obtain ⟨hi, e⟩ := List.getElem?_eq_some_iff.mp h
  rw [List.drop_eq_getElem_cons hi, e]
theorem drop_split (l : List Keyed) (i k : Nat) : l.drop i = (l.drop i).take k ++ l.drop (i + k) := by
  rw [← List.drop_drop, List.take_append_drop]
theorem toList_get {a : Array Keyed} {i : Nat} {x : Keyed} (h : a[i]? = some x) : a.toList[i]? = some x := by simpa using h
theorem arr_get {a : Array Keyed} {i : Nat} (h : i < a.size) : a[i]? = some a[i] := by simp [h]
theorem ext_toList (a : Array Keyed) (i j : Nat) : (a.extract i j).toList = (a.toList.drop i).take (j - i) := by simp
theorem ext_end (a : Array Keyed) (i : Nat) : (a.extract i a.size).toList = a.toList.drop i := by
  rw [ext_toList]
  exact List.take_of_length_le (by simp)
theorem srt_at {blt : Keyed → Keyed → Bool} {S : Keyed → Prop} (O : Ord S blt) {l : List Keyed} (hs : Srt blt l) (hS : ∀ x ∈ l, S x) {i j : Nat} {x y : Keyed} (hx : l[i]? = some x) (hy : l[j]? = some y) (hij : i ≤ j) : blt y x = false := by
  obtain ⟨hi, rfl⟩ := List.getElem?_eq_some_iff.mp hx
  obtain ⟨hj, rfl⟩ := List.getElem?_eq_some_iff.mp hy
  by_cases e : i = j
  · subst e
    exact O.irr _ (hS _ (List.getElem_mem hi))
  · exact List.pairwise_iff_getElem.mp hs i j hi hj (by omega)
/-- the rest of a sorted list lies at or above its first -/
theorem srt_rest {blt : Keyed → Keyed → Bool} {S : Keyed → Prop} (O : Ord S blt) {l : List Keyed} (hs : Srt blt l) (hS : ∀ x ∈ l, S x) {i : Nat} {x y : Keyed} (hx : l[i]? = some x) (hy : y ∈ l.drop i) : blt y x = false := by
  obtain ⟨k, hk, rfl⟩ := List.mem_iff_getElem.mp hy
  have hk' : k < l.length - i := by simpa using hk
  have e : l[i + k]? = some (l.drop i)[k] := by
    rw [List.getElem_drop]
    exact List.getElem?_eq_getElem (by omega)
  exact srt_at O hs hS hx e (by omega)
abbrev setG (st : SortSt) (g : Nat) : SortSt := SortSt.mk' (kindOf st) (arrOf st) (pendingOf st) g (failedOf st)
theorem setG_self (st : SortSt) : setG st (gallopOf st) = st := rfl
def mergeLo' : Array Keyed → Array Keyed → SM (Array Keyed) := sortPriv% PySem.Builtin.mergeLo
section
variable {prog : Program} {w : World} {A : Around} {E : Value → Shared → Prop} {s : Shared} {κ : SortKind} {S : Keyed → Prop} {blt : Keyed → Keyed → Bool}
theorem w_rule {x : String} {Q : Unit → SortSt → Prop} {st : SortSt} (h : Q () st) : wpS (model prog w) A E s (liftM (rule x) : SM Unit) Q st := wpS_lift (wpAny_rule ⟨rfl, h⟩)
theorem w_ite {α : Type} {c : Prop} [Decidable c] {m n : SM α} {Q : α → SortSt → Prop} {st : SortSt} (h1 : c → wpS (model prog w) A E s m Q st) (h2 : ¬ c → wpS (model prog w) A E s n Q st) : wpS (model prog w) A E s (if c then m else n) Q st := by
  by_cases h : c
  · rw [if_pos h]
    exact h1 h
  · rw [if_neg h]
    exact h2 h
/-- where the two parts stand -/
structure At (blt : Keyed → Keyed → Bool) (a b : Array Keyed) (rem : Nat) (out : Array Keyed) (ia ib : Nat) : Prop where
  lo : Lo blt (a.toList ++ b.toList) out.toList (a.toList.drop ia) (b.toList.drop ib)
  ha : ia + 1 < a.size
  hb : ib < b.size
  hr : (a.size - ia) + (b.size - ib) ≤ rem
theorem w_mergeLo (O : Ord S blt) (C : Cmp prog w A E s κ S blt) {a b : Array Keyed} {st : SortSt} {Q : Array Keyed → SortSt → Prop} (hk : kindOf st = κ) (Sa : ∀ x ∈ a.toList, S x) (Sb : ∀ x ∈ b.toList, S x) (sa : Srt blt a.toList) (sb : Srt blt b.toList)
    {a0 b0 al : Keyed} (ea : a[0]? = some a0) (eb : b[0]? = some b0) (el : a[a.size - 1]? = some al) (h0 : blt b0 a0 = true) (hl : ∀ y ∈ b.toList, blt al y = false)
    (hQ : ∀ m g, Good blt (a.toList ++ b.toList) m → Q m (setG st g)) : wpS (model prog w) A E s (mergeLo' a b) Q st := by
  have na : 0 < a.size := by
    rcases Nat.eq_zero_or_pos a.size with z | z
    · rw [Array.getElem?_eq_none (by omega)] at ea
      cases ea
    · exact z
  have nb : 0 < b.size := by
    rcases Nat.eq_zero_or_pos b.size with z | z
    · rw [Array.getElem?_eq_none (by omega)] at eb
      cases eb
    · exact z
  have sa0 := Sa a0 (List.mem_of_getElem? (toList_get ea))
  have sb0 := Sb b0 (List.mem_of_getElem? (toList_get eb))
  -- what stands at a place
  have SA : ∀ {i x}, a[i]? = some x → S x := fun h => Sa _ (List.mem_of_getElem? (toList_get h))
  have SB : ∀ {i x}, b[i]? = some x → S x := fun h => Sb _ (List.mem_of_getElem? (toList_get h))
  have dropA : ∀ {i y}, y ∈ a.toList.drop i → S y := fun h => Sa _ (List.mem_of_mem_drop h)
  have dropB : ∀ {i y}, y ∈ b.toList.drop i → S y := fun h => Sb _ (List.mem_of_mem_drop h)
  -- ends
  have fin : ∀ (out : Array Keyed) (ia ib : Nat), Lo blt (a.toList ++ b.toList) out.toList (a.toList.drop ia) (b.toList.drop ib) → (ib = b.size ∨ ia = a.size) → Good blt (a.toList ++ b.toList) (out ++ a.extract ia a.size ++ b.extract ib b.size) := by
    intro out ia ib h hz
    have e : (out ++ a.extract ia a.size ++ b.extract ib b.size).toList = out.toList ++ a.toList.drop ia ++ b.toList.drop ib := by
      rw [Array.toList_append, Array.toList_append, ext_end, ext_end]
    rcases hz with z | z
    · have zb : b.toList.drop ib = [] := List.drop_of_length_le (by simp [z])
      rw [zb] at h
      have := h.endA
      exact ⟨by rw [e, zb, List.append_nil]; exact this.1, by rw [e, zb, List.append_nil]; exact this.2⟩
    · have za : a.toList.drop ia = [] := List.drop_of_length_le (by simp [z])
      rw [za] at h
      have := h.endB
      exact ⟨by rw [e, za, List.append_nil]; exact this.1, by rw [e, za, List.append_nil]; exact this.2⟩
  have last : ∀ (out : Array Keyed) (ia ib : Nat), Lo blt (a.toList ++ b.toList) out.toList (a.toList.drop ia) (b.toList.drop ib) → ia + 1 = a.size → Good blt (a.toList ++ b.toList) (out ++ b.extract ib b.size ++ a.extract ia a.size) := by
    intro out ia ib h hz
    have e : (out ++ b.extract ib b.size ++ a.extract ia a.size).toList = out.toList ++ b.toList.drop ib ++ a.toList.drop ia := by
      rw [Array.toList_append, Array.toList_append, ext_end, ext_end]
    have ed : a.toList.drop ia = [al] := by
      have e1 : a.toList[ia]? = some al := toList_get (by rw [show ia = a.size - 1 by omega]; exact el)
      rw [drop_cons e1, List.drop_of_length_le (by simp; omega)]
    have h' : Lo blt (a.toList ++ b.toList) out.toList (a.toList.drop ia) (b.toList.drop ib ++ []) := by rw [List.append_nil]; exact h
    have h2 := (h'.takeB fun x hx y hy => by
      rw [ed] at hy
      rw [List.mem_singleton.mp hy]
      exact hl x (List.mem_of_mem_drop hx)).endA
    exact ⟨by rw [e]; exact h2.1, by rw [e]; exact h2.2⟩
  -- steps
  have stepB : ∀ {out ia ib x y}, Lo blt (a.toList ++ b.toList) (out : Array Keyed).toList (a.toList.drop ia) (b.toList.drop ib) → b[ib]? = some x → a[ia]? = some y → blt y x = false → Lo blt (a.toList ++ b.toList) (out.push x).toList (a.toList.drop ia) (b.toList.drop (ib + 1)) := by
    intro out ia ib x y h hx hy hlt
    rw [drop_cons (toList_get hx)] at h
    rw [Array.toList_push]
    refine h.takeB (p := [x]) fun z hz y' hy' => ?_
    rw [List.mem_singleton.mp hz]
    exact O.tr x y y' (SB hx) (SA hy) (dropA hy') hlt (srt_rest O sa Sa (toList_get hy) hy')
  have stepA : ∀ {out ia ib x y}, Lo blt (a.toList ++ b.toList) (out : Array Keyed).toList (a.toList.drop ia) (b.toList.drop ib) → a[ia]? = some x → b[ib]? = some y → blt y x = false → Lo blt (a.toList ++ b.toList) (out.push x).toList (a.toList.drop (ia + 1)) (b.toList.drop ib) := by
    intro out ia ib x y h hx hy hlt
    rw [drop_cons (toList_get hx)] at h
    rw [Array.toList_push]
    refine h.takeA (p := [x]) fun z hz y' hy' => ?_
    rw [List.mem_singleton.mp hz]
    exact O.tr x y y' (SA hx) (SB hy) (dropB hy') hlt (srt_rest O sb Sb (toList_get hy) hy')
  have start : Lo blt (a.toList ++ b.toList) (#[b0] : Array Keyed).toList (a.toList.drop 0) (b.toList.drop 1) := by
    have h : Lo blt (a.toList ++ b.toList) (#[] : Array Keyed).toList (a.toList.drop 0) (b.toList.drop 0) := ⟨by simp, by simp, by simpa using sa, by simpa using sb, by simp⟩
    exact stepB h eb ea (O.asy b0 a0 sb0 sa0 h0)
  refine wpS_bind (w_rule ?_)
  refine wpS_bind (w_elem eb ?_)
  dsimp only
  by_cases c1 : (1 == b.size) = true
  · rw [if_pos c1]
    exact wpS_pure (setG_self st ▸ hQ _ (gallopOf st) (fin _ 0 1 start (.inl (beq_iff_eq.mp c1))))
  rw [if_neg c1]
  by_cases c2 : (0 + 1 == a.size) = true
  · rw [if_pos c2]
    exact wpS_pure (setG_self st ▸ hQ _ (gallopOf st) (last _ 0 1 start (beq_iff_eq.mp c2)))
  rw [if_neg c2]
  have n1 : 1 < b.size := by
    have : ¬ 1 = b.size := fun z => c1 (beq_iff_eq.mpr z)
    omega
  have n2 : 0 + 1 < a.size := by
    have : ¬ 0 + 1 = a.size := fun z => c2 (beq_iff_eq.mpr z)
    omega
  refine wpS_bind (wpS_get ?_)
  refine wpS_bind (wpS_forRange (fun i c st' => ∃ g, st' = setG st g ∧ c.1 = none ∧ ∃ rem, rem + i < a.size + b.size ∧ At blt a b rem c.2.1 c.2.2.1 c.2.2.2.1) ?_ ?_ ⟨gallopOf st, rfl, rfl, a.size + b.size - 1, by omega, start, n2, n1, by simp only; omega⟩)
  rotate_left
  · -- all turns used up: cannot be
    rintro ⟨r, out, ia, ib, mg⟩ st' ⟨g, rfl, rfl, rem, h1, h2⟩
    have h3 := h2.hr
    have h4 := h2.ha
    simp only at h3 h4
    exact absurd h1 (by omega)
  rintro i ⟨r, out, ia, ib, mg⟩ st' _ hi ⟨g, rfl, rfl, rem, h1, h2⟩
  simp only at h2
  dsimp only
  -- one by one
  refine wpS_bind (wpS_mono (Q := fun (c : Option (Array Keyed) × Array Keyed × Nat × Nat × Nat × Nat) st' => st' = setG st g ∧ ((∃ r, c.1 = some r ∧ Good blt (a.toList ++ b.toList) r) ∨ (c.1 = none ∧ At blt a b rem c.2.1 c.2.2.1 c.2.2.2.1)))
    (wpS_forRange (fun _ (c : Option (Array Keyed) × Array Keyed × Nat × Nat × Nat × Nat) st' => st' = setG st g ∧ c.1 = none ∧ At blt a b rem c.2.1 c.2.2.1 c.2.2.2.1) ?_ (fun c st' h => ⟨h.1, .inr ⟨h.2.1, h.2.2⟩⟩) ⟨rfl, rfl, h2⟩) ?_)
  · rintro j ⟨r, o, ja, jb, ca, cb⟩ st' _ hj ⟨rfl, rfl, h⟩
    simp only at h
    dsimp only
    obtain ⟨lo, ha, hb, hr⟩ := h
    have ex := arr_get hb
    have ey := arr_get (show ja < a.size by omega)
    refine wpS_bind (w_elem ex (wpS_bind (w_elem ey (wpS_bind (C _ _ _ _ (SB ex) (SA ey) hk ?_)))))
    cases z : blt b[jb] a[ja] with
    | true =>
      refine wpS_bind (w_elem ex ?_)
      have lo' := stepB lo ex ey (O.asy _ _ (SB ex) (SA ey) z)
      by_cases d1 : (jb + 1 == b.size) = true
      · rw [if_pos d1]
        exact wpS_pure ⟨rfl, .inl ⟨_, rfl, fin _ _ _ lo' (.inl (beq_iff_eq.mp d1))⟩⟩
      rw [if_neg d1]
      have d1' : ¬ jb + 1 = b.size := fun z => d1 (beq_iff_eq.mpr z)
      have at' : At blt a b rem (o.push b[jb]) ja (jb + 1) := ⟨lo', ha, by omega, by omega⟩
      by_cases d2 : cb + 1 ≥ mg
      · rw [if_pos d2]
        exact wpS_pure ⟨rfl, .inr ⟨rfl, at'⟩⟩
      · rw [if_neg d2]
        exact wpS_pure ⟨rfl, rfl, at'⟩
    | false =>
      refine wpS_bind (w_elem ey ?_)
      have lo' := stepA lo ey ex z
      by_cases d1 : (ja + 1 + 1 == a.size) = true
      · rw [if_pos d1]
        exact wpS_pure ⟨rfl, .inl ⟨_, rfl, last _ _ _ lo' (beq_iff_eq.mp d1)⟩⟩
      rw [if_neg d1]
      have d1' : ¬ ja + 1 + 1 = a.size := fun z => d1 (beq_iff_eq.mpr z)
      have at' : At blt a b rem (o.push a[ja]) (ja + 1) jb := ⟨lo', by omega, hb, by omega⟩
      by_cases d2 : ca + 1 ≥ mg
      · rw [if_pos d2]
        exact wpS_pure ⟨rfl, .inr ⟨rfl, at'⟩⟩
      · rw [if_neg d2]
        exact wpS_pure ⟨rfl, rfl, at'⟩
  rintro ⟨r, o, ja, jb, ca, cb⟩ st' ⟨rfl, h⟩
  rcases h with ⟨r', e, gd⟩ | ⟨e, h⟩
  · simp only at e
    subst e
    refine wpS_pure ?_
    exact wpS_pure (hQ _ g gd)
  simp only at e h
  subst e
  dsimp only
  refine wpS_bind (w_rule ?_)
  -- in leaps
  refine wpS_bind (wpS_mono (Q := fun (c : Option (Array Keyed) × Array Keyed × Nat × Nat × Nat × Nat × Nat) st' => ∃ g', st' = setG st g' ∧ ((∃ r, c.1 = some r ∧ Good blt (a.toList ++ b.toList) r) ∨ (c.1 = none ∧ At blt a b (rem - 1) c.2.1 c.2.2.1 c.2.2.2.1)))
    (wpS_forRange (fun j (c : Option (Array Keyed) × Array Keyed × Nat × Nat × Nat × Nat × Nat) st' => ∃ g', st' = setG st g' ∧ c.1 = none ∧ At blt a b (if j = 0 then rem else rem - 1) c.2.1 c.2.2.1 c.2.2.2.1) ?_ (fun c st' ⟨g', h1, h2, h3⟩ => ⟨g', h1, .inr ⟨h2, by rw [if_neg (by omega)] at h3; exact h3⟩⟩) ⟨g, rfl, rfl, by simpa using h⟩) ?_)
  · rintro j ⟨r, o, ja, jb, mg', ca, cb⟩ st' _ hj ⟨g', rfl, rfl, h⟩
    simp only at h
    dsimp only
    obtain ⟨lo, ha, hb, hr⟩ := h
    have hr' : (a.size - ja) + (b.size - jb) ≤ rem := by
      split at hr <;> omega
    have ex := arr_get hb
    have ja0 : ja < a.size := by omega
    refine w_ite (fun _ => ?_) (fun _ => ?_)
    all_goals
      refine wpS_bind (wpS_modify ?_)
      refine wpS_bind (w_elem ex (wpS_bind (w_gallop (left := false) (X := fun i => (a[ja + i]?).getD b0) O C hk (fun i hi => ?_) (fun i hi => ?_) (SB ex) (fun i l hil hl' => ?_) (by omega) fun k hk1 p1 p2 => ?_)))
      · rw [arr_get (show ja + i < a.size by omega)]; rfl
      · rw [arr_get (show ja + i < a.size by omega)]; exact SA (arr_get (show ja + i < a.size by omega))
      · rw [arr_get (show ja + i < a.size by omega), arr_get (show ja + l < a.size by omega)]
        exact srt_at O sa Sa (toList_get (arr_get (show ja + i < a.size by omega))) (toList_get (arr_get (show ja + l < a.size by omega))) (by omega)
      refine w_ite (fun k0 => ?_) (fun k0 => ?_)
      · skip
        have lo2 : Lo blt (a.toList ++ b.toList) (o ++ a.extract ja (ja + k)).toList (a.toList.drop (ja + k)) (b.toList.drop jb) := by
          rw [Array.toList_append, ext_toList]
          rw [drop_split a.toList ja k] at lo
          rw [show ja + k - ja = k by omega]
          refine lo.takeA fun x hx y hy => ?_
          obtain ⟨q, hq, rfl⟩ := List.mem_iff_getElem.mp hx
          have hq2 : q < k := by simp only [List.length_take] at hq; omega
          have e1 := p1 q hq2
          rw [arr_get (show ja + q < a.size by omega)] at e1
          simp only [Bool.false_eq_true, if_false, Option.getD_some, Bool.not_eq_true'] at e1
          have e2 : ((a.toList.drop ja).take k)[q] = a[ja + q]'(by omega) := by simp
          rw [e2]
          have sx := SA (arr_get (show ja + q < a.size by omega))
          exact O.tr _ _ _ sx (SB ex) (dropB hy) e1 (srt_rest O sb Sb (toList_get ex) hy)
        refine w_ite (fun d1 => ?_) (fun d1 => ?_)
        · exact wpS_pure ⟨_, rfl, .inl ⟨_, rfl, last _ _ _ lo2 (beq_iff_eq.mp d1)⟩⟩
        have d1' : ¬ ja + k + 1 = a.size := fun z => d1 (beq_iff_eq.mpr z)
        refine w_ite (fun d2 => ?_) (fun d2 => ?_)
        · exact wpS_pure ⟨_, rfl, .inl ⟨_, rfl, fin _ _ _ lo2 (.inr (beq_iff_eq.mp d2))⟩⟩
        have d2' : ¬ ja + k = a.size := fun z => d2 (beq_iff_eq.mpr z)
        have hj2 : ja + k < a.size := by omega
        have lt2 : blt b[jb] (a[ja + k]'hj2) = true := by
          have := p2 k (Nat.le_refl _) (by omega)
          rw [arr_get hj2] at this
          simpa using this
        generalize o ++ a.extract ja (ja + k) = out2 at *
        generalize hia : ja + k = ia2 at *
        have ey2 := arr_get hj2
        refine wpS_bind (w_elem ex ?_)
        have lo3 := stepB lo2 ex ey2 (O.asy _ _ (SB ex) (SA ey2) lt2)
        refine w_ite (fun d3 => ?_) (fun d3 => ?_)
        · exact wpS_pure ⟨_, rfl, .inl ⟨_, rfl, fin _ _ _ lo3 (.inl (beq_iff_eq.mp d3))⟩⟩
        have d3' : ¬ jb + 1 = b.size := fun z => d3 (beq_iff_eq.mpr z)
        refine wpS_bind (w_elem ey2 (wpS_bind (w_gallop (left := true) (X := fun i => (b[jb + 1 + i]?).getD b0) O C hk (fun i hi => ?_) (fun i hi => ?_) (SA ey2) (fun i l hil hl' => ?_) (by omega) fun k2 hk2 p1 p2 => ?_)))
        · rw [arr_get (show jb + 1 + i < b.size by omega)]; rfl
        · rw [arr_get (show jb + 1 + i < b.size by omega)]; exact SB (arr_get (show jb + 1 + i < b.size by omega))
        · rw [arr_get (show jb + 1 + i < b.size by omega), arr_get (show jb + 1 + l < b.size by omega)]
          exact srt_at O sb Sb (toList_get (arr_get (show jb + 1 + i < b.size by omega))) (toList_get (arr_get (show jb + 1 + l < b.size by omega))) (by omega)
        refine w_ite (fun k20 => ?_) (fun k20 => ?_)
        · skip
          have lo4 : Lo blt (a.toList ++ b.toList) (out2.push b[jb] ++ b.extract (jb + 1) (jb + 1 + k2)).toList (a.toList.drop ia2) (b.toList.drop (jb + 1 + k2)) := by
            rw [Array.toList_append, ext_toList]
            rw [drop_split b.toList (jb + 1) k2] at lo3
            rw [show jb + 1 + k2 - (jb + 1) = k2 by omega]
            refine lo3.takeB fun x hx y hy => ?_
            obtain ⟨q, hq, rfl⟩ := List.mem_iff_getElem.mp hx
            have hq2 : q < k2 := by simp only [List.length_take] at hq; omega
            have e1 := p1 q hq2
            rw [arr_get (show jb + 1 + q < b.size by omega)] at e1
            simp only [if_true, Option.getD_some] at e1
            have e2 : ((b.toList.drop (jb + 1)).take k2)[q] = b[jb + 1 + q]'(by omega) := by simp
            rw [e2]
            have sx := SB (arr_get (show jb + 1 + q < b.size by omega))
            exact O.tr _ _ _ sx (SA ey2) (dropA hy) (O.asy _ _ sx (SA ey2) e1) (srt_rest O sa Sa (toList_get ey2) hy)
          refine w_ite (fun d4 => ?_) (fun d4 => ?_)
          · exact wpS_pure ⟨_, rfl, .inl ⟨_, rfl, fin _ _ _ lo4 (.inl (beq_iff_eq.mp d4))⟩⟩
          have d4' : ¬ jb + 1 + k2 = b.size := fun z => d4 (beq_iff_eq.mpr z)
          have hb4 : jb + 1 + k2 < b.size := by omega
          have le4 : blt (b[jb + 1 + k2]'hb4) a[ia2] = false := by
            have := p2 k2 (Nat.le_refl _) (by omega)
            rw [arr_get hb4] at this
            simpa using this
          generalize out2.push b[jb] ++ b.extract (jb + 1) (jb + 1 + k2) = out4 at *
          generalize hib : jb + 1 + k2 = ib4 at *
          refine wpS_bind (w_elem ey2 ?_)
          have lo5 := stepA lo4 ey2 (arr_get hb4) le4
          refine w_ite (fun d5 => ?_) (fun d5 => ?_)
          · exact wpS_pure ⟨_, rfl, .inl ⟨_, rfl, last _ _ _ lo5 (beq_iff_eq.mp d5)⟩⟩
          have d5' : ¬ ia2 + 1 + 1 = a.size := fun z => d5 (beq_iff_eq.mpr z)
          have at5 : At blt a b (rem - 1) (out4.push a[ia2]) (ia2 + 1) ib4 := ⟨lo5, by omega, hb4, by omega⟩
          refine w_ite (fun _ => ?_) (fun _ => ?_)
          · exact wpS_pure ⟨_, rfl, .inr ⟨rfl, at5⟩⟩
          · exact wpS_pure ⟨_, rfl, rfl, by rw [if_neg (by omega)]; exact at5⟩
        · skip
          have lo4 := lo3
          have hb4 : jb + 1 < b.size := by omega
          have le4 : blt (b[jb + 1]'hb4) a[ia2] = false := by
            have := p2 0 (by omega) (by omega)
            rw [Nat.add_zero, arr_get hb4] at this
            simpa using this
          generalize out2.push b[jb] = out4 at *
          generalize hib : jb + 1 = ib4 at *
          refine wpS_bind (w_elem ey2 ?_)
          have lo5 := stepA lo4 ey2 (arr_get hb4) le4
          refine w_ite (fun d5 => ?_) (fun d5 => ?_)
          · exact wpS_pure ⟨_, rfl, .inl ⟨_, rfl, last _ _ _ lo5 (beq_iff_eq.mp d5)⟩⟩
          have d5' : ¬ ia2 + 1 + 1 = a.size := fun z => d5 (beq_iff_eq.mpr z)
          have at5 : At blt a b (rem - 1) (out4.push a[ia2]) (ia2 + 1) ib4 := ⟨lo5, by omega, hb4, by omega⟩
          refine w_ite (fun _ => ?_) (fun _ => ?_)
          · exact wpS_pure ⟨_, rfl, .inr ⟨rfl, at5⟩⟩
          · exact wpS_pure ⟨_, rfl, rfl, by rw [if_neg (by omega)]; exact at5⟩
      · skip
        have lo2 := lo
        have hj2 := ja0
        have lt2 : blt b[jb] (a[ja]'hj2) = true := by
          have := p2 0 (by omega) (by omega)
          rw [Nat.add_zero, arr_get hj2] at this
          simpa using this
        generalize o = out2 at *
        generalize hia : ja = ia2 at *
        have ey2 := arr_get hj2
        refine wpS_bind (w_elem ex ?_)
        have lo3 := stepB lo2 ex ey2 (O.asy _ _ (SB ex) (SA ey2) lt2)
        refine w_ite (fun d3 => ?_) (fun d3 => ?_)
        · exact wpS_pure ⟨_, rfl, .inl ⟨_, rfl, fin _ _ _ lo3 (.inl (beq_iff_eq.mp d3))⟩⟩
        have d3' : ¬ jb + 1 = b.size := fun z => d3 (beq_iff_eq.mpr z)
        refine wpS_bind (w_elem ey2 (wpS_bind (w_gallop (left := true) (X := fun i => (b[jb + 1 + i]?).getD b0) O C hk (fun i hi => ?_) (fun i hi => ?_) (SA ey2) (fun i l hil hl' => ?_) (by omega) fun k2 hk2 p1 p2 => ?_)))
        · rw [arr_get (show jb + 1 + i < b.size by omega)]; rfl
        · rw [arr_get (show jb + 1 + i < b.size by omega)]; exact SB (arr_get (show jb + 1 + i < b.size by omega))
        · rw [arr_get (show jb + 1 + i < b.size by omega), arr_get (show jb + 1 + l < b.size by omega)]
          exact srt_at O sb Sb (toList_get (arr_get (show jb + 1 + i < b.size by omega))) (toList_get (arr_get (show jb + 1 + l < b.size by omega))) (by omega)
        refine w_ite (fun k20 => ?_) (fun k20 => ?_)
        · skip
          have lo4 : Lo blt (a.toList ++ b.toList) (out2.push b[jb] ++ b.extract (jb + 1) (jb + 1 + k2)).toList (a.toList.drop ia2) (b.toList.drop (jb + 1 + k2)) := by
            rw [Array.toList_append, ext_toList]
            rw [drop_split b.toList (jb + 1) k2] at lo3
            rw [show jb + 1 + k2 - (jb + 1) = k2 by omega]
            refine lo3.takeB fun x hx y hy => ?_
            obtain ⟨q, hq, rfl⟩ := List.mem_iff_getElem.mp hx
            have hq2 : q < k2 := by simp only [List.length_take] at hq; omega
            have e1 := p1 q hq2
            rw [arr_get (show jb + 1 + q < b.size by omega)] at e1
            simp only [if_true, Option.getD_some] at e1
            have e2 : ((b.toList.drop (jb + 1)).take k2)[q] = b[jb + 1 + q]'(by omega) := by simp
            rw [e2]
            have sx := SB (arr_get (show jb + 1 + q < b.size by omega))
            exact O.tr _ _ _ sx (SA ey2) (dropA hy) (O.asy _ _ sx (SA ey2) e1) (srt_rest O sa Sa (toList_get ey2) hy)
          refine w_ite (fun d4 => ?_) (fun d4 => ?_)
          · exact wpS_pure ⟨_, rfl, .inl ⟨_, rfl, fin _ _ _ lo4 (.inl (beq_iff_eq.mp d4))⟩⟩
          have d4' : ¬ jb + 1 + k2 = b.size := fun z => d4 (beq_iff_eq.mpr z)
          have hb4 : jb + 1 + k2 < b.size := by omega
          have le4 : blt (b[jb + 1 + k2]'hb4) a[ia2] = false := by
            have := p2 k2 (Nat.le_refl _) (by omega)
            rw [arr_get hb4] at this
            simpa using this
          generalize out2.push b[jb] ++ b.extract (jb + 1) (jb + 1 + k2) = out4 at *
          generalize hib : jb + 1 + k2 = ib4 at *
          refine wpS_bind (w_elem ey2 ?_)
          have lo5 := stepA lo4 ey2 (arr_get hb4) le4
          refine w_ite (fun d5 => ?_) (fun d5 => ?_)
          · exact wpS_pure ⟨_, rfl, .inl ⟨_, rfl, last _ _ _ lo5 (beq_iff_eq.mp d5)⟩⟩
          have d5' : ¬ ia2 + 1 + 1 = a.size := fun z => d5 (beq_iff_eq.mpr z)
          have at5 : At blt a b (rem - 1) (out4.push a[ia2]) (ia2 + 1) ib4 := ⟨lo5, by omega, hb4, by omega⟩
          refine w_ite (fun _ => ?_) (fun _ => ?_)
          · exact wpS_pure ⟨_, rfl, .inr ⟨rfl, at5⟩⟩
          · exact wpS_pure ⟨_, rfl, rfl, by rw [if_neg (by omega)]; exact at5⟩
        · skip
          have lo4 := lo3
          have hb4 : jb + 1 < b.size := by omega
          have le4 : blt (b[jb + 1]'hb4) a[ia2] = false := by
            have := p2 0 (by omega) (by omega)
            rw [Nat.add_zero, arr_get hb4] at this
            simpa using this
          generalize out2.push b[jb] = out4 at *
          generalize hib : jb + 1 = ib4 at *
          refine wpS_bind (w_elem ey2 ?_)
          have lo5 := stepA lo4 ey2 (arr_get hb4) le4
          refine w_ite (fun d5 => ?_) (fun d5 => ?_)
          · exact wpS_pure ⟨_, rfl, .inl ⟨_, rfl, last _ _ _ lo5 (beq_iff_eq.mp d5)⟩⟩
          have d5' : ¬ ia2 + 1 + 1 = a.size := fun z => d5 (beq_iff_eq.mpr z)
          have at5 : At blt a b (rem - 1) (out4.push a[ia2]) (ia2 + 1) ib4 := ⟨lo5, by omega, hb4, by omega⟩
          refine w_ite (fun _ => ?_) (fun _ => ?_)
          · exact wpS_pure ⟨_, rfl, .inr ⟨rfl, at5⟩⟩
          · exact wpS_pure ⟨_, rfl, rfl, by rw [if_neg (by omega)]; exact at5⟩
  rintro ⟨r, o, ja, jb, mg', ca, cb⟩ st' ⟨g', rfl, h⟩
  rcases h with ⟨r', e, gd⟩ | ⟨e, h⟩
  · simp only at e
    subst e
    refine wpS_pure ?_
    exact wpS_pure (hQ _ g' gd)
  simp only at e h
  subst e
  dsimp only
  refine wpS_bind (wpS_modify ?_)
  refine wpS_pure ?_
  refine ⟨_, rfl, rfl, rem - 1, ?_, h⟩
  have := h.hr
  have := h.ha
  omega
end
end TS
namespace TS
open PySem PyProof.Rows
structure Hg (blt : Keyed → Keyed → Bool) (T ra rb o : List Keyed) : Prop where
  perm : ((ra ++ rb) ++ o).Perm T
  so : Srt blt o
  sa : Srt blt ra
  sb : Srt blt rb
  hgh : ∀ x ∈ ra ++ rb, ∀ y ∈ o, blt y x = false
theorem Hg.takeB {blt : Keyed → Keyed → Bool} {T o p ra rb : List Keyed} (h : Hg blt T ra (rb ++ p) o) (hx : ∀ x ∈ p, ∀ y ∈ ra, blt x y = false) : Hg blt T ra rb (p ++ o) := by
  obtain ⟨h1, h2, h3, h4, h5⟩ := h
  have h4' := List.pairwise_append.mp h4
  refine ⟨?_, ?_, h3, h4'.1, fun x hx' y hy => ?_⟩
  · have e : ra ++ rb ++ (p ++ o) = ra ++ (rb ++ p) ++ o := by simp
    rw [e]
    exact h1
  · exact List.pairwise_append.mpr ⟨h4'.2.1, h2, fun x hx' y hy => h5 x (by simp [hx']) y hy⟩
  · rcases List.mem_append.mp hy with z | z
    · rcases List.mem_append.mp hx' with q | q
      · exact hx y z x q
      · exact h4'.2.2 x q y z
    · exact h5 x (by rcases List.mem_append.mp hx' with q | q <;> simp [q]) y z
theorem Hg.takeA {blt : Keyed → Keyed → Bool} {T o p ra rb : List Keyed} (h : Hg blt T (ra ++ p) rb o) (hx : ∀ x ∈ p, ∀ y ∈ rb, blt x y = false) : Hg blt T ra rb (p ++ o) := by
  obtain ⟨h1, h2, h3, h4, h5⟩ := h
  have h3' := List.pairwise_append.mp h3
  refine ⟨?_, ?_, h3'.1, h4, fun x hx' y hy => ?_⟩
  · refine List.Perm.trans ?_ h1
    rw [← List.append_assoc]
    refine List.Perm.append_right o ?_
    rw [List.append_assoc, List.append_assoc]
    exact List.Perm.append_left ra List.perm_append_comm
  · exact List.pairwise_append.mpr ⟨h3'.2.1, h2, fun x hx' y hy => h5 x (by simp [hx']) y hy⟩
  · rcases List.mem_append.mp hy with z | z
    · rcases List.mem_append.mp hx' with q | q
      · exact h3'.2.2 x q y z
      · exact hx y z x q
    · exact h5 x (by rcases List.mem_append.mp hx' with q | q <;> simp [q]) y z
theorem Hg.end {blt : Keyed → Keyed → Bool} {T o : List Keyed} (h : Hg blt T [] [] o) : o.Perm T ∧ Srt blt o := ⟨by simpa using h.perm, h.so⟩
theorem Hg.endA {blt : Keyed → Keyed → Bool} {T o ra : List Keyed} (h : Hg blt T ra [] o) : (ra ++ o).Perm T ∧ Srt blt (ra ++ o) := by
  have h' : Hg blt T ([] ++ ra) [] o := h
  exact (h'.takeA fun _ _ _ z => by cases z).end
theorem Hg.endB {blt : Keyed → Keyed → Bool} {T o rb : List Keyed} (h : Hg blt T [] rb o) : (rb ++ o).Perm T ∧ Srt blt (rb ++ o) := by
  have h' : Hg blt T [] ([] ++ rb) o := h
  exact (h'.takeB fun _ _ _ z => by cases z).end
theorem take_snoc {l : List Keyed} {i : Nat} {x : Keyed} (h : l[i]? = some x) : l.take (i + 1) = l.take i ++ [x] := by
  obtain ⟨hi, e⟩ := List.getElem?_eq_some_iff.mp h
  rw [List.take_succ, h]
  rfl
theorem take_split (l : List Keyed) {i n : Nat} (h : i ≤ n) : l.take n = l.take i ++ (l.drop i).take (n - i) := by
  rw [← List.take_append_drop i (l.take n), List.take_take, Nat.min_eq_left h, List.drop_take]
theorem ext_start (a : Array Keyed) (n : Nat) : (a.extract 0 n).toList = a.toList.take n := by simp
/-- the start of a sorted list lies at or below its last -/
theorem srt_upto {blt : Keyed → Keyed → Bool} {S : Keyed → Prop} (O : Ord S blt) {l : List Keyed} (hs : Srt blt l) (hS : ∀ x ∈ l, S x) {i : Nat} {x y : Keyed} (hx : l[i]? = some x) (hy : y ∈ l.take (i + 1)) : blt x y = false := by
  obtain ⟨k, hk, rfl⟩ := List.mem_iff_getElem.mp hy
  have hk' : k < i + 1 ∧ k < l.length := by simpa [List.length_take, Nat.lt_min] using hk
  have e : l[k]? = some (l.take (i + 1))[k] := by
    rw [List.getElem_take]
    exact List.getElem?_eq_getElem hk'.2
  exact srt_at O hs hS e hx (by omega)
def mergeHi' : Array Keyed → Array Keyed → SM (Array Keyed) := sortPriv% PySem.Builtin.mergeHi
section
variable {prog : Program} {w : World} {A : Around} {E : Value → Shared → Prop} {s : Shared} {κ : SortKind} {S : Keyed → Prop} {blt : Keyed → Keyed → Bool}
structure Ah (blt : Keyed → Keyed → Bool) (a b : Array Keyed) (rem na nb : Nat) (out : Array Keyed) : Prop where
  hg : Hg blt (a.toList ++ b.toList) (a.toList.take na) (b.toList.take nb) out.toList.reverse
  a1 : 1 ≤ na
  a2 : na ≤ a.size
  b1 : 2 ≤ nb
  b2 : nb ≤ b.size
  hr : na + nb ≤ rem
theorem w_mergeHi (O : Ord S blt) (C : Cmp prog w A E s κ S blt) {a b : Array Keyed} {st : SortSt} {Q : Array Keyed → SortSt → Prop} (hk : kindOf st = κ) (Sa : ∀ x ∈ a.toList, S x) (Sb : ∀ x ∈ b.toList, S x) (sa : Srt blt a.toList) (sb : Srt blt b.toList)
    {a0 b0 al : Keyed} (ea : a[0]? = some a0) (eb : b[0]? = some b0) (el : a[a.size - 1]? = some al) (h0 : blt b0 a0 = true) (hl : ∀ y ∈ b.toList, blt al y = false)
    (hQ : ∀ m g, Good blt (a.toList ++ b.toList) m → Q m (setG st g)) : wpS (model prog w) A E s (mergeHi' a b) Q st := by
  have na : 0 < a.size := by
    rcases Nat.eq_zero_or_pos a.size with z | z
    · rw [Array.getElem?_eq_none (by omega)] at ea
      cases ea
    · exact z
  have nb : 0 < b.size := by
    rcases Nat.eq_zero_or_pos b.size with z | z
    · rw [Array.getElem?_eq_none (by omega)] at eb
      cases eb
    · exact z
  have SA : ∀ {i x}, a[i]? = some x → S x := fun h => Sa _ (List.mem_of_getElem? (toList_get h))
  have SB : ∀ {i x}, b[i]? = some x → S x := fun h => Sb _ (List.mem_of_getElem? (toList_get h))
  have tkA : ∀ {i y}, y ∈ a.toList.take i → S y := fun h => Sa _ (List.mem_of_mem_take h)
  have tkB : ∀ {i y}, y ∈ b.toList.take i → S y := fun h => Sb _ (List.mem_of_mem_take h)
  have fin : ∀ (out : Array Keyed) (i j : Nat), Hg blt (a.toList ++ b.toList) (a.toList.take i) (b.toList.take j) out.toList.reverse → (j = 0 ∨ i = 0) → Good blt (a.toList ++ b.toList) (a.extract 0 i ++ b.extract 0 j ++ out.reverse) := by
    intro out i j h hz
    have e : (a.extract 0 i ++ b.extract 0 j ++ out.reverse).toList = a.toList.take i ++ b.toList.take j ++ out.toList.reverse := by
      rw [Array.toList_append, Array.toList_append, ext_start, ext_start, Array.toList_reverse]
    rcases hz with z | z
    · subst z
      rw [List.take_zero] at h e
      have := h.endA
      exact ⟨by rw [e, List.append_nil]; exact this.1, by rw [e, List.append_nil]; exact this.2⟩
    · subst z
      rw [List.take_zero] at h e
      have := h.endB
      exact ⟨by rw [e, List.nil_append]; exact this.1, by rw [e, List.nil_append]; exact this.2⟩
  have frst : ∀ (out : Array Keyed) (i : Nat), Hg blt (a.toList ++ b.toList) (a.toList.take i) (b.toList.take 1) out.toList.reverse → Good blt (a.toList ++ b.toList) (b.extract 0 1 ++ a.extract 0 i ++ out.reverse) := by
    intro out i h
    have e : (b.extract 0 1 ++ a.extract 0 i ++ out.reverse).toList = b.toList.take 1 ++ (a.toList.take i ++ out.toList.reverse) := by
      rw [Array.toList_append, Array.toList_append, ext_start, ext_start, Array.toList_reverse, List.append_assoc]
    have eb1 : b.toList.take 1 = [b0] := by
      have := take_snoc (toList_get eb)
      simpa using this
    have h' : Hg blt (a.toList ++ b.toList) ([] ++ a.toList.take i) (b.toList.take 1) out.toList.reverse := h
    have h2 := (h'.takeA fun x hx y hy => by
      rw [eb1] at hy
      rw [List.mem_singleton.mp hy]
      have sx := tkA hx
      have lx : blt x a0 = false := srt_rest O sa Sa (toList_get ea) (by rw [List.drop_zero]; exact List.mem_of_mem_take hx)
      exact O.tr _ _ _ (SB eb) (SA ea) sx (O.asy _ _ (SB eb) (SA ea) h0) lx).endB
    exact ⟨by rw [e]; exact h2.1, by rw [e]; exact h2.2⟩
  have stepA : ∀ {out i j x y}, Hg blt (a.toList ++ b.toList) (a.toList.take (i + 1)) (b.toList.take (j + 1)) (out : Array Keyed).toList.reverse → a[i]? = some x → b[j]? = some y → blt x y = false → Hg blt (a.toList ++ b.toList) (a.toList.take i) (b.toList.take (j + 1)) (out.push x).toList.reverse := by
    intro out i j x y h hx hy hlt
    rw [take_snoc (toList_get hx)] at h
    rw [Array.toList_push, List.reverse_append]
    refine h.takeA (p := [x]) fun z hz y' hy' => ?_
    rw [List.mem_singleton.mp hz]
    exact O.tr y' y x (tkB hy') (SB hy) (SA hx) (srt_upto O sb Sb (toList_get hy) hy') hlt
  have stepB : ∀ {out i j x y}, Hg blt (a.toList ++ b.toList) (a.toList.take (i + 1)) (b.toList.take (j + 1)) (out : Array Keyed).toList.reverse → b[j]? = some x → a[i]? = some y → blt x y = false → Hg blt (a.toList ++ b.toList) (a.toList.take (i + 1)) (b.toList.take j) (out.push x).toList.reverse := by
    intro out i j x y h hx hy hlt
    rw [take_snoc (toList_get hx)] at h
    rw [Array.toList_push, List.reverse_append]
    refine h.takeB (p := [x]) fun z hz y' hy' => ?_
    rw [List.mem_singleton.mp hz]
    exact O.tr y' y x (tkA hy') (SA hy) (SB hx) (srt_upto O sa Sa (toList_get hy) hy') hlt
  have start : Hg blt (a.toList ++ b.toList) (a.toList.take (a.size - 1)) (b.toList.take b.size) (#[al] : Array Keyed).toList.reverse := by
    have h : Hg blt (a.toList ++ b.toList) (a.toList.take (a.size - 1 + 1)) (b.toList.take b.size) (#[] : Array Keyed).toList.reverse := by
      rw [List.take_of_length_le (by simp; omega), List.take_of_length_le (by simp)]
      exact ⟨by simp, by simp, sa, sb, by simp⟩
    rw [take_snoc (toList_get el)] at h
    refine h.takeA (p := [al]) fun z hz y' hy' => ?_
    rw [List.mem_singleton.mp hz]
    exact hl y' (List.mem_of_mem_take hy')
  refine wpS_bind (w_rule ?_)
  refine wpS_bind (w_elem el ?_)
  dsimp only
  refine w_ite (fun c1 => ?_) (fun c1 => ?_)
  · exact wpS_pure (setG_self st ▸ hQ _ (gallopOf st) (fin _ _ _ start (.inr (beq_iff_eq.mp c1))))
  refine w_ite (fun c2 => ?_) (fun c2 => ?_)
  · have c2' : b.size = 1 := beq_iff_eq.mp c2
    refine wpS_pure (setG_self st ▸ hQ _ (gallopOf st) ?_)
    rw [c2']
    exact frst _ _ (by rw [c2'] at start; exact start)
  have n1 : ¬ a.size - 1 = 0 := fun z => c1 (beq_iff_eq.mpr z)
  have n2 : ¬ b.size = 1 := fun z => c2 (beq_iff_eq.mpr z)
  refine wpS_bind (wpS_get ?_)
  refine wpS_bind (wpS_forRange (fun i c st' => ∃ g, st' = setG st g ∧ c.1 = none ∧ ∃ rem, rem + i < a.size + b.size ∧ Ah blt a b rem c.2.1 c.2.2.1 c.2.2.2.1) ?_ ?_ ⟨gallopOf st, rfl, rfl, a.size + b.size - 1, by omega, start, by simp only; omega, by simp only; omega, by simp only; omega, by simp only; omega, by simp only; omega⟩)
  rotate_left
  · rintro ⟨r, ja, jb, o, mg⟩ st' ⟨g, rfl, rfl, rem, h1, h2⟩
    have h3 := h2.hr
    have h4 := h2.a1
    simp only at h3 h4
    exact absurd h1 (by omega)
  rintro i ⟨r, ja, jb, o, mg⟩ st' _ hi ⟨g, rfl, rfl, rem, h1, h2⟩
  simp only at h2
  dsimp only
  -- one by one
  refine wpS_bind (wpS_mono (Q := fun (c : Option (Array Keyed) × Nat × Nat × Array Keyed × Nat × Nat) st' => st' = setG st g ∧ ((∃ r, c.1 = some r ∧ Good blt (a.toList ++ b.toList) r) ∨ (c.1 = none ∧ Ah blt a b rem c.2.1 c.2.2.1 c.2.2.2.1)))
    (wpS_forRange (fun _ (c : Option (Array Keyed) × Nat × Nat × Array Keyed × Nat × Nat) st' => st' = setG st g ∧ c.1 = none ∧ Ah blt a b rem c.2.1 c.2.2.1 c.2.2.2.1) ?_ (fun c st' h => ⟨h.1, .inr ⟨h.2.1, h.2.2⟩⟩) ⟨rfl, rfl, h2⟩) ?_)
  · rintro j ⟨r, ka, kb, o, ca, cb⟩ st' _ hj ⟨rfl, rfl, h⟩
    simp only at h
    dsimp only
    obtain ⟨hg, a1, a2, b1, b2, hr⟩ := h
    obtain ⟨ka, rfl⟩ : ∃ k, ka = k + 1 := ⟨ka - 1, by omega⟩
    obtain ⟨kb, rfl⟩ : ∃ k, kb = k + 1 := ⟨kb - 1, by omega⟩
    have ex := arr_get (show kb < b.size by omega)
    have ey := arr_get (show ka < a.size by omega)
    rw [Nat.add_sub_cancel, Nat.add_sub_cancel]
    refine wpS_bind (w_elem ex (wpS_bind (w_elem ey (wpS_bind (C _ _ _ _ (SB ex) (SA ey) hk ?_)))))
    cases z : blt b[kb] a[ka] with
    | true =>
      refine wpS_bind (w_elem ey ?_)
      have hg' := stepA hg ey ex (O.asy _ _ (SB ex) (SA ey) z)
      refine w_ite (fun d1 => ?_) (fun d1 => ?_)
      · exact wpS_pure ⟨rfl, .inl ⟨_, rfl, fin _ _ _ hg' (.inr (beq_iff_eq.mp d1))⟩⟩
      have d1' : ¬ ka = 0 := fun z => d1 (beq_iff_eq.mpr z)
      have at' : Ah blt a b rem ka (kb + 1) (o.push a[ka]) := ⟨hg', by omega, by omega, b1, b2, by omega⟩
      refine w_ite (fun d2 => ?_) (fun d2 => ?_)
      · exact wpS_pure ⟨rfl, .inr ⟨rfl, at'⟩⟩
      · exact wpS_pure ⟨rfl, rfl, at'⟩
    | false =>
      refine wpS_bind (w_elem ex ?_)
      have hg' := stepB hg ex ey z
      refine w_ite (fun d1 => ?_) (fun d1 => ?_)
      · have d1' : kb = 1 := beq_iff_eq.mp d1
        subst d1'
        exact wpS_pure ⟨rfl, .inl ⟨_, rfl, frst _ _ hg'⟩⟩
      have d1' : ¬ kb = 1 := fun z => d1 (beq_iff_eq.mpr z)
      have at' : Ah blt a b rem (ka + 1) kb (o.push b[kb]) := ⟨hg', by omega, by omega, by omega, by omega, by omega⟩
      refine w_ite (fun d2 => ?_) (fun d2 => ?_)
      · exact wpS_pure ⟨rfl, .inr ⟨rfl, at'⟩⟩
      · exact wpS_pure ⟨rfl, rfl, at'⟩
  rintro ⟨r, ka, kb, o, ca, cb⟩ st' ⟨rfl, h⟩
  rcases h with ⟨r', e, gd⟩ | ⟨e, h⟩
  · simp only at e
    subst e
    refine wpS_pure ?_
    exact wpS_pure (hQ _ g gd)
  simp only at e h
  subst e
  dsimp only
  refine wpS_bind (w_rule ?_)
  -- in leaps
  refine wpS_bind (wpS_mono (Q := fun (c : Option (Array Keyed) × Nat × Nat × Array Keyed × Nat × Nat × Nat) st' => ∃ g', st' = setG st g' ∧ ((∃ r, c.1 = some r ∧ Good blt (a.toList ++ b.toList) r) ∨ (c.1 = none ∧ Ah blt a b (rem - 1) c.2.1 c.2.2.1 c.2.2.2.1)))
    (wpS_forRange (fun j (c : Option (Array Keyed) × Nat × Nat × Array Keyed × Nat × Nat × Nat) st' => ∃ g', st' = setG st g' ∧ c.1 = none ∧ Ah blt a b (if j = 0 then rem else rem - 1) c.2.1 c.2.2.1 c.2.2.2.1) ?_ (fun c st' ⟨g', h1, h2, h3⟩ => ⟨g', h1, .inr ⟨h2, by rw [if_neg (by omega)] at h3; exact h3⟩⟩) ⟨g, rfl, rfl, by simpa using h⟩) ?_)
  · rintro j ⟨r, ka, kb, o, mg', ca, cb⟩ st' _ hj ⟨g', rfl, rfl, h⟩
    dsimp only at h
    dsimp only
    obtain ⟨hg, a1, a2, b1, b2, hr⟩ := h
    have hr' : ka + kb ≤ rem := by
      split at hr <;> omega
    obtain ⟨kb, rfl⟩ : ∃ k, kb = k + 1 := ⟨kb - 1, by omega⟩
    have ex := arr_get (show kb < b.size by omega)
    rw [Nat.add_sub_cancel]
    refine w_ite (fun _ => ?_) (fun _ => ?_)
    all_goals
      refine wpS_bind (wpS_modify ?_)
      refine wpS_bind (w_elem ex (wpS_bind (w_gallop (left := false) (X := fun i => (a[0 + i]?).getD b0) O C hk (fun i hi => ?_) (fun i hi => ?_) (SB ex) (fun i l hil hl' => ?_) (by omega) fun k hk1 p1 p2 => ?_)))
      · rw [arr_get (show 0 + i < a.size by omega)]; rfl
      · rw [arr_get (show 0 + i < a.size by omega)]; exact SA (arr_get (show 0 + i < a.size by omega))
      · rw [arr_get (show 0 + i < a.size by omega), arr_get (show 0 + l < a.size by omega)]
        exact srt_at O sa Sa (toList_get (arr_get (show 0 + i < a.size by omega))) (toList_get (arr_get (show 0 + l < a.size by omega))) (by omega)
      have la : ∀ q (h : q < a.size), q < k → blt b[kb] a[q] = false := fun q h hq => by
        have := p1 q hq
        rw [Nat.zero_add, arr_get h] at this
        simpa using this
      refine w_ite (fun k0 => ?_) (fun k0 => ?_)
      · have hg2 : Hg blt (a.toList ++ b.toList) (a.toList.take k) (b.toList.take (kb + 1)) (o ++ (a.extract k ka).reverse).toList.reverse := by
          rw [Array.toList_append, Array.toList_reverse, List.reverse_append, List.reverse_reverse, ext_toList]
          rw [take_split a.toList hk1] at hg
          refine hg.takeA fun x hx y hy => ?_
          obtain ⟨q, hq, rfl⟩ := List.mem_iff_getElem.mp hx
          have hq2 : q < ka - k := by simp only [List.length_take] at hq; omega
          have e1 := p2 (k + q) (by omega) (by omega)
          rw [Nat.zero_add, arr_get (show k + q < a.size by omega)] at e1
          simp only [Bool.false_eq_true, if_false, Option.getD_some, Bool.not_eq_false'] at e1
          have e2 : ((a.toList.drop k).take (ka - k))[q] = a[k + q]'(by omega) := by simp
          rw [e2]
          have sx := SA (arr_get (show k + q < a.size by omega))
          exact O.tr _ _ _ (tkB hy) (SB ex) sx (srt_upto O sb Sb (toList_get ex) hy) (O.asy _ _ (SB ex) sx e1)
        refine w_ite (fun d1 => ?_) (fun d1 => ?_)
        · exact wpS_pure ⟨_, rfl, .inl ⟨_, rfl, fin _ _ _ hg2 (.inr (beq_iff_eq.mp d1))⟩⟩
        have d1' : ¬ k = 0 := fun z => d1 (beq_iff_eq.mpr z)
        obtain ⟨out2, ho2⟩ : ∃ q, q = o ++ (a.extract k ka).reverse := ⟨_, rfl⟩
        rw [← ho2] at hg2 ⊢
        clear ho2
        obtain ⟨na2, hna⟩ : ∃ q, q = k := ⟨_, rfl⟩
        have lt2 : ∀ q (h : q < na2), blt b[kb] (a[q]'(by omega)) = false := fun q h => la q (by omega) (by omega)
        rw [← hna] at hg2 ⊢
        obtain ⟨ia2, rfl⟩ : ∃ q, na2 = q + 1 := ⟨na2 - 1, by omega⟩
        have ey2 := arr_get (show ia2 < a.size by omega)
        refine wpS_bind (w_elem ex ?_)
        have hg3 := stepB hg2 ex ey2 (lt2 ia2 (by omega))
        refine w_ite (fun d3 => ?_) (fun d3 => ?_)
        · have d3' : kb = 1 := beq_iff_eq.mp d3
          subst d3'
          exact wpS_pure ⟨_, rfl, .inl ⟨_, rfl, frst _ _ hg3⟩⟩
        have d3' : ¬ kb = 1 := fun z => d3 (beq_iff_eq.mpr z)
        rw [Nat.add_sub_cancel]
        refine wpS_bind (w_elem ey2 (wpS_bind (w_gallop (left := true) (X := fun i => (b[0 + i]?).getD b0) O C hk (fun i hi => ?_) (fun i hi => ?_) (SA ey2) (fun i l hil hl' => ?_) (by omega) fun k2 hk2 p1 p2 => ?_)))
        · rw [arr_get (show 0 + i < b.size by omega)]; rfl
        · rw [arr_get (show 0 + i < b.size by omega)]; exact SB (arr_get (show 0 + i < b.size by omega))
        · rw [arr_get (show 0 + i < b.size by omega), arr_get (show 0 + l < b.size by omega)]
          exact srt_at O sb Sb (toList_get (arr_get (show 0 + i < b.size by omega))) (toList_get (arr_get (show 0 + l < b.size by omega))) (by omega)
        have lb : ∀ q (h : q < b.size), q < k2 → blt a[ia2] b[q] = false := fun q h hq => by
          have := p1 q hq
          rw [Nat.zero_add, arr_get h] at this
          exact O.asy _ _ (SB (arr_get h)) (SA ey2) (by simpa using this)
        refine w_ite (fun k20 => ?_) (fun k20 => ?_)
        · have hg4 : Hg blt (a.toList ++ b.toList) (a.toList.take (ia2 + 1)) (b.toList.take k2) (out2.push b[kb] ++ (b.extract k2 kb).reverse).toList.reverse := by
            rw [Array.toList_append, Array.toList_reverse, List.reverse_append, List.reverse_reverse, ext_toList]
            rw [take_split b.toList hk2] at hg3
            refine hg3.takeB fun x hx y hy => ?_
            obtain ⟨q, hq, rfl⟩ := List.mem_iff_getElem.mp hx
            have hq2 : q < kb - k2 := by simp only [List.length_take] at hq; omega
            have e1 := p2 (k2 + q) (by omega) (by omega)
            rw [Nat.zero_add, arr_get (show k2 + q < b.size by omega)] at e1
            simp only [if_true, Option.getD_some] at e1
            have e2 : ((b.toList.drop k2).take (kb - k2))[q] = b[k2 + q]'(by omega) := by simp
            rw [e2]
            have sx := SB (arr_get (show k2 + q < b.size by omega))
            exact O.tr _ _ _ (tkA hy) (SA ey2) sx (srt_upto O sa Sa (toList_get ey2) hy) e1
          refine w_ite (fun d4 => ?_) (fun d4 => ?_)
          · have d4' : k2 = 1 := beq_iff_eq.mp d4
            subst d4'
            exact wpS_pure ⟨_, rfl, .inl ⟨_, rfl, frst _ _ hg4⟩⟩
          have d4' : ¬ k2 = 1 := fun z => d4 (beq_iff_eq.mpr z)
          refine w_ite (fun d6 => ?_) (fun d6 => ?_)
          · exact wpS_pure ⟨_, rfl, .inl ⟨_, rfl, fin _ _ _ hg4 (.inl (beq_iff_eq.mp d6))⟩⟩
          have d6' : ¬ k2 = 0 := fun z => d6 (beq_iff_eq.mpr z)
          have le4 : ∀ q (h : q < b.size), blt a[ia2] b[q] = false ∨ ¬ q < k2 := fun q h => by
            by_cases z : q < k2
            · exact .inl (lb q h z)
            · exact .inr z
          have le4 : ∀ q (h : q < k2), blt a[ia2] (b[q]'(by omega)) = false := fun q h => lb q (by omega) h
          obtain ⟨out4, ho4⟩ : ∃ q, q = out2.push b[kb] ++ (b.extract k2 kb).reverse := ⟨_, rfl⟩
          rw [← ho4] at hg4 ⊢
          clear ho4
          obtain ⟨ib4, hib⟩ : ∃ q, q = k2 := ⟨_, rfl⟩
          have le4 : ∀ q (h : q < ib4), blt a[ia2] (b[q]'(by omega)) = false := fun q h => le4 q (by omega)
          rw [← hib] at hg4 ⊢
          obtain ⟨ib5, rfl⟩ : ∃ q, ib4 = q + 1 := ⟨ib4 - 1, by omega⟩
          refine wpS_bind (w_elem ey2 ?_)
          have hg5 := stepA hg4 ey2 (arr_get (show ib5 < b.size by omega)) (le4 ib5 (by omega))
          refine w_ite (fun d5 => ?_) (fun d5 => ?_)
          · exact wpS_pure ⟨_, rfl, .inl ⟨_, rfl, fin _ _ _ hg5 (.inr (beq_iff_eq.mp d5))⟩⟩
          have d5' : ¬ ia2 = 0 := fun z => d5 (beq_iff_eq.mpr z)
          have at5 : Ah blt a b (rem - 1) ia2 (ib5 + 1) (out4.push a[ia2]) := ⟨hg5, by omega, by omega, by omega, by omega, by omega⟩
          refine w_ite (fun _ => ?_) (fun _ => ?_)
          · exact wpS_pure ⟨_, rfl, .inr ⟨rfl, at5⟩⟩
          · exact wpS_pure ⟨_, rfl, rfl, by rw [if_neg (by omega)]; exact at5⟩
        · have e : k2 = kb := by omega
          have hg4 := hg3
          have le4 : ∀ q (h : q < kb), blt a[ia2] (b[q]'(by omega)) = false := fun q h => lb q (by omega) (by omega)
          obtain ⟨out4, ho4⟩ : ∃ q, q = out2.push b[kb] := ⟨_, rfl⟩
          rw [← ho4] at hg4 ⊢
          clear ho4
          obtain ⟨ib4, hib⟩ : ∃ q, q = kb := ⟨_, rfl⟩
          have le4 : ∀ q (h : q < ib4), blt a[ia2] (b[q]'(by omega)) = false := fun q h => le4 q (by omega)
          rw [← hib] at hg4 ⊢
          obtain ⟨ib5, rfl⟩ : ∃ q, ib4 = q + 1 := ⟨ib4 - 1, by omega⟩
          refine wpS_bind (w_elem ey2 ?_)
          have hg5 := stepA hg4 ey2 (arr_get (show ib5 < b.size by omega)) (le4 ib5 (by omega))
          refine w_ite (fun d5 => ?_) (fun d5 => ?_)
          · exact wpS_pure ⟨_, rfl, .inl ⟨_, rfl, fin _ _ _ hg5 (.inr (beq_iff_eq.mp d5))⟩⟩
          have d5' : ¬ ia2 = 0 := fun z => d5 (beq_iff_eq.mpr z)
          have at5 : Ah blt a b (rem - 1) ia2 (ib5 + 1) (out4.push a[ia2]) := ⟨hg5, by omega, by omega, by omega, by omega, by omega⟩
          refine w_ite (fun _ => ?_) (fun _ => ?_)
          · exact wpS_pure ⟨_, rfl, .inr ⟨rfl, at5⟩⟩
          · exact wpS_pure ⟨_, rfl, rfl, by rw [if_neg (by omega)]; exact at5⟩
      · have e : k = ka := by omega
        have hg2 := hg
        obtain ⟨na2, hna⟩ : ∃ q, q = ka := ⟨_, rfl⟩
        have lt2 : ∀ q (h : q < na2), blt b[kb] (a[q]'(by omega)) = false := fun q h => la q (by omega) (by omega)
        rw [← hna] at hg2 ⊢
        obtain ⟨out2, ho2⟩ : ∃ q, q = o := ⟨_, rfl⟩
        rw [← ho2] at hg2 ⊢
        obtain ⟨ia2, rfl⟩ : ∃ q, na2 = q + 1 := ⟨na2 - 1, by omega⟩
        have ey2 := arr_get (show ia2 < a.size by omega)
        refine wpS_bind (w_elem ex ?_)
        have hg3 := stepB hg2 ex ey2 (lt2 ia2 (by omega))
        refine w_ite (fun d3 => ?_) (fun d3 => ?_)
        · have d3' : kb = 1 := beq_iff_eq.mp d3
          subst d3'
          exact wpS_pure ⟨_, rfl, .inl ⟨_, rfl, frst _ _ hg3⟩⟩
        have d3' : ¬ kb = 1 := fun z => d3 (beq_iff_eq.mpr z)
        rw [Nat.add_sub_cancel]
        refine wpS_bind (w_elem ey2 (wpS_bind (w_gallop (left := true) (X := fun i => (b[0 + i]?).getD b0) O C hk (fun i hi => ?_) (fun i hi => ?_) (SA ey2) (fun i l hil hl' => ?_) (by omega) fun k2 hk2 p1 p2 => ?_)))
        · rw [arr_get (show 0 + i < b.size by omega)]; rfl
        · rw [arr_get (show 0 + i < b.size by omega)]; exact SB (arr_get (show 0 + i < b.size by omega))
        · rw [arr_get (show 0 + i < b.size by omega), arr_get (show 0 + l < b.size by omega)]
          exact srt_at O sb Sb (toList_get (arr_get (show 0 + i < b.size by omega))) (toList_get (arr_get (show 0 + l < b.size by omega))) (by omega)
        have lb : ∀ q (h : q < b.size), q < k2 → blt a[ia2] b[q] = false := fun q h hq => by
          have := p1 q hq
          rw [Nat.zero_add, arr_get h] at this
          exact O.asy _ _ (SB (arr_get h)) (SA ey2) (by simpa using this)
        refine w_ite (fun k20 => ?_) (fun k20 => ?_)
        · have hg4 : Hg blt (a.toList ++ b.toList) (a.toList.take (ia2 + 1)) (b.toList.take k2) (out2.push b[kb] ++ (b.extract k2 kb).reverse).toList.reverse := by
            rw [Array.toList_append, Array.toList_reverse, List.reverse_append, List.reverse_reverse, ext_toList]
            rw [take_split b.toList hk2] at hg3
            refine hg3.takeB fun x hx y hy => ?_
            obtain ⟨q, hq, rfl⟩ := List.mem_iff_getElem.mp hx
            have hq2 : q < kb - k2 := by simp only [List.length_take] at hq; omega
            have e1 := p2 (k2 + q) (by omega) (by omega)
            rw [Nat.zero_add, arr_get (show k2 + q < b.size by omega)] at e1
            simp only [if_true, Option.getD_some] at e1
            have e2 : ((b.toList.drop k2).take (kb - k2))[q] = b[k2 + q]'(by omega) := by simp
            rw [e2]
            have sx := SB (arr_get (show k2 + q < b.size by omega))
            exact O.tr _ _ _ (tkA hy) (SA ey2) sx (srt_upto O sa Sa (toList_get ey2) hy) e1
          refine w_ite (fun d4 => ?_) (fun d4 => ?_)
          · have d4' : k2 = 1 := beq_iff_eq.mp d4
            subst d4'
            exact wpS_pure ⟨_, rfl, .inl ⟨_, rfl, frst _ _ hg4⟩⟩
          have d4' : ¬ k2 = 1 := fun z => d4 (beq_iff_eq.mpr z)
          refine w_ite (fun d6 => ?_) (fun d6 => ?_)
          · exact wpS_pure ⟨_, rfl, .inl ⟨_, rfl, fin _ _ _ hg4 (.inl (beq_iff_eq.mp d6))⟩⟩
          have d6' : ¬ k2 = 0 := fun z => d6 (beq_iff_eq.mpr z)
          have le4 : ∀ q (h : q < b.size), blt a[ia2] b[q] = false ∨ ¬ q < k2 := fun q h => by
            by_cases z : q < k2
            · exact .inl (lb q h z)
            · exact .inr z
          have le4 : ∀ q (h : q < k2), blt a[ia2] (b[q]'(by omega)) = false := fun q h => lb q (by omega) h
          obtain ⟨out4, ho4⟩ : ∃ q, q = out2.push b[kb] ++ (b.extract k2 kb).reverse := ⟨_, rfl⟩
          rw [← ho4] at hg4 ⊢
          clear ho4
          obtain ⟨ib4, hib⟩ : ∃ q, q = k2 := ⟨_, rfl⟩
          have le4 : ∀ q (h : q < ib4), blt a[ia2] (b[q]'(by omega)) = false := fun q h => le4 q (by omega)
          rw [← hib] at hg4 ⊢
          obtain ⟨ib5, rfl⟩ : ∃ q, ib4 = q + 1 := ⟨ib4 - 1, by omega⟩
          refine wpS_bind (w_elem ey2 ?_)
          have hg5 := stepA hg4 ey2 (arr_get (show ib5 < b.size by omega)) (le4 ib5 (by omega))
          refine w_ite (fun d5 => ?_) (fun d5 => ?_)
          · exact wpS_pure ⟨_, rfl, .inl ⟨_, rfl, fin _ _ _ hg5 (.inr (beq_iff_eq.mp d5))⟩⟩
          have d5' : ¬ ia2 = 0 := fun z => d5 (beq_iff_eq.mpr z)
          have at5 : Ah blt a b (rem - 1) ia2 (ib5 + 1) (out4.push a[ia2]) := ⟨hg5, by omega, by omega, by omega, by omega, by omega⟩
          refine w_ite (fun _ => ?_) (fun _ => ?_)
          · exact wpS_pure ⟨_, rfl, .inr ⟨rfl, at5⟩⟩
          · exact wpS_pure ⟨_, rfl, rfl, by rw [if_neg (by omega)]; exact at5⟩
        · have e : k2 = kb := by omega
          have hg4 := hg3
          have le4 : ∀ q (h : q < kb), blt a[ia2] (b[q]'(by omega)) = false := fun q h => lb q (by omega) (by omega)
          obtain ⟨out4, ho4⟩ : ∃ q, q = out2.push b[kb] := ⟨_, rfl⟩
          rw [← ho4] at hg4 ⊢
          clear ho4
          obtain ⟨ib4, hib⟩ : ∃ q, q = kb := ⟨_, rfl⟩
          have le4 : ∀ q (h : q < ib4), blt a[ia2] (b[q]'(by omega)) = false := fun q h => le4 q (by omega)
          rw [← hib] at hg4 ⊢
          obtain ⟨ib5, rfl⟩ : ∃ q, ib4 = q + 1 := ⟨ib4 - 1, by omega⟩
          refine wpS_bind (w_elem ey2 ?_)
          have hg5 := stepA hg4 ey2 (arr_get (show ib5 < b.size by omega)) (le4 ib5 (by omega))
          refine w_ite (fun d5 => ?_) (fun d5 => ?_)
          · exact wpS_pure ⟨_, rfl, .inl ⟨_, rfl, fin _ _ _ hg5 (.inr (beq_iff_eq.mp d5))⟩⟩
          have d5' : ¬ ia2 = 0 := fun z => d5 (beq_iff_eq.mpr z)
          have at5 : Ah blt a b (rem - 1) ia2 (ib5 + 1) (out4.push a[ia2]) := ⟨hg5, by omega, by omega, by omega, by omega, by omega⟩
          refine w_ite (fun _ => ?_) (fun _ => ?_)
          · exact wpS_pure ⟨_, rfl, .inr ⟨rfl, at5⟩⟩
          · exact wpS_pure ⟨_, rfl, rfl, by rw [if_neg (by omega)]; exact at5⟩
  rintro ⟨r, ka, kb, o, mg', ca, cb⟩ st' ⟨g', rfl, h⟩
  rcases h with ⟨r', e, gd⟩ | ⟨e, h⟩
  · simp only at e
    subst e
    refine wpS_pure ?_
    exact wpS_pure (hQ _ g' gd)
  simp only at e h
  subst e
  dsimp only
  refine wpS_bind (wpS_modify ?_)
  refine wpS_pure ?_
  refine ⟨_, rfl, rfl, rem - 1, ?_, h⟩
  have := h.hr
  have := h.a1
  omega
end
end TS
namespace TS
open PySem PyProof.Rows
structure Keep (xs ys : Array Keyed) (lo hi : Nat) : Prop where
  perm : ys.Perm xs
  out : ∀ k, (k < lo ∨ hi ≤ k) → ys[k]? = xs[k]?
theorem Keep.size {xs ys : Array Keyed} {lo hi : Nat} (h : Keep xs ys lo hi) : ys.size = xs.size := h.perm.size_eq
theorem Keep.refl (xs : Array Keyed) (lo hi : Nat) : Keep xs xs lo hi := ⟨Array.Perm.refl _, fun _ _ => rfl⟩
theorem Keep.trans {xs ys zs : Array Keyed} {lo hi : Nat} (h : Keep xs ys lo hi) (h' : Keep ys zs lo hi) : Keep xs zs lo hi := ⟨h'.perm.trans h.perm, fun k hk => (h'.out k hk).trans (h.out k hk)⟩
theorem Keep.mono {xs ys : Array Keyed} {lo hi lo' hi' : Nat} (h : Keep xs ys lo hi) (h1 : lo' ≤ lo) (h2 : hi ≤ hi') : Keep xs ys lo' hi' := ⟨h.perm, fun k hk => h.out k (by omega)⟩
theorem keep_mirror {xs : Array Keyed} {i j : Nat} (hj : j ≤ xs.size) : Keep xs (mirror xs i j ((j - i) / 2)) i j := ⟨mirror_perm _ _ _ _, fun k hk => by rw [getElem?_mirror_all hj, if_neg (by omega)]⟩
theorem keep_bubble {xs : Array Keyed} {src d : Nat} (hs : src < xs.size) (hd : d ≤ src) : Keep xs (bubble xs src d) (src - d) (src + 1) := ⟨bubble_perm _ _ _, fun k hk => by rw [getElem?_bubble hs d hd, if_neg (by omega), if_neg (by omega)]⟩
def Asc (blt : Keyed → Keyed → Bool) (xs : Array Keyed) (lo n : Nat) : Prop := ∀ i j, i ≤ j → j < n → ∀ x y, xs[lo + i]? = some x → xs[lo + j]? = some y → blt y x = false
def Des (blt : Keyed → Keyed → Bool) (xs : Array Keyed) (lo n : Nat) : Prop := ∀ i j, i ≤ j → j < n → ∀ x y, xs[lo + i]? = some x → xs[lo + j]? = some y → blt x y = false
abbrev AllS (S : Keyed → Prop) (xs : Array Keyed) : Prop := ∀ x ∈ xs.toList, S x
theorem AllS.at {S : Keyed → Prop} {xs : Array Keyed} (h : AllS S xs) {i : Nat} {x : Keyed} (e : xs[i]? = some x) : S x := h x (List.mem_of_getElem? (toList_get e))
theorem AllS.keep {S : Keyed → Prop} {xs ys : Array Keyed} {lo hi : Nat} (h : AllS S xs) (k : Keep xs ys lo hi) : AllS S ys := fun x hx => h x ((Array.perm_iff_toList_perm.mp k.perm).mem_iff.mp hx)
section
variable {S : Keyed → Prop} {blt : Keyed → Keyed → Bool} (O : Ord S blt)
include O
theorem Asc.one {xs : Array Keyed} {lo : Nat} (hS : AllS S xs) : Asc blt xs lo 1 := fun i j hij hj x y hx hy => by
  have : i = j := by omega
  subst this
  rw [hx] at hy; cases hy
  exact O.irr _ (hS.at hx)
theorem Des.one {xs : Array Keyed} {lo : Nat} (hS : AllS S xs) : Des blt xs lo 1 := fun i j hij hj x y hx hy => by
  have : i = j := by omega
  subst this
  rw [hx] at hy; cases hy
  exact O.irr _ (hS.at hx)
theorem Asc.snoc {xs : Array Keyed} {lo n : Nat} (hS : AllS S xs) (h : Asc blt xs lo n) (hn : 1 ≤ n) {x y : Keyed} (hx : xs[lo + n]? = some x) (hy : xs[lo + n - 1]? = some y) (hlt : blt x y = false) : Asc blt xs lo (n + 1) := fun i j hij hj u v hu hv => by
  by_cases hjn : j < n
  · exact h i j hij hjn u v hu hv
  · have e : j = n := by omega
    subst e
    rw [hx] at hv; cases hv
    by_cases hin : i < j
    · have e2 : lo + j - 1 = lo + (j - 1) := by omega
      rw [e2] at hy
      exact O.tr u y x (hS.at hu) (hS.at hy) (hS.at hx) (h i (j - 1) (by omega) (by omega) u y hu hy) hlt
    · have : i = j := by omega
      subst this
      rw [hx] at hu; cases hu
      exact O.irr _ (hS.at hx)
theorem Des.snoc {xs : Array Keyed} {lo n : Nat} (hS : AllS S xs) (h : Des blt xs lo n) (hn : 1 ≤ n) {x y : Keyed} (hx : xs[lo + n]? = some x) (hy : xs[lo + n - 1]? = some y) (hlt : blt y x = false) : Des blt xs lo (n + 1) := fun i j hij hj u v hu hv => by
  by_cases hjn : j < n
  · exact h i j hij hjn u v hu hv
  · have e : j = n := by omega
    subst e
    rw [hx] at hv; cases hv
    by_cases hin : i < j
    · have e2 : lo + j - 1 = lo + (j - 1) := by omega
      rw [e2] at hy
      exact O.tr x y u (hS.at hx) (hS.at hy) (hS.at hu) hlt (h i (j - 1) (by omega) (by omega) u y hu hy)
    · have : i = j := by omega
      subst this
      rw [hx] at hu; cases hu
      exact O.irr _ (hS.at hx)
omit O in
theorem Des.rev {xs : Array Keyed} {lo n : Nat} (h : Des blt xs lo n) (hz : lo + n ≤ xs.size) : Asc blt (mirror xs lo (lo + n) ((lo + n - lo) / 2)) lo n := fun i j hij hj x y hx hy => by
  rw [getElem?_mirror_all hz, if_pos (by omega)] at hx hy
  have e1 : lo + (lo + n) - 1 - (lo + i) = lo + (n - 1 - i) := by omega
  have e2 : lo + (lo + n) - 1 - (lo + j) = lo + (n - 1 - j) := by omega
  rw [e1] at hx
  rw [e2] at hy
  exact h (n - 1 - j) (n - 1 - i) (by omega) (by omega) y x hy hx
/-- the last q + 1 of the run are as good as equal -/
def Eqs (blt : Keyed → Keyed → Bool) (xs : Array Keyed) (lo n q : Nat) : Prop := q < n ∧ ∀ i j, n - (q + 1) ≤ i → i < n → n - (q + 1) ≤ j → j < n → ∀ x y, xs[lo + i]? = some x → xs[lo + j]? = some y → blt x y = false
omit O in
theorem Des.flip {xs : Array Keyed} {lo n q : Nat} (h : Des blt xs lo n) (e : Eqs blt xs lo n q) (hz : lo + n ≤ xs.size) : Des blt (mirror xs (lo + n - (q + 1)) (lo + n) ((lo + n - (lo + n - (q + 1))) / 2)) lo n := fun i j hij hj x y hx hy => by
  have hq := e.1
  rw [getElem?_mirror_all hz] at hx hy
  by_cases c1 : lo + n - (q + 1) ≤ lo + i ∧ lo + i < lo + n
  · rw [if_pos c1] at hx
    rw [if_pos (by omega)] at hy
    have e1 : lo + n - (q + 1) + (lo + n) - 1 - (lo + i) = lo + (n - (q + 1) + n - 1 - i) := by omega
    have e2 : lo + n - (q + 1) + (lo + n) - 1 - (lo + j) = lo + (n - (q + 1) + n - 1 - j) := by omega
    rw [e1] at hx
    rw [e2] at hy
    exact e.2 _ _ (by omega) (by omega) (by omega) (by omega) x y hx hy
  · rw [if_neg c1] at hx
    by_cases c2 : lo + n - (q + 1) ≤ lo + j ∧ lo + j < lo + n
    · rw [if_pos c2] at hy
      have e2 : lo + n - (q + 1) + (lo + n) - 1 - (lo + j) = lo + (n - (q + 1) + n - 1 - j) := by omega
      rw [e2] at hy
      exact h i _ (by omega) (by omega) x y hx hy
    · rw [if_neg c2] at hy
      exact h i j hij hj x y hx hy
end
section
variable {prog : Program} {w : World} {A : Around} {E : Value → Shared → Prop} {s : Shared} {κ : SortKind} {S : Keyed → Prop} {blt : Keyed → Keyed → Bool}
theorem w_ltAt (C : Cmp prog w A E s κ S blt) {st : SortSt} {i j : Nat} {x y : Keyed} {Q : Option Bool → SortSt → Prop} (hk : kindOf st = κ) (hS : AllS S (arrOf st)) (hx : (arrOf st)[i]? = some x) (hy : (arrOf st)[j]? = some y) (h : Q (some (blt x y)) st) :
    wpS (model prog w) A E s (ltAt' i j) Q st := by
  rw [ltAt'_eq]
  refine wpS_bind (wpS_get ?_)
  exact wpS_bind (w_elem hx (wpS_bind (w_elem hy (C x y st Q (hS.at hx) (hS.at hy) hk h))))
theorem w_rev {st : SortSt} {i j : Nat} {Q : Unit → SortSt → Prop} (h : Q () (setArr st (mirror (arrOf st) i j ((j - i) / 2)))) : wpS (model prog w) A E s (reverseSlice' i j) Q st := by
  rw [reverseSlice'_eq]
  exact wpS_modify h
/-- going on upwards -/
theorem w_asc (O : Ord S blt) (C : Cmp prog w A E s κ S blt) {st : SortSt} {lo n₀ nrem : Nat} {f : Nat → Option (Option Nat) × Nat → SM (ForInStep (Option (Option Nat) × Nat))} {Q : Option (Option Nat) × Nat → SortSt → Prop} (hk : kindOf st = κ) (hS : AllS S (arrOf st)) (hz : lo + nrem ≤ (arrOf st).size) (h1 : 1 ≤ n₀) (hn : n₀ ≤ nrem) (ha : Asc blt (arrOf st) lo n₀)
    (hf : ∀ i n, f i (none, n) = ltAt' (lo + n) (lo + n - 1) >>= fun x => match x with
      | some z => if z = true then pure (.done (none, n)) else pure (.yield (none, n + 1))
      | _ => pure (.done (some none, n)))
    (hq : ∀ n, n₀ ≤ n → n ≤ nrem → Asc blt (arrOf st) lo n → (n < nrem → ∀ x y, (arrOf st)[lo + n]? = some x → (arrOf st)[lo + n - 1]? = some y → blt x y = true) → Q (none, n) st) : wpS (model prog w) A E s (forIn [n₀:nrem] (none, n₀) f) Q st := by
  refine wpS_forRange (fun i c st' => st' = st ∧ c = (none, i) ∧ n₀ ≤ i ∧ Asc blt (arrOf st) lo i) ?_ ?_ ⟨rfl, rfl, Nat.le_refl _, ha⟩
  · rintro i c st' h1' h2' ⟨rfl, rfl, h3, h4⟩
    rw [hf]
    have ex := arr_get (show lo + i < (arrOf st').size by omega)
    have ey := arr_get (show lo + i - 1 < (arrOf st').size by omega)
    refine wpS_bind (w_ltAt C hk hS ex ey ?_)
    cases z : blt (arrOf st')[lo + i] (arrOf st')[lo + i - 1] with
    | true =>
      refine wpS_pure (hq i h3 (by omega) h4 fun _ x y hx hy => ?_)
      rw [ex] at hx; cases hx
      rw [ey] at hy; cases hy
      exact z
    | false => exact wpS_pure ⟨rfl, rfl, by omega, Asc.snoc O hS h4 (by omega) ex ey z⟩
  · rintro c st' ⟨rfl, rfl, h3, h4⟩
    have e : max n₀ nrem = nrem := by omega
    rw [e] at h4 ⊢
    exact hq nrem hn (Nat.le_refl _) h4 fun z => absurd z (Nat.lt_irrefl _)
theorem setArr_self (st : SortSt) : setArr st (arrOf st) = st := rfl
theorem w_countRun (O : Ord S blt) (C : Cmp prog w A E s κ S blt) {st : SortSt} {lo nrem : Nat} {Q : Option Nat → SortSt → Prop} (hk : kindOf st = κ) (hS : AllS S (arrOf st)) (hz : lo + nrem ≤ (arrOf st).size) (h1 : 1 ≤ nrem)
    (hq : ∀ n ys, 1 ≤ n → n ≤ nrem → Keep (arrOf st) ys lo (lo + nrem) → Asc blt ys lo n → Q (some n) (setArr st ys)) : wpS (model prog w) A E s (countRun' lo nrem) Q st := by
  refine wpS_bind (w_asc O C hk hS hz (Nat.le_refl 1) h1 (Asc.one O hS) (fun i n => bnd _ fun x => by cases x <;> rfl) fun n n1 n2 asc nxt => ?_)
  dsimp only
  refine w_ite (fun c1 => ?_) (fun c1 => ?_)
  · exact wpS_pure (setArr_self st ▸ hq n _ n1 n2 (Keep.refl _ _ _) asc)
  have hn : n < nrem := by
    have : ¬ n = nrem := fun z => c1 (beq_iff_eq.mpr z)
    omega
  have ex := arr_get (show lo + n < (arrOf st).size by omega)
  have ey := arr_get (show lo + n - 1 < (arrOf st).size by omega)
  have drop := nxt hn _ _ ex ey
  have e0 := arr_get (show lo < (arrOf st).size by omega)
  refine w_ite (fun hn1 => ?_) (fun hn1 => ?_)
  · refine wpS_bind (w_ltAt C hk hS e0 ey ?_)
    cases z : blt (arrOf st)[lo] (arrOf st)[lo + n - 1] with
    | true => exact wpS_pure (setArr_self st ▸ hq n _ n1 n2 (Keep.refl _ _ _) asc)
    | false =>
      refine wpS_bind (w_rev ?_)
      have kx := (keep_mirror (xs := arrOf st) (i := lo) (j := lo + n) (by omega)).mono (Nat.le_refl _) (show lo + n ≤ lo + nrem by omega)
      have eqv : ∀ i j, i < n → j < n → ∀ x y, (arrOf st)[lo + i]? = some x → (arrOf st)[lo + j]? = some y → blt x y = false := fun i j hi hj x y hx hy => by
        have l1 := asc 0 j (by omega) hj _ y (by rw [Nat.add_zero]; exact e0) hy
        have l2 := asc i (n - 1) (by omega) (by omega) x _ hx (by rw [show lo + (n - 1) = lo + n - 1 by omega]; exact ey)
        exact O.tr y _ x (hS.at hy) (hS.at ey) (hS.at hx) (O.tr y _ _ (hS.at hy) (hS.at ey) (hS.at ey) (asc j (n - 1) (by omega) (by omega) y _ hy (by rw [show lo + (n - 1) = lo + n - 1 by omega]; exact ey)) (O.irr _ (hS.at ey))) (O.tr _ _ x (hS.at ey) (hS.at e0) (hS.at hx) z (asc 0 i (by omega) hi _ x (by rw [Nat.add_zero]; exact e0) hx))
      have des : Des blt (mirror (arrOf st) lo (lo + n) ((lo + n - lo) / 2)) lo (n + 1) := by
        have hSx := hS.keep kx
        have d1 : Des blt (mirror (arrOf st) lo (lo + n) ((lo + n - lo) / 2)) lo n := fun i j hij hj x y hx hy => by
          rw [getElem?_mirror_all (show lo + n ≤ (arrOf st).size by omega), if_pos (by omega)] at hx hy
          rw [show lo + (lo + n) - 1 - (lo + i) = lo + (n - 1 - i) by omega] at hx
          rw [show lo + (lo + n) - 1 - (lo + j) = lo + (n - 1 - j) by omega] at hy
          exact eqv _ _ (by omega) (by omega) x y hx hy
        have e1 : (mirror (arrOf st) lo (lo + n) ((lo + n - lo) / 2))[lo + n]? = some (arrOf st)[lo + n] := by
          rw [getElem?_mirror_all (show lo + n ≤ (arrOf st).size by omega), if_neg (by omega)]
          exact ex
        have e2 : (mirror (arrOf st) lo (lo + n) ((lo + n - lo) / 2))[lo + n - 1]? = some (arrOf st)[lo] := by
          rw [getElem?_mirror_all (show lo + n ≤ (arrOf st).size by omega), if_pos (by omega), show lo + (lo + n) - 1 - (lo + n - 1) = lo by omega]
          exact e0
        exact Des.snoc O hSx d1 (by omega) e1 e2 (O.tr _ _ _ (hS.at ex) (hS.at ey) (hS.at e0) (O.asy _ _ (hS.at ex) (hS.at ey) drop) (eqv 0 (n - 1) (by omega) (by omega) _ _ (by rw [Nat.add_zero]; exact e0) (by rw [show lo + (n - 1) = lo + n - 1 by omega]; exact ey)))
      obtain ⟨xs, hxs⟩ : ∃ xs, xs = mirror (arrOf st) lo (lo + n) ((lo + n - lo) / 2) := ⟨_, rfl⟩
      rw [← hxs] at kx des
      show wpS _ _ _ _ _ _ (setArr st (mirror (arrOf st) lo (lo + n) ((lo + n - lo) / 2)))
      rw [← hxs]
      have hSx := hS.keep kx
      refine wpS_bind (w_rule ?_)
      refine wpS_bind (wpS_mono (Q := fun (c : Option (Option Nat) × Nat × Nat) st' => ∃ ys, st' = setArr st ys ∧ c.1 = none ∧ n + 1 ≤ c.2.1 ∧ c.2.1 ≤ nrem ∧ Keep (arrOf st) ys lo (lo + nrem) ∧ Des blt ys lo c.2.1 ∧ Eqs blt ys lo c.2.1 c.2.2)
        (wpS_forRange (fun i (c : Option (Option Nat) × Nat × Nat) st' => ∃ ys, st' = setArr st ys ∧ c.1 = none ∧ c.2.1 = i ∧ n + 1 ≤ i ∧ Keep (arrOf st) ys lo (lo + nrem) ∧ Des blt ys lo c.2.1 ∧ Eqs blt ys lo c.2.1 c.2.2) ?_ ?_ ⟨xs, rfl, rfl, rfl, Nat.le_refl _, kx, des, by simp only; omega, ?_⟩) ?_)
      · rintro i ⟨r, m, q⟩ st' i1 i2 ⟨ys, rfl, rfl, hi, hm, ky, dy, eq⟩
        simp only at hi
        subst hi
        simp only at ky dy eq
        dsimp only
        have hSy := hS.keep ky
        have zy : lo + nrem ≤ ys.size := by rw [ky.size]; exact hz
        have ex := arr_get (show lo + m < ys.size by omega)
        have ey := arr_get (show lo + m - 1 < ys.size by omega)
        refine wpS_bind (w_ltAt C (st := setArr st ys) hk hSy ex ey ?_)
        have hq1 := eq.1
        cases z : blt ys[lo + m] ys[lo + m - 1] with
        | true =>
          dsimp only
          refine w_ite (fun _ => ?_) (fun z => absurd rfl z)
          have key : ∀ zs, Keep ys zs lo (lo + m) → Des blt zs lo m → (∀ x, zs[lo + m - 1]? = some x → blt x ys[lo + m] = false) → wpS (model prog w) A E s (pure (ForInStep.yield ((none, m + 1, 0) : Option (Option Nat) × Nat × Nat)) : SM _) (fun r st' => match r with
              | .done c => ∃ ys, st' = setArr st ys ∧ c.1 = none ∧ n + 1 ≤ c.2.1 ∧ c.2.1 ≤ nrem ∧ Keep (arrOf st) ys lo (lo + nrem) ∧ Des blt ys lo c.2.1 ∧ Eqs blt ys lo c.2.1 c.2.2
              | .yield c => ∃ ys, st' = setArr st ys ∧ c.1 = none ∧ c.2.1 = m + 1 ∧ n + 1 ≤ m + 1 ∧ Keep (arrOf st) ys lo (lo + nrem) ∧ Des blt ys lo c.2.1 ∧ Eqs blt ys lo c.2.1 c.2.2) (setArr st zs) := by
            intro zs kz dz hlt
            have kz' := ky.trans (kz.mono (Nat.le_refl _) (show lo + m ≤ lo + nrem by omega))
            have hSz := hS.keep kz'
            have e1 : zs[lo + m]? = some ys[lo + m] := by rw [kz.out (lo + m) (.inr (by omega))]; exact ex
            have zz : lo + m - 1 < zs.size := by rw [kz.size]; omega
            refine wpS_pure ⟨zs, rfl, rfl, rfl, by omega, kz', Des.snoc O hSz dz (by omega) e1 (arr_get zz) (hlt _ (arr_get zz)), by simp only; omega, fun a b a1 a2 b1 b2 x y hx hy => ?_⟩
            simp only at a1 a2 b1 b2
            have e3 : a = m := by omega
            have e4 : b = m := by omega
            subst e3 e4
            rw [hx] at hy; cases hy
            exact O.irr _ (hSz.at hx)
          refine w_ite (fun q0 => ?_) (fun q0 => ?_)
          · refine wpS_bind (w_rev ?_)
            have km := keep_mirror (xs := ys) (i := lo + m - (q + 1)) (j := lo + m) (by omega)
            refine key _ (km.mono (show lo ≤ lo + m - (q + 1) by have := eq.1; omega) (Nat.le_refl _)) (dy.flip eq (by omega)) fun x hx => ?_
            rw [getElem?_mirror_all (show lo + m ≤ ys.size by omega), if_pos (by omega)] at hx
            have e1 : lo + m - (q + 1) + (lo + m) - 1 - (lo + m - 1) = lo + (m - (q + 1)) := by omega
            rw [e1] at hx
            have e2 : ys[lo + (m - 1)]? = some ys[lo + m - 1] := by rw [show lo + (m - 1) = lo + m - 1 by omega]; exact ey
            have le1 := dy (m - (q + 1)) (m - 1) (by omega) (by omega) x _ hx e2
            exact O.tr _ _ _ (hSy.at ex) (hSy.at ey) (hSy.at hx) (O.asy _ _ (hSy.at ex) (hSy.at ey) z) le1
          · refine key ys (Keep.refl _ _ _) dy fun x hx => ?_
            rw [ey] at hx; cases hx
            exact O.asy _ _ (hSy.at ex) (hSy.at ey) z
        | false =>
          dsimp only
          refine w_ite (fun z => absurd z Bool.false_ne_true) (fun _ => ?_)
          refine wpS_bind (w_ltAt C (st := setArr st ys) hk hSy ey ex ?_)
          cases z2 : blt ys[lo + m - 1] ys[lo + m] with
          | true =>
            dsimp only
            refine w_ite (fun _ => ?_) (fun z => absurd rfl z)
            exact wpS_pure ⟨ys, rfl, rfl, hm, by simp only; omega, ky, dy, eq⟩
          | false =>
            dsimp only
            refine w_ite (fun z => absurd z Bool.false_ne_true) (fun _ => ?_)
            refine wpS_pure ⟨ys, rfl, rfl, rfl, by omega, ky, Des.snoc O hSy dy (by omega) ex ey z2, by simp only; omega, fun a b a1 a2 b1 b2 x y hx hy => ?_⟩
            simp only at a1 a2 b1 b2
            have e2 : ys[lo + (m - 1)]? = some ys[lo + m - 1] := by rw [show lo + (m - 1) = lo + m - 1 by omega]; exact ey
            by_cases ha : a = m
            · subst ha
              rw [ex] at hx; cases hx
              by_cases hb : b = a
              · subst hb
                rw [ex] at hy; cases hy
                exact O.irr _ (hSy.at ex)
              · exact O.tr y ys[lo + a - 1] _ (hSy.at hy) (hSy.at ey) (hSy.at ex) (eq.2 (a - 1) b (by omega) (by omega) (by omega) (by omega) _ y e2 hy) z
            · by_cases hb : b = m
              · subst hb
                rw [ex] at hy; cases hy
                exact O.tr _ ys[lo + b - 1] x (hSy.at ex) (hSy.at ey) (hSy.at hx) z2 (eq.2 a (b - 1) (by omega) (by omega) (by omega) (by omega) x _ hx e2)
              · exact eq.2 a b (by omega) (by omega) (by omega) (by omega) x y hx hy
      · rintro ⟨r, m, q⟩ st' ⟨ys, rfl, rfl, hi, hm, ky, dy, eq⟩
        simp only at hi
        subst hi
        simp only at ky dy eq
        exact ⟨ys, rfl, rfl, by simp only; omega, by simp only; omega, ky, dy, eq⟩
      · intro a b a1 a2 b1 b2 x y hx hy
        simp only at a1 a2 b1 b2
        have e3 : a = n := by omega
        have e4 : b = n := by omega
        subst e3 e4
        rw [hx] at hy; cases hy
        exact O.irr _ (hSx.at hx)
      · rintro ⟨r, m, q⟩ st' ⟨ys, rfl, rfl, m1, m2, ky, dy, eq⟩
        simp only at ky dy eq m1 m2
        dsimp only
        have zy : lo + nrem ≤ ys.size := by rw [ky.size]; exact hz
        refine w_ite (fun q0 => ?_) (fun q0 => ?_)
        · refine wpS_bind (w_rev ?_)
          have kz := (keep_mirror (xs := ys) (i := lo + m - (q + 1)) (j := lo + m) (by omega)).mono (show lo ≤ lo + m - (q + 1) by have := eq.1; omega) (Nat.le_refl _)
          have dz := dy.flip eq (by omega)
          obtain ⟨zs, hzs⟩ : ∃ zs, zs = mirror ys (lo + m - (q + 1)) (lo + m) ((lo + m - (lo + m - (q + 1))) / 2) := ⟨_, rfl⟩
          rw [← hzs] at kz dz
          show wpS _ _ _ _ _ _ (setArr st (mirror ys (lo + m - (q + 1)) (lo + m) ((lo + m - (lo + m - (q + 1))) / 2)))
          rw [← hzs]
          have kz' := ky.trans (kz.mono (Nat.le_refl _) (show lo + m ≤ lo + nrem by omega))
          have zz : lo + nrem ≤ zs.size := by rw [kz'.size]; exact hz
          refine wpS_bind (w_rev ?_)
          have km := keep_mirror (xs := zs) (i := lo) (j := lo + m) (by omega)
          have k3 := kz'.trans (km.mono (Nat.le_refl _) (show lo + m ≤ lo + nrem by omega))
          refine wpS_bind (w_asc O C (st := setArr st (mirror zs lo (lo + m) ((lo + m - lo) / 2))) hk (hS.keep k3) (by rw [show arrOf (setArr st (mirror zs lo (lo + m) ((lo + m - lo) / 2))) = mirror zs lo (lo + m) ((lo + m - lo) / 2) from rfl, mirror_size]; exact zz) (by omega) m2 (dz.rev (by omega)) (fun i n => bnd _ fun x => by cases x <;> rfl) fun n' n1' n2' asc' _ => ?_)
          exact wpS_pure (hq n' _ (by omega) n2' k3 asc')
        · have kz := Keep.refl ys lo (lo + m)
          have dz := dy
          obtain ⟨zs, hzs⟩ : ∃ zs, zs = ys := ⟨_, rfl⟩
          rw [← hzs] at dz ⊢
          have kz : Keep ys zs lo (lo + m) := by rw [hzs]; exact kz
          have kz' := ky.trans (kz.mono (Nat.le_refl _) (show lo + m ≤ lo + nrem by omega))
          have zz : lo + nrem ≤ zs.size := by rw [kz'.size]; exact hz
          refine wpS_bind (w_rev ?_)
          have km := keep_mirror (xs := zs) (i := lo) (j := lo + m) (by omega)
          have k3 := kz'.trans (km.mono (Nat.le_refl _) (show lo + m ≤ lo + nrem by omega))
          refine wpS_bind (w_asc O C (st := setArr st (mirror zs lo (lo + m) ((lo + m - lo) / 2))) hk (hS.keep k3) (by rw [show arrOf (setArr st (mirror zs lo (lo + m) ((lo + m - lo) / 2))) = mirror zs lo (lo + m) ((lo + m - lo) / 2) from rfl, mirror_size]; exact zz) (by omega) m2 (dz.rev (by omega)) (fun i n => bnd _ fun x => by cases x <;> rfl) fun n' n1' n2' asc' _ => ?_)
          exact wpS_pure (hq n' _ (by omega) n2' k3 asc')
  · have e : n = 1 := by omega
    have kx := Keep.refl (arrOf st) lo (lo + nrem)
    have des : Des blt (arrOf st) lo (n + 1) := by
      subst e
      exact Des.snoc O hS (Des.one O hS) (Nat.le_refl _) ex ey (O.asy _ _ (hS.at ex) (hS.at ey) drop)
    obtain ⟨xs, hxs⟩ : ∃ xs, xs = arrOf st := ⟨_, rfl⟩
    rw [← hxs] at des
    have kx : Keep (arrOf st) xs lo (lo + nrem) := by rw [hxs]; exact kx
    show wpS _ _ _ _ _ _ (setArr st (arrOf st))
    rw [← hxs]
    have hSx := hS.keep kx
    refine wpS_bind (w_rule ?_)
    refine wpS_bind (wpS_mono (Q := fun (c : Option (Option Nat) × Nat × Nat) st' => ∃ ys, st' = setArr st ys ∧ c.1 = none ∧ n + 1 ≤ c.2.1 ∧ c.2.1 ≤ nrem ∧ Keep (arrOf st) ys lo (lo + nrem) ∧ Des blt ys lo c.2.1 ∧ Eqs blt ys lo c.2.1 c.2.2)
      (wpS_forRange (fun i (c : Option (Option Nat) × Nat × Nat) st' => ∃ ys, st' = setArr st ys ∧ c.1 = none ∧ c.2.1 = i ∧ n + 1 ≤ i ∧ Keep (arrOf st) ys lo (lo + nrem) ∧ Des blt ys lo c.2.1 ∧ Eqs blt ys lo c.2.1 c.2.2) ?_ ?_ ⟨xs, rfl, rfl, rfl, Nat.le_refl _, kx, des, by simp only; omega, ?_⟩) ?_)
    · rintro i ⟨r, m, q⟩ st' i1 i2 ⟨ys, rfl, rfl, hi, hm, ky, dy, eq⟩
      simp only at hi
      subst hi
      simp only at ky dy eq
      dsimp only
      have hSy := hS.keep ky
      have zy : lo + nrem ≤ ys.size := by rw [ky.size]; exact hz
      have ex := arr_get (show lo + m < ys.size by omega)
      have ey := arr_get (show lo + m - 1 < ys.size by omega)
      refine wpS_bind (w_ltAt C (st := setArr st ys) hk hSy ex ey ?_)
      have hq1 := eq.1
      cases z : blt ys[lo + m] ys[lo + m - 1] with
      | true =>
        dsimp only
        refine w_ite (fun _ => ?_) (fun z => absurd rfl z)
        have key : ∀ zs, Keep ys zs lo (lo + m) → Des blt zs lo m → (∀ x, zs[lo + m - 1]? = some x → blt x ys[lo + m] = false) → wpS (model prog w) A E s (pure (ForInStep.yield ((none, m + 1, 0) : Option (Option Nat) × Nat × Nat)) : SM _) (fun r st' => match r with
            | .done c => ∃ ys, st' = setArr st ys ∧ c.1 = none ∧ n + 1 ≤ c.2.1 ∧ c.2.1 ≤ nrem ∧ Keep (arrOf st) ys lo (lo + nrem) ∧ Des blt ys lo c.2.1 ∧ Eqs blt ys lo c.2.1 c.2.2
            | .yield c => ∃ ys, st' = setArr st ys ∧ c.1 = none ∧ c.2.1 = m + 1 ∧ n + 1 ≤ m + 1 ∧ Keep (arrOf st) ys lo (lo + nrem) ∧ Des blt ys lo c.2.1 ∧ Eqs blt ys lo c.2.1 c.2.2) (setArr st zs) := by
          intro zs kz dz hlt
          have kz' := ky.trans (kz.mono (Nat.le_refl _) (show lo + m ≤ lo + nrem by omega))
          have hSz := hS.keep kz'
          have e1 : zs[lo + m]? = some ys[lo + m] := by rw [kz.out (lo + m) (.inr (by omega))]; exact ex
          have zz : lo + m - 1 < zs.size := by rw [kz.size]; omega
          refine wpS_pure ⟨zs, rfl, rfl, rfl, by omega, kz', Des.snoc O hSz dz (by omega) e1 (arr_get zz) (hlt _ (arr_get zz)), by simp only; omega, fun a b a1 a2 b1 b2 x y hx hy => ?_⟩
          simp only at a1 a2 b1 b2
          have e3 : a = m := by omega
          have e4 : b = m := by omega
          subst e3 e4
          rw [hx] at hy; cases hy
          exact O.irr _ (hSz.at hx)
        refine w_ite (fun q0 => ?_) (fun q0 => ?_)
        · refine wpS_bind (w_rev ?_)
          have km := keep_mirror (xs := ys) (i := lo + m - (q + 1)) (j := lo + m) (by omega)
          refine key _ (km.mono (show lo ≤ lo + m - (q + 1) by have := eq.1; omega) (Nat.le_refl _)) (dy.flip eq (by omega)) fun x hx => ?_
          rw [getElem?_mirror_all (show lo + m ≤ ys.size by omega), if_pos (by omega)] at hx
          have e1 : lo + m - (q + 1) + (lo + m) - 1 - (lo + m - 1) = lo + (m - (q + 1)) := by omega
          rw [e1] at hx
          have e2 : ys[lo + (m - 1)]? = some ys[lo + m - 1] := by rw [show lo + (m - 1) = lo + m - 1 by omega]; exact ey
          have le1 := dy (m - (q + 1)) (m - 1) (by omega) (by omega) x _ hx e2
          exact O.tr _ _ _ (hSy.at ex) (hSy.at ey) (hSy.at hx) (O.asy _ _ (hSy.at ex) (hSy.at ey) z) le1
        · refine key ys (Keep.refl _ _ _) dy fun x hx => ?_
          rw [ey] at hx; cases hx
          exact O.asy _ _ (hSy.at ex) (hSy.at ey) z
      | false =>
        dsimp only
        refine w_ite (fun z => absurd z Bool.false_ne_true) (fun _ => ?_)
        refine wpS_bind (w_ltAt C (st := setArr st ys) hk hSy ey ex ?_)
        cases z2 : blt ys[lo + m - 1] ys[lo + m] with
        | true =>
          dsimp only
          refine w_ite (fun _ => ?_) (fun z => absurd rfl z)
          exact wpS_pure ⟨ys, rfl, rfl, hm, by simp only; omega, ky, dy, eq⟩
        | false =>
          dsimp only
          refine w_ite (fun z => absurd z Bool.false_ne_true) (fun _ => ?_)
          refine wpS_pure ⟨ys, rfl, rfl, rfl, by omega, ky, Des.snoc O hSy dy (by omega) ex ey z2, by simp only; omega, fun a b a1 a2 b1 b2 x y hx hy => ?_⟩
          simp only at a1 a2 b1 b2
          have e2 : ys[lo + (m - 1)]? = some ys[lo + m - 1] := by rw [show lo + (m - 1) = lo + m - 1 by omega]; exact ey
          by_cases ha : a = m
          · subst ha
            rw [ex] at hx; cases hx
            by_cases hb : b = a
            · subst hb
              rw [ex] at hy; cases hy
              exact O.irr _ (hSy.at ex)
            · exact O.tr y ys[lo + a - 1] _ (hSy.at hy) (hSy.at ey) (hSy.at ex) (eq.2 (a - 1) b (by omega) (by omega) (by omega) (by omega) _ y e2 hy) z
          · by_cases hb : b = m
            · subst hb
              rw [ex] at hy; cases hy
              exact O.tr _ ys[lo + b - 1] x (hSy.at ex) (hSy.at ey) (hSy.at hx) z2 (eq.2 a (b - 1) (by omega) (by omega) (by omega) (by omega) x _ hx e2)
            · exact eq.2 a b (by omega) (by omega) (by omega) (by omega) x y hx hy
    · rintro ⟨r, m, q⟩ st' ⟨ys, rfl, rfl, hi, hm, ky, dy, eq⟩
      simp only at hi
      subst hi
      simp only at ky dy eq
      exact ⟨ys, rfl, rfl, by simp only; omega, by simp only; omega, ky, dy, eq⟩
    · intro a b a1 a2 b1 b2 x y hx hy
      simp only at a1 a2 b1 b2
      have e3 : a = n := by omega
      have e4 : b = n := by omega
      subst e3 e4
      rw [hx] at hy; cases hy
      exact O.irr _ (hSx.at hx)
    · rintro ⟨r, m, q⟩ st' ⟨ys, rfl, rfl, m1, m2, ky, dy, eq⟩
      simp only at ky dy eq m1 m2
      dsimp only
      have zy : lo + nrem ≤ ys.size := by rw [ky.size]; exact hz
      refine w_ite (fun q0 => ?_) (fun q0 => ?_)
      · refine wpS_bind (w_rev ?_)
        have kz := (keep_mirror (xs := ys) (i := lo + m - (q + 1)) (j := lo + m) (by omega)).mono (show lo ≤ lo + m - (q + 1) by have := eq.1; omega) (Nat.le_refl _)
        have dz := dy.flip eq (by omega)
        obtain ⟨zs, hzs⟩ : ∃ zs, zs = mirror ys (lo + m - (q + 1)) (lo + m) ((lo + m - (lo + m - (q + 1))) / 2) := ⟨_, rfl⟩
        rw [← hzs] at kz dz
        show wpS _ _ _ _ _ _ (setArr st (mirror ys (lo + m - (q + 1)) (lo + m) ((lo + m - (lo + m - (q + 1))) / 2)))
        rw [← hzs]
        have kz' := ky.trans (kz.mono (Nat.le_refl _) (show lo + m ≤ lo + nrem by omega))
        have zz : lo + nrem ≤ zs.size := by rw [kz'.size]; exact hz
        refine wpS_bind (w_rev ?_)
        have km := keep_mirror (xs := zs) (i := lo) (j := lo + m) (by omega)
        have k3 := kz'.trans (km.mono (Nat.le_refl _) (show lo + m ≤ lo + nrem by omega))
        refine wpS_bind (w_asc O C (st := setArr st (mirror zs lo (lo + m) ((lo + m - lo) / 2))) hk (hS.keep k3) (by rw [show arrOf (setArr st (mirror zs lo (lo + m) ((lo + m - lo) / 2))) = mirror zs lo (lo + m) ((lo + m - lo) / 2) from rfl, mirror_size]; exact zz) (by omega) m2 (dz.rev (by omega)) (fun i n => bnd _ fun x => by cases x <;> rfl) fun n' n1' n2' asc' _ => ?_)
        exact wpS_pure (hq n' _ (by omega) n2' k3 asc')
      · have kz := Keep.refl ys lo (lo + m)
        have dz := dy
        obtain ⟨zs, hzs⟩ : ∃ zs, zs = ys := ⟨_, rfl⟩
        rw [← hzs] at dz ⊢
        have kz : Keep ys zs lo (lo + m) := by rw [hzs]; exact kz
        have kz' := ky.trans (kz.mono (Nat.le_refl _) (show lo + m ≤ lo + nrem by omega))
        have zz : lo + nrem ≤ zs.size := by rw [kz'.size]; exact hz
        refine wpS_bind (w_rev ?_)
        have km := keep_mirror (xs := zs) (i := lo) (j := lo + m) (by omega)
        have k3 := kz'.trans (km.mono (Nat.le_refl _) (show lo + m ≤ lo + nrem by omega))
        refine wpS_bind (w_asc O C (st := setArr st (mirror zs lo (lo + m) ((lo + m - lo) / 2))) hk (hS.keep k3) (by rw [show arrOf (setArr st (mirror zs lo (lo + m) ((lo + m - lo) / 2))) = mirror zs lo (lo + m) ((lo + m - lo) / 2) from rfl, mirror_size]; exact zz) (by omega) m2 (dz.rev (by omega)) (fun i n => bnd _ fun x => by cases x <;> rfl) fun n' n1' n2' asc' _ => ?_)
        exact wpS_pure (hq n' _ (by omega) n2' k3 asc')
end
end TS
namespace TS
open PySem PyProof.Rows
section
variable {prog : Program} {w : World} {A : Around} {E : Value → Shared → Prop} {s : Shared} {κ : SortKind} {S : Keyed → Prop} {blt : Keyed → Keyed → Bool}
theorem w_down {st : SortSt} {i j : Nat} {Q : Unit → SortSt → Prop} (h : Q () (setArr st (bubble (arrOf st) i (i - j)))) : wpS (model prog w) A E s (moveDown' i j) Q st := by
  rw [moveDown'_eq]
  exact wpS_modify h
theorem Asc.put (O : Ord S blt) {xs : Array Keyed} {lo k l : Nat} (hS : AllS S xs) (h : Asc blt xs lo k) (hl : l ≤ k) (hz : lo + k < xs.size) {x : Keyed} (hx : xs[lo + k]? = some x) (h1 : ∀ i, i < l → ∀ y, xs[lo + i]? = some y → blt x y = false) (h2 : ∀ i, l ≤ i → i < k → ∀ y, xs[lo + i]? = some y → blt x y = true) :
    Asc blt (bubble xs (lo + k) (lo + k - (lo + l))) lo (k + 1) := fun i j hij hj u v hu hv => by
  have e : ∀ m, m ≤ k → (bubble xs (lo + k) (lo + k - (lo + l)))[lo + m]? = if m = l then xs[lo + k]? else if l < m then xs[lo + (m - 1)]? else xs[lo + m]? := fun m hm => by
    rw [getElem?_bubble hz _ (by omega)]
    by_cases c1 : m = l
    · rw [if_pos (by omega), if_pos c1]
    · rw [if_neg (by omega), if_neg c1]
      by_cases c2 : l < m
      · rw [if_pos (by omega), if_pos c2, show lo + m - 1 = lo + (m - 1) by omega]
      · rw [if_neg (by omega), if_neg c2]
  rw [e i (by omega)] at hu
  rw [e j (by omega)] at hv
  by_cases c1 : i = l
  · rw [if_pos c1, hx] at hu
    cases hu
    by_cases c2 : j = l
    · rw [if_pos c2, hx] at hv
      cases hv
      exact O.irr _ (hS.at hx)
    · rw [if_neg c2, if_pos (by omega)] at hv
      exact O.asy _ _ (hS.at hx) (hS.at hv) (h2 (j - 1) (by omega) (by omega) v hv)
  · rw [if_neg c1] at hu
    by_cases c3 : l < i
    · rw [if_pos c3] at hu
      rw [if_neg (by omega), if_pos (by omega)] at hv
      exact h (i - 1) (j - 1) (by omega) (by omega) u v hu hv
    · rw [if_neg c3] at hu
      by_cases c2 : j = l
      · rw [if_pos c2, hx] at hv
        cases hv
        exact h1 i (by omega) u hu
      · rw [if_neg c2] at hv
        by_cases c4 : l < j
        · rw [if_pos c4] at hv
          exact h i (j - 1) (by omega) (by omega) u v hu hv
        · rw [if_neg c4] at hv
          exact h i j hij (by omega) u v hu hv
theorem w_binary (O : Ord S blt) (C : Cmp prog w A E s κ S blt) {st : SortSt} {lo n ok : Nat} {Q : Bool → SortSt → Prop} (hk : kindOf st = κ) (hS : AllS S (arrOf st)) (hz : lo + n ≤ (arrOf st).size) (h1 : 1 ≤ ok) (hn : ok ≤ n) (ha : Asc blt (arrOf st) lo ok)
    (hq : ∀ ys, Keep (arrOf st) ys lo (lo + n) → Asc blt ys lo n → Q true (setArr st ys)) : wpS (model prog w) A E s (binarySort' lo n ok) Q st := by
  have em : max ok 1 = ok := by omega
  refine wpS_bind (wpS_mono (Q := fun (c : Option Bool × Unit) st' => ∃ ys, st' = setArr st ys ∧ c.1 = none ∧ Keep (arrOf st) ys lo (lo + n) ∧ Asc blt ys lo n)
    (wpS_forRange (fun k (c : Option Bool × Unit) st' => ∃ ys, st' = setArr st ys ∧ c.1 = none ∧ Keep (arrOf st) ys lo (lo + n) ∧ Asc blt ys lo k) ?_ ?_ ⟨arrOf st, rfl, rfl, Keep.refl _ _ _, by rw [em]; exact ha⟩) ?_)
  · rintro k ⟨r, u⟩ st' k1 k2 ⟨ys, rfl, rfl, ky, ay⟩
    rw [em] at k1
    have hSy := hS.keep ky
    have zy : lo + n ≤ ys.size := by rw [ky.size]; exact hz
    have ex := arr_get (show lo + k < ys.size by omega)
    refine wpS_bind (wpS_mono (Q := fun (c : Option Bool × Nat × Nat) st' => st' = setArr st ys ∧ c.1 = none ∧ c.2.1 ≤ k ∧ (∀ i, i < c.2.1 → ∀ y, ys[lo + i]? = some y → blt ys[lo + k] y = false) ∧ ∀ i, c.2.1 ≤ i → i < k → ∀ y, ys[lo + i]? = some y → blt ys[lo + k] y = true)
      (wpS_forRange (fun i (c : Option Bool × Nat × Nat) st' => st' = setArr st ys ∧ c.1 = none ∧ c.2.1 ≤ c.2.2 ∧ c.2.2 ≤ k ∧ c.2.2 - c.2.1 + i ≤ k ∧ (∀ i, i < c.2.1 → ∀ y, ys[lo + i]? = some y → blt ys[lo + k] y = false) ∧ ∀ i, c.2.2 ≤ i → i < k → ∀ y, ys[lo + i]? = some y → blt ys[lo + k] y = true) ?_ ?_
        ⟨rfl, rfl, by simp only; omega, by simp only; omega, by simp only; omega, fun i hi => absurd hi (Nat.not_lt_zero _), fun i hi hi' => by simp only at hi; omega⟩) ?_)
    · rintro i ⟨r, l, h⟩ st' _ hi ⟨rfl, rfl, a1, a2, a3, a4, a5⟩
      simp only at a1 a2 a3 a4 a5
      dsimp only
      refine w_ite (fun c1 => ?_) (fun c1 => ?_)
      · have e : l = h := by omega
        subst e
        exact wpS_pure ⟨rfl, rfl, a2, a4, a5⟩
      have em2 := arr_get (show lo + (l + h) / 2 < ys.size by omega)
      refine wpS_bind (w_ltAt C (st := setArr st ys) hk hSy ex em2 ?_)
      cases z : blt ys[lo + k] ys[lo + (l + h) / 2] with
      | true =>
        refine wpS_pure ⟨rfl, rfl, by simp only; omega, by simp only; omega, by simp only; omega, a4, fun q hq1 hq2 y hy => ?_⟩
        simp only at hq1
        have le := ay ((l + h) / 2) q hq1 hq2 _ y em2 hy
        cases z2 : blt ys[lo + k] y with
        | true => rfl
        | false =>
          have := O.tr _ _ _ (hSy.at em2) (hSy.at hy) (hSy.at ex) le z2
          rw [z] at this
          cases this
      | false =>
        refine wpS_pure ⟨rfl, rfl, by simp only; omega, by simp only; omega, by simp only; omega, fun q hq1 y hy => ?_, a5⟩
        simp only at hq1
        have le := ay q ((l + h) / 2) (by omega) (by omega) y _ hy em2
        exact O.tr _ _ _ (hSy.at hy) (hSy.at em2) (hSy.at ex) le z
    · rintro ⟨r, l, h⟩ st' ⟨rfl, rfl, a1, a2, a3, a4, a5⟩
      simp only at a1 a2 a3 a4 a5
      have e : l = h := by omega
      subst e
      exact ⟨rfl, rfl, a2, a4, a5⟩
    · rintro ⟨r, l, h⟩ st' ⟨rfl, e, a2, a4, a5⟩
      simp only at e a2 a4 a5
      subst e
      refine wpS_bind (w_down ?_)
      refine wpS_pure ⟨_, rfl, rfl, ky.trans ((keep_bubble (xs := ys) (src := lo + k) (d := lo + k - (lo + l)) (by omega) (by omega)).mono (show lo ≤ lo + k - (lo + k - (lo + l)) by omega) (show lo + k + 1 ≤ lo + n by omega)), Asc.put O hSy ay a2 (show lo + k < ys.size by omega) ex a4 a5⟩
  · rintro ⟨r, u⟩ st' ⟨ys, rfl, rfl, ky, ay⟩
    rw [show max (max ok 1) n = n by omega] at ay
    exact ⟨ys, rfl, rfl, ky, ay⟩
  · rintro ⟨r, u⟩ st' ⟨ys, rfl, e, ky, ay⟩
    simp only at e
    subst e
    exact wpS_pure (hq ys ky ay)
theorem wb_get (o : Nat) : ∀ (l : List Keyed) (t : Nat) (xs : Array Keyed), o + t + l.length ≤ xs.size → ∀ k,
    ((l.zipIdx t).foldl (fun (a : Array Keyed) (x : Keyed × Nat) => match x with | (p, j) => a.setIfInBounds (o + j) p) xs)[k]? = if o + t ≤ k ∧ k < o + t + l.length then l[k - (o + t)]? else xs[k]?
  | [], t, xs, _, k => by
    rw [if_neg (by simp)]
    rfl
  | x :: r, t, xs, h, k => by
    rw [List.length_cons] at h
    have ih := wb_get o r (t + 1) (xs.setIfInBounds (o + t) x) (by rw [Array.size_setIfInBounds]; omega) k
    rw [List.zipIdx_cons, List.foldl_cons]
    show (List.foldl _ (xs.setIfInBounds (o + t) x) (r.zipIdx (t + 1)))[k]? = _
    rw [ih, List.length_cons]
    by_cases c1 : o + (t + 1) ≤ k ∧ k < o + (t + 1) + r.length
    · rw [if_pos c1, if_pos (by omega), show k - (o + t) = k - (o + (t + 1)) + 1 by omega, List.getElem?_cons_succ]
    · rw [if_neg c1]
      by_cases c2 : k = o + t
      · subst c2
        rw [if_pos (by omega), Nat.sub_self]
        simp [show o + t < xs.size by omega]
      · rw [if_neg (by omega)]
        rw [Array.getElem?_setIfInBounds_ne (by omega)]
def wb (xs m : Array Keyed) (o : Nat) : Array Keyed := (m.toList.zipIdx).foldl (fun (a : Array Keyed) (x : Keyed × Nat) => match x with | (p, j) => a.setIfInBounds (o + j) p) xs
theorem wb_at {xs m : Array Keyed} {o : Nat} (h : o + m.size ≤ xs.size) (k : Nat) : (wb xs m o)[k]? = if o ≤ k ∧ k < o + m.size then m[k - o]? else xs[k]? := by
  have := wb_get o m.toList 0 xs (by simpa using h) k
  unfold wb
  rw [this]
  simp
theorem wb_keep {xs m : Array Keyed} {o : Nat} (h : o + m.size ≤ xs.size) (hp : m.toList.Perm (xs.extract o (o + m.size)).toList) : Keep xs (wb xs m o) o (o + m.size) := by
  refine ⟨?_, fun k hk => by rw [wb_at h, if_neg (by omega)]⟩
  rw [Array.perm_iff_toList_perm]
  have e1 : (wb xs m o).toList = xs.toList.take o ++ m.toList ++ xs.toList.drop (o + m.size) := by
    apply List.ext_getElem?
    intro k
    have e : (wb xs m o).toList[k]? = (wb xs m o)[k]? := by simp
    rw [e, wb_at h]
    have lt : (xs.toList.take o).length = o := by simp; omega
    by_cases c1 : k < o
    · rw [if_neg (by omega), List.append_assoc, List.getElem?_append_left (by omega), List.getElem?_take_of_lt c1]
      simp
    · by_cases c2 : k < o + m.size
      · rw [if_pos (by omega), List.append_assoc, List.getElem?_append_right (by omega), lt, List.getElem?_append_left (by simp; omega)]
        simp
      · rw [if_neg (by omega), List.getElem?_append_right (by rw [List.length_append, lt]; simp; omega), List.getElem?_drop, List.length_append, lt]
        rw [show o + m.size + (k - (o + m.toList.length)) = k by simp; omega]
        simp
  have e2 : xs.toList = xs.toList.take o ++ (xs.extract o (o + m.size)).toList ++ xs.toList.drop (o + m.size) := by
    rw [ext_toList, Nat.add_sub_cancel_left]
    have := take_split xs.toList (i := o) (n := o + m.size) (by omega)
    rw [Nat.add_sub_cancel_left] at this
    rw [← this, List.take_append_drop]
  rw [e1]
  refine List.Perm.trans ?_ (List.Perm.of_eq e2.symm)
  exact List.Perm.append_right _ (List.Perm.append_left _ hp)
theorem ext_get {xs : Array Keyed} {i j k : Nat} (hj : j ≤ xs.size) (h : k < j - i) : (xs.extract i j)[k]? = xs[i + k]? := by
  rw [Array.getElem?_extract]
  rw [if_pos (by omega)]
theorem ext_size {xs : Array Keyed} {i j : Nat} (hj : j ≤ xs.size) : (xs.extract i j).size = j - i := by
  rw [Array.size_extract]
  omega
theorem Asc.srt {xs : Array Keyed} {lo n i j : Nat} (h : Asc blt xs lo n) (h1 : lo ≤ i) (h2 : j ≤ lo + n) (hz : j ≤ xs.size) : Srt blt (xs.extract i j).toList := by
  refine List.pairwise_iff_getElem.mpr fun p q hp hq hpq => ?_
  have hp' : p < j - i := by
    have z := hp
    rw [Array.length_toList, ext_size hz] at z
    exact z
  have hq' : q < j - i := by
    have z := hq
    rw [Array.length_toList, ext_size hz] at z
    exact z
  have e1 : xs[lo + (i - lo + p)]? = some (xs.extract i j).toList[p] := by
    rw [show lo + (i - lo + p) = i + p by omega, ← ext_get hz hp']
    simp [ext_size hz, hp']
  have e2 : xs[lo + (i - lo + q)]? = some (xs.extract i j).toList[q] := by
    rw [show lo + (i - lo + q) = i + q by omega, ← ext_get hz hq']
    simp [ext_size hz, hq']
  exact h _ _ (by omega) (by omega) _ _ e1 e2
theorem mem_ext {xs : Array Keyed} {i j : Nat} {y : Keyed} (hz : j ≤ xs.size) (h : y ∈ (xs.extract i j).toList) : ∃ q, q < j - i ∧ xs[i + q]? = some y := by
  obtain ⟨q, hq, rfl⟩ := List.mem_iff_getElem.mp h
  have hq' : q < j - i := by
    have z := hq
    rw [Array.length_toList, ext_size hz] at z
    exact z
  refine ⟨q, hq', ?_⟩
  rw [← ext_get hz hq']
  simp [ext_size hz, hq']
abbrev setP (st : SortSt) (xs : Array Keyed) (p : Array (Nat × Nat × Nat)) (g : Nat) : SortSt := SortSt.mk' (kindOf st) xs p g (failedOf st)
theorem w_mergeAt (O : Ord S blt) (C : Cmp prog w A E s κ S blt) {st : SortSt} {i sa na pw nb pw2 : Nat} {Q : Bool → SortSt → Prop} (hk : kindOf st = κ) (hf : failedOf st = none) (hS : AllS S (arrOf st)) (e1 : (pendingOf st)[i]? = some (sa, na, pw)) (e2 : (pendingOf st)[i + 1]? = some (sa + na, nb, pw2))
    (na1 : 1 ≤ na) (nb1 : 1 ≤ nb) (hz : sa + na + nb ≤ (arrOf st).size) (aa : Asc blt (arrOf st) sa na) (ab : Asc blt (arrOf st) (sa + na) nb)
    (hq : ∀ ys g, Keep (arrOf st) ys sa (sa + na + nb) → Asc blt ys sa (na + nb) → Q true (setP st ys (((pendingOf st).setIfInBounds i (sa, na + nb, pw)).eraseIdxIfInBounds (i + 1)) g)) : wpS (model prog w) A E s (mergeAt' i) Q st := by
  refine wpS_bind (wpS_get ?_)
  rw [e1, e2]
  dsimp only
  refine wpS_bind (wpS_modify (f := fun _ => setP st (arrOf st) (((pendingOf st).setIfInBounds i (sa, na + nb, pw)).eraseIdxIfInBounds (i + 1)) (gallopOf st)) ?_)
  generalize ((pendingOf st).setIfInBounds i (sa, na + nb, pw)).eraseIdxIfInBounds (i + 1) = P at *
  have eb := arr_get (show sa + na < (arrOf st).size by omega)
  refine wpS_bind (w_elem eb (wpS_bind (w_gallop (left := false) (X := fun q => ((arrOf st)[sa + q]?).getD (arrOf st)[sa + na]) O C hk (fun q hq => ?_) (fun q hq => ?_) (hS.at eb) (fun p q hpq hq => ?_) (by omega) fun k k1 p1 p2 => ?_)))
  · rw [arr_get (show sa + q < (arrOf st).size by omega)]; rfl
  · rw [arr_get (show sa + q < (arrOf st).size by omega)]; exact hS.at (arr_get (show sa + q < (arrOf st).size by omega))
  · rw [arr_get (show sa + p < (arrOf st).size by omega), arr_get (show sa + q < (arrOf st).size by omega)]
    exact aa p q hpq hq _ _ (arr_get (show sa + p < (arrOf st).size by omega)) (arr_get (show sa + q < (arrOf st).size by omega))
  have below : ∀ q, q < k → ∀ y, (arrOf st)[sa + q]? = some y → blt (arrOf st)[sa + na] y = false := fun q hq y hy => by
    have := p1 q hq
    rw [hy] at this
    simpa using this
  have above : ∀ q, k ≤ q → q < na → ∀ y, (arrOf st)[sa + q]? = some y → blt (arrOf st)[sa + na] y = true := fun q hq hq2 y hy => by
    have := p2 q hq hq2
    rw [hy] at this
    simpa using this
  -- nothing stands above the second's first: it is one run already
  have joined : (∀ q, q < na → ∀ y, (arrOf st)[sa + q]? = some y → ∀ r, r < nb → ∀ z, (arrOf st)[sa + na + r]? = some z → blt z y = false) → Asc blt (arrOf st) sa (na + nb) := fun h p q hpq hq x y hx hy => by
    by_cases c1 : q < na
    · exact aa p q hpq c1 x y hx hy
    · by_cases c2 : p < na
      · exact h p c2 x hx (q - na) (by omega) y (by rw [show sa + na + (q - na) = sa + q by omega]; exact hy)
      · exact ab (p - na) (q - na) (by omega) (by omega) x y (by rw [show sa + na + (p - na) = sa + p by omega]; exact hx) (by rw [show sa + na + (q - na) = sa + q by omega]; exact hy)
  have first_le : ∀ r, r < nb → ∀ z, (arrOf st)[sa + na + r]? = some z → blt z (arrOf st)[sa + na] = false := fun r hr z hz' => ab 0 r (Nat.zero_le _) hr _ z (by rw [Nat.add_zero]; exact eb) hz'
  dsimp only
  refine w_ite (fun c1 => ?_) (fun c1 => ?_)
  · have c1' : k = na := by
      have := beq_iff_eq.mp c1
      omega
    refine wpS_pure (hq _ _ (Keep.refl _ _ _) (joined fun q hq y hy r hr z hz' => ?_))
    exact O.tr _ _ _ (hS.at hy) (hS.at eb) (hS.at hz') (below q (by omega) y hy) (first_le r hr z hz')
  have kn : k < na := by
    have : ¬ na - k = 0 := fun z => c1 (beq_iff_eq.mpr z)
    omega
  have el := arr_get (show sa + k + (na - k) - 1 < (arrOf st).size by omega)
  have last_ge : ∀ q, q < na → ∀ y, (arrOf st)[sa + q]? = some y → blt (arrOf st)[sa + k + (na - k) - 1] y = false := fun q hq y hy => aa q (na - 1) (by omega) (by omega) y _ hy (by rw [show sa + (na - 1) = sa + k + (na - k) - 1 by omega]; exact el)
  refine wpS_bind (w_elem el (wpS_bind (w_gallop (left := true) (X := fun q => ((arrOf st)[sa + na + q]?).getD (arrOf st)[sa + na]) O C hk (fun q hq => ?_) (fun q hq => ?_) (hS.at el) (fun p q hpq hq => ?_) (by omega) fun k2 k21 q1 q2 => ?_)))
  · rw [arr_get (show sa + na + q < (arrOf st).size by omega)]; rfl
  · rw [arr_get (show sa + na + q < (arrOf st).size by omega)]; exact hS.at (arr_get (show sa + na + q < (arrOf st).size by omega))
  · rw [arr_get (show sa + na + p < (arrOf st).size by omega), arr_get (show sa + na + q < (arrOf st).size by omega)]
    exact ab p q hpq hq _ _ (arr_get (show sa + na + p < (arrOf st).size by omega)) (arr_get (show sa + na + q < (arrOf st).size by omega))
  have under : ∀ r, r < k2 → ∀ z, (arrOf st)[sa + na + r]? = some z → blt z (arrOf st)[sa + k + (na - k) - 1] = true := fun r hr z hz' => by
    have := q1 r hr
    rw [hz'] at this
    simpa using this
  have over : ∀ r, k2 ≤ r → r < nb → ∀ z, (arrOf st)[sa + na + r]? = some z → blt z (arrOf st)[sa + k + (na - k) - 1] = false := fun r hr hr2 z hz' => by
    have := q2 r hr hr2
    rw [hz'] at this
    simpa using this
  dsimp only
  refine w_ite (fun c2 => ?_) (fun c2 => ?_)
  · have c2' : k2 = 0 := beq_iff_eq.mp c2
    refine wpS_pure (hq _ _ (Keep.refl _ _ _) (joined fun q hq y hy r hr z hz' => ?_))
    exact O.tr _ _ _ (hS.at hy) (hS.at el) (hS.at hz') (last_ge q hq y hy) (over r (by omega) hr z hz')
  have k2n : 1 ≤ k2 := by
    have : ¬ k2 = 0 := fun z => c2 (beq_iff_eq.mpr z)
    omega
  -- what is merged
  have zx : sa + na ≤ (arrOf st).size := by omega
  have zy : sa + na + k2 ≤ (arrOf st).size := by omega
  have sx : (((arrOf st).extract (sa + k) (sa + na))).size = na - k := by rw [ext_size zx]; omega
  have sy : (((arrOf st).extract (sa + na) (sa + na + k2))).size = k2 := by rw [ext_size zy]; omega
  have Sx : ∀ x ∈ ((arrOf st).extract (sa + k) (sa + na)).toList, S x := fun x hx => let ⟨q, _, e⟩ := mem_ext zx hx; hS.at e
  have Sy : ∀ x ∈ ((arrOf st).extract (sa + na) (sa + na + k2)).toList, S x := fun x hx => let ⟨q, _, e⟩ := mem_ext zy hx; hS.at e
  have srx : Srt blt ((arrOf st).extract (sa + k) (sa + na)).toList := aa.srt (by omega) (by omega) zx
  have sry : Srt blt ((arrOf st).extract (sa + na) (sa + na + k2)).toList := ab.srt (by omega) (by omega) zy
  have ea0 : ((arrOf st).extract (sa + k) (sa + na))[0]? = some (arrOf st)[sa + k] := by rw [ext_get zx (by omega), Nat.add_zero]; exact arr_get _
  have eb0 : ((arrOf st).extract (sa + na) (sa + na + k2))[0]? = some (arrOf st)[sa + na] := by rw [ext_get zy (by omega), Nat.add_zero]; exact eb
  have eal : ((arrOf st).extract (sa + k) (sa + na))[((arrOf st).extract (sa + k) (sa + na)).size - 1]? = some (arrOf st)[sa + k + (na - k) - 1] := by rw [sx, ext_get zx (by omega), show sa + k + (na - k - 1) = sa + k + (na - k) - 1 by omega]; exact el
  have h0 : blt (arrOf st)[sa + na] (arrOf st)[sa + k] = true := above k (Nat.le_refl _) kn _ (arr_get _)
  have hl : ∀ y ∈ ((arrOf st).extract (sa + na) (sa + na + k2)).toList, blt (arrOf st)[sa + k + (na - k) - 1] y = false := fun y hy => by
    obtain ⟨q, hq1, e⟩ := mem_ext zy hy
    exact O.asy _ _ (hS.at e) (hS.at el) (under q (by omega) y e)
  have done : ∀ m g, Good blt (((arrOf st).extract (sa + k) (sa + na)).toList ++ ((arrOf st).extract (sa + na) (sa + na + k2)).toList) m → Q true (setP st (wb (arrOf st) m (sa + k)) P g) := by
    intro m g gd
    have ms : m.size = na - k + k2 := by
      have := gd.perm.length_eq
      rw [List.length_append, Array.length_toList, Array.length_toList, Array.length_toList, sx, sy] at this
      exact this
    have hzm : sa + k + m.size ≤ (arrOf st).size := by omega
    have ej : ((arrOf st).extract (sa + k) (sa + k + m.size)).toList = ((arrOf st).extract (sa + k) (sa + na)).toList ++ ((arrOf st).extract (sa + na) (sa + na + k2)).toList := by
      rw [ext_toList, ext_toList, ext_toList, ms]
      rw [show sa + k + (na - k + k2) - (sa + k) = na - k + k2 by omega, show sa + na - (sa + k) = na - k by omega, Nat.add_sub_cancel_left]
      have := take_split ((arrOf st).toList.drop (sa + k)) (i := na - k) (n := na - k + k2) (by omega)
      rw [this, List.drop_drop, Nat.add_sub_cancel_left, show sa + k + (na - k) = sa + na by omega]
    have kp := wb_keep (xs := arrOf st) (m := m) (o := sa + k) hzm (by rw [ej]; exact gd.perm)
    refine hq _ g (kp.mono (show sa ≤ sa + k by omega) (show sa + k + m.size ≤ sa + na + nb by omega)) fun p q hpq hq' x y hx hy => ?_
    have mm : ∀ t u, m[t]? = some u → (∃ r, k ≤ r ∧ r < na ∧ (arrOf st)[sa + r]? = some u) ∨ ∃ r, r < k2 ∧ (arrOf st)[sa + na + r]? = some u := fun t u hu => by
      have h1 := gd.perm.mem_iff.mp (List.mem_of_getElem? (toList_get hu))
      rcases List.mem_append.mp h1 with h1 | h1
      · obtain ⟨r, hr, e⟩ := mem_ext zx h1
        exact .inl ⟨k + r, by omega, by omega, by rw [show sa + (k + r) = sa + k + r by omega]; exact e⟩
      · obtain ⟨r, hr, e⟩ := mem_ext zy h1
        exact .inr ⟨r, by omega, e⟩
    rw [wb_at hzm] at hx hy
    by_cases c3 : sa + k ≤ sa + p ∧ sa + p < sa + k + m.size
    · rw [if_pos c3] at hx
      by_cases c4 : sa + k ≤ sa + q ∧ sa + q < sa + k + m.size
      · rw [if_pos c4] at hy
        have sm : ∀ z ∈ m.toList, S z := fun z hz' => by
          have := gd.perm.mem_iff.mp hz'
          rcases List.mem_append.mp this with h1 | h1
          · exact Sx z h1
          · exact Sy z h1
        exact srt_at O gd.srt sm (toList_get hx) (toList_get hy) (by omega)
      · rw [if_neg c4] at hy
        have hyy : (arrOf st)[sa + na + (q - na)]? = some y := by rw [show sa + na + (q - na) = sa + q by omega]; exact hy
        rcases mm _ x hx with ⟨r, r1, r2, er⟩ | ⟨r, r1, er⟩
        · exact O.tr _ _ _ (hS.at er) (hS.at el) (hS.at hy) (last_ge r r2 x er) (over (q - na) (by omega) (by omega) y hyy)
        · exact ab r (q - na) (by omega) (by omega) x y er hyy
    · rw [if_neg c3] at hx
      by_cases c4 : sa + k ≤ sa + q ∧ sa + q < sa + k + m.size
      · rw [if_pos c4] at hy
        rcases mm _ y hy with ⟨r, r1, r2, er⟩ | ⟨r, r1, er⟩
        · exact aa p r (by omega) r2 x y hx er
        · exact O.tr _ _ _ (hS.at hx) (hS.at eb) (hS.at er) (below p (by omega) x hx) (first_le r (by omega) y er)
      · rw [if_neg c4] at hy
        by_cases c5 : q < k
        · exact aa p q hpq (by omega) x y hx hy
        · have hyy : (arrOf st)[sa + na + (q - na)]? = some y := by rw [show sa + na + (q - na) = sa + q by omega]; exact hy
          by_cases c6 : p < k
          · exact O.tr _ _ _ (hS.at hx) (hS.at eb) (hS.at hy) (below p c6 x hx) (first_le (q - na) (by omega) y hyy)
          · exact ab (p - na) (q - na) (by omega) (by omega) x y (by rw [show sa + na + (p - na) = sa + p by omega]; exact hx) hyy
  have isn : (failedOf st).isNone = true := by rw [hf]; rfl
  refine w_ite (fun _ => ?_) (fun _ => ?_)
  · refine wpS_bind (w_mergeLo O C (st := setP st (arrOf st) P (gallopOf st)) hk Sx Sy srx sry ea0 eb0 eal h0 hl fun m g gd => ?_)
    refine wpS_bind (wpS_modify (wpS_bind (wpS_get (wpS_pure ?_))))
    show Q (failedOf st).isNone _
    rw [isn]
    exact done m g gd
  · refine wpS_bind (w_mergeHi O C (st := setP st (arrOf st) P (gallopOf st)) hk Sx Sy srx sry ea0 eb0 eal h0 hl fun m g gd => ?_)
    refine wpS_bind (wpS_modify (wpS_bind (wpS_get (wpS_pure ?_))))
    show Q (failedOf st).isNone _
    rw [isn]
    exact done m g gd
end
end TS
namespace TS
open PySem PyProof.Rows
def Cov (blt : Keyed → Keyed → Bool) (xs : Array Keyed) : Nat → List (Nat × Nat) → Nat → Prop
  | k, [], lo => k = lo
  | k, e :: r, lo => e.1 = k ∧ 1 ≤ e.2 ∧ Asc blt xs k e.2 ∧ Cov blt xs (k + e.2) r lo
def prj (e : Nat × Nat × Nat) : Nat × Nat := (e.1, e.2.1)
theorem Asc.keepOut {blt : Keyed → Keyed → Bool} {xs ys : Array Keyed} {lo hi k n : Nat} (h : Asc blt xs k n) (kp : Keep xs ys lo hi) (ho : k + n ≤ lo ∨ hi ≤ k) : Asc blt ys k n := fun i j hij hj x y hx hy => by
  rw [kp.out (k + i) (by omega)] at hx
  rw [kp.out (k + j) (by omega)] at hy
  exact h i j hij hj x y hx hy
theorem Cov.len {blt : Keyed → Keyed → Bool} {xs : Array Keyed} : ∀ {l : List (Nat × Nat)} {k lo : Nat}, Cov blt xs k l lo → k + l.length ≤ lo
  | [], k, lo, h => by
    have : k = lo := h
    simp [this]
  | e :: r, k, lo, ⟨_, h2, _, h4⟩ => by
    have := Cov.len h4
    rw [List.length_cons]
    omega
theorem Cov.snoc {blt : Keyed → Keyed → Bool} {xs : Array Keyed} {n : Nat} (hn : 1 ≤ n) : ∀ {l : List (Nat × Nat)} {k lo : Nat}, Cov blt xs k l lo → Asc blt xs lo n → Cov blt xs k (l ++ [(lo, n)]) (lo + n)
  | [], k, lo, h, a => by
    have e : k = lo := h
    subst e
    exact ⟨rfl, hn, a, rfl⟩
  | e :: r, k, lo, ⟨h1, h2, h3, h4⟩, a => ⟨h1, h2, h3, Cov.snoc hn h4 a⟩
theorem Cov.beyond {blt : Keyed → Keyed → Bool} {xs ys : Array Keyed} {a b : Nat} (kp : Keep xs ys a b) : ∀ {l : List (Nat × Nat)} {k lo : Nat}, Cov blt xs k l lo → lo ≤ a → Cov blt ys k l lo
  | [], k, lo, h, _ => h
  | e :: r, k, lo, ⟨h1, h2, h3, h4⟩, ha => by
    have := Cov.len h4
    exact ⟨h1, h2, h3.keepOut kp (.inl (by omega)), Cov.beyond kp h4 ha⟩
theorem Cov.behind {blt : Keyed → Keyed → Bool} {xs ys : Array Keyed} {a b : Nat} (kp : Keep xs ys a b) : ∀ {l : List (Nat × Nat)} {k lo : Nat}, Cov blt xs k l lo → b ≤ k → Cov blt ys k l lo
  | [], k, lo, h, _ => h
  | e :: r, k, lo, ⟨h1, h2, h3, h4⟩, ha => ⟨h1, h2, h3.keepOut kp (.inr ha), Cov.behind kp h4 (by omega)⟩
theorem Cov.two {blt : Keyed → Keyed → Bool} {xs : Array Keyed} {a b : Nat × Nat} {l2 : List (Nat × Nat)} : ∀ {l1 : List (Nat × Nat)} {k lo : Nat}, Cov blt xs k (l1 ++ a :: b :: l2) lo →
    b.1 = a.1 + a.2 ∧ 1 ≤ a.2 ∧ 1 ≤ b.2 ∧ Asc blt xs a.1 a.2 ∧ Asc blt xs b.1 b.2 ∧ a.1 + a.2 + b.2 ≤ lo ∧
    ∀ ys, Keep xs ys a.1 (a.1 + a.2 + b.2) → Asc blt ys a.1 (a.2 + b.2) → Cov blt ys k (l1 ++ (a.1, a.2 + b.2) :: l2) lo
  | [], k, lo, ⟨h1, h2, h3, h4, h5, h6, h7⟩ => by
    have hl := Cov.len h7
    subst h1
    refine ⟨h4, h2, h5, h3, by rw [h4]; exact h6, by omega, fun ys kp as => ⟨rfl, by simp only; omega, as, ?_⟩⟩
    have e : a.1 + (a.2 + b.2) = a.1 + a.2 + b.2 := by omega
    show Cov blt ys (a.1 + (a.2 + b.2)) l2 lo
    rw [e]
    exact h7.behind kp (Nat.le_refl _)
  | e :: r, k, lo, ⟨h1, h2, h3, h4⟩ => by
    obtain ⟨g1, g2, g3, g4, g5, g6, g7⟩ := Cov.two (l1 := r) h4
    refine ⟨g1, g2, g3, g4, g5, g6, fun ys kp as => ⟨h1, h2, h3.keepOut kp (.inl ?_), g7 ys kp as⟩⟩
    have : ∀ {r : List (Nat × Nat)} {k lo : Nat}, Cov blt xs k (r ++ a :: b :: l2) lo → k ≤ a.1 := by
      intro r
      induction r with
      | nil => intro k lo h; exact Nat.le_of_eq h.1.symm
      | cons x r ih => intro k lo h; have := ih h.2.2.2; omega
    exact this h4
theorem arr_two {p : Array (Nat × Nat × Nat)} {i : Nat} (h : i + 1 < p.size) : ∃ l1 a b l2, p.toList = l1 ++ a :: b :: l2 ∧ l1.length = i ∧ p[i]? = some a ∧ p[i + 1]? = some b := by
  refine ⟨p.toList.take i, p[i], p[i + 1], p.toList.drop (i + 2), ?_, by rw [List.length_take, Array.length_toList]; omega, by rw [Array.getElem?_eq_getElem], by rw [Array.getElem?_eq_getElem]⟩
  have e1 : p.toList.drop i = p[i] :: p.toList.drop (i + 1) := by
    rw [List.drop_eq_getElem_cons (by simp; omega)]
    simp
  have e2 : p.toList.drop (i + 1) = p[i + 1] :: p.toList.drop (i + 2) := by
    rw [List.drop_eq_getElem_cons (by simp; omega)]
    simp
  rw [← e2, ← e1, List.take_append_drop]
theorem arr_joined {p : Array (Nat × Nat × Nat)} {i : Nat} {l1 l2 : List (Nat × Nat × Nat)} {a b e : Nat × Nat × Nat} (h : p.toList = l1 ++ a :: b :: l2) (hl : l1.length = i) : ((p.setIfInBounds i e).eraseIdxIfInBounds (i + 1)).toList = l1 ++ e :: l2 := by
  obtain ⟨p⟩ := p
  have h' : p = l1 ++ a :: b :: l2 := h
  subst h' hl
  simp [List.eraseIdx_append_of_length_le]
theorem arr_modify {p : Array (Nat × Nat × Nat)} {i : Nat} {f : Nat × Nat × Nat → Nat × Nat × Nat} (hf : ∀ x, prj (f x) = prj x) : (p.modify i f).toList.map prj = p.toList.map prj := by
  apply List.ext_getElem?
  intro k
  rw [List.getElem?_map, List.getElem?_map]
  have e : (p.modify i f).toList[k]? = (p.modify i f)[k]? := Array.getElem?_toList
  have e2 : p.toList[k]? = p[k]? := Array.getElem?_toList
  rw [e, e2, Array.getElem?_modify]
  split
  · cases p[k]? with
    | none => rfl
    | some x => simp [hf]
  · rfl
section
variable {prog : Program} {w : World} {A : Around} {E : Value → Shared → Prop} {s : Shared} {κ : SortKind} {S : Keyed → Prop} {blt : Keyed → Keyed → Bool}
/-- two neighbouring runs are made one -/
theorem w_join (O : Ord S blt) (C : Cmp prog w A E s κ S blt) {st : SortSt} {i lo : Nat} {Q : Bool → SortSt → Prop} (hk : kindOf st = κ) (hf : failedOf st = none) (hS : AllS S (arrOf st)) (hi : i + 1 < (pendingOf st).size) (hz : lo ≤ (arrOf st).size) (cv : Cov blt (arrOf st) 0 ((pendingOf st).toList.map prj) lo)
    (hq : ∀ ys P g, Keep (arrOf st) ys 0 lo → Cov blt ys 0 (P.toList.map prj) lo → P.size + 1 = (pendingOf st).size → Q true (setP st ys P g)) : wpS (model prog w) A E s (mergeAt' i) Q st := by
  obtain ⟨l1, a, b, l2, e, hl, ea, eb⟩ := arr_two hi
  rw [e, List.map_append, List.map_cons, List.map_cons] at cv
  obtain ⟨g1, g2, g3, g4, g5, g6, g7⟩ := cv.two
  obtain ⟨sa, na, pw⟩ := a
  obtain ⟨sb, nb, pw2⟩ := b
  simp only [prj] at g1 g2 g3 g4 g5 g6 g7
  subst g1
  refine w_mergeAt O C hk hf hS ea eb g2 g3 (by omega) g4 g5 fun ys g kp as => ?_
  refine hq ys _ g (kp.mono (Nat.zero_le _) (by omega)) ?_ ?_
  · rw [arr_joined e hl, List.map_append, List.map_cons]
    exact g7 ys kp as
  · have h1 := congrArg List.length (arr_joined (e := (sa, na + nb, pw)) e hl)
    have h2 := congrArg List.length e
    simp only [List.length_append, List.length_cons, Array.length_toList] at h1 h2
    omega
theorem w_sortRuns (O : Ord S blt) (C : Cmp prog w A E s κ S blt) {st : SortSt} {Q : Unit → SortSt → Prop} (hk : kindOf st = κ) (hf : failedOf st = none) (hp : pendingOf st = #[]) (hS : AllS S (arrOf st))
    (hq : ∀ ys P g, Keep (arrOf st) ys 0 (arrOf st).size → Asc blt ys 0 (arrOf st).size → Q () (setP st ys P g)) : wpS (model prog w) A E s sortRuns' Q st := by
  refine wpS_bind (wpS_get ?_)
  refine wpS_bind (wpS_mono (Q := fun (c : Option Unit × Nat) st' => ∃ ys P g, st' = setP st ys P g ∧ c.1 = none ∧ Keep (arrOf st) ys 0 (arrOf st).size ∧ Cov blt ys 0 (P.toList.map prj) (arrOf st).size)
    (wpS_forRange (fun i (c : Option Unit × Nat) st' => ∃ ys P g, st' = setP st ys P g ∧ c.1 = none ∧ i ≤ c.2 ∧ c.2 ≤ (arrOf st).size ∧ Keep (arrOf st) ys 0 (arrOf st).size ∧ Cov blt ys 0 (P.toList.map prj) c.2) ?_ ?_ ⟨arrOf st, pendingOf st, gallopOf st, rfl, rfl, Nat.le_refl _, Nat.zero_le _, Keep.refl _ _ _, by rw [hp]; rfl⟩) ?_)
  · rintro i ⟨r, lo⟩ st' _ hi ⟨ys, P, g, rfl, rfl, h1, h2, ky, cv⟩
    simp only at h1 h2 cv
    have hi : i < (arrOf st).size := hi
    refine w_ite (fun c1 => ?_) (fun c1 => ?_)
    · have e : lo = (arrOf st).size := by
        have : lo ≥ (arrOf st).size := c1
        omega
      subst e
      exact wpS_pure ⟨ys, P, g, rfl, rfl, ky, cv⟩
    have hlo : lo < (arrOf st).size := Nat.lt_of_not_le c1
    have sy := ky.size
    refine wpS_bind (w_countRun O C (st := setP st ys P g) hk (hS.keep ky) (show lo + ((arrOf st).size - lo) ≤ ys.size by omega) (by omega) fun n ys2 n1 n2 ky2 as => ?_)
    have n2 : n ≤ (arrOf st).size - lo := n2
    have el : lo + ((arrOf st).size - lo) = (arrOf st).size := by omega
    change Keep ys ys2 lo (lo + ((arrOf st).size - lo)) at ky2
    rw [el] at ky2
    have cv2 := cv.beyond ky2 (Nat.le_refl _)
    have ky3 := ky.trans (ky2.mono (Nat.zero_le _) (Nat.le_refl _))
    have sy2 := ky3.size
    refine w_ite (fun c2 => ?_) (fun c2 => ?_)
    · refine wpS_bind (w_rule ?_)
      have hmin : n ≤ min ((arrOf st).size - lo) (minRun' (arrOf st).size (arrOf st).size 0) := by
        have : n < minRun' (arrOf st).size (arrOf st).size 0 := c2
        omega
      refine wpS_bind (w_binary O C (st := setP st ys2 P g) (n := min ((arrOf st).size - lo) (minRun' (arrOf st).size (arrOf st).size 0)) hk (hS.keep ky3) (show lo + min ((arrOf st).size - lo) (minRun' (arrOf st).size (arrOf st).size 0) ≤ ys2.size by omega) n1 hmin as fun xs3 kx3 as4 => ?_)
      change Keep ys2 xs3 lo _ at kx3
      have ky4 := ky3.trans (kx3.mono (Nat.zero_le _) (show lo + min ((arrOf st).size - lo) (minRun' (arrOf st).size (arrOf st).size 0) ≤ (arrOf st).size by omega))
      have cv4 := cv2.beyond kx3 (Nat.le_refl _)
      refine w_ite (fun z => by cases z) (fun _ => ?_)
      have n31 : 1 ≤ min ((arrOf st).size - lo) (minRun' (arrOf st).size (arrOf st).size 0) := by omega
      show wpS _ _ _ _ _ _ (setP st xs3 P g)
      refine wpS_bind (wpS_get ?_)
      split
      · rename_i s1 n1 pw1 _
        dsimp only
        refine wpS_bind (wpS_mono (Q := fun (c : Option Unit × Unit) st' => ∃ zs P2 g2, st' = setP st zs P2 g2 ∧ c.1 = none ∧ Keep (arrOf st) zs 0 (arrOf st).size ∧ Cov blt zs 0 (P2.toList.map prj) lo ∧ Asc blt zs lo (min ((arrOf st).size - lo) (minRun' (arrOf st).size (arrOf st).size 0)))
          (wpS_forRange (fun _ (c : Option Unit × Unit) st' => ∃ zs P2 g2, st' = setP st zs P2 g2 ∧ c.1 = none ∧ Keep (arrOf st) zs 0 (arrOf st).size ∧ Cov blt zs 0 (P2.toList.map prj) lo ∧ Asc blt zs lo (min ((arrOf st).size - lo) (minRun' (arrOf st).size (arrOf st).size 0))) ?_ (fun c st' h => h) ⟨xs3, P, g, rfl, rfl, ky4, cv4, as4⟩) ?_)
        · rintro j ⟨r, u⟩ st' _ hj ⟨zs, P2, g2, rfl, rfl, kz, cz, az⟩
          refine wpS_bind (wpS_get ?_)
          dsimp only
          by_cases c2 : P2.size > 1
          · rw [if_pos c2]
            obtain ⟨⟨y1, y2, older⟩, ey⟩ : ∃ y, P2[P2.size - 2]? = some y := ⟨P2[P2.size - 2], by rw [Array.getElem?_eq_getElem]⟩
            rw [ey]
            dsimp only
            refine w_ite (fun _ => ?_) (fun _ => ?_)
            · exact wpS_pure ⟨zs, P2, g2, rfl, rfl, kz, cz, az⟩
            refine wpS_bind (w_join O C (st := setP st zs P2 g2) (lo := lo) hk hf (hS.keep kz) (show P2.size - 2 + 1 < P2.size by omega) (show lo ≤ zs.size by rw [kz.size]; omega) cz fun us P3 g3 ku cu su => ?_)
            refine w_ite (fun z => by cases z) (fun _ => ?_)
            exact wpS_pure ⟨us, P3, g3, rfl, rfl, kz.trans (ku.mono (Nat.le_refl _) (show lo ≤ (arrOf st).size by omega)), cu, az.keepOut ku (.inr (Nat.le_refl _))⟩
          · rw [if_neg c2]
            exact wpS_pure ⟨zs, P2, g2, rfl, rfl, kz, cz, az⟩
        rintro ⟨r, u⟩ st' ⟨zs, P2, g2, rfl, e, kz, cz, az⟩
        simp only at e
        subst e
        dsimp only
        refine wpS_bind (wpS_modify ?_)
        have cz' : ∀ f : Nat × Nat × Nat → Nat × Nat × Nat, (∀ x, prj (f x) = prj x) → Cov blt zs 0 ((P2.modify (P2.size - 1) f).toList.map prj) lo := fun f hf => by
          rw [arr_modify hf]
          exact cz
        refine wpS_bind (wpS_modify ?_)
        refine wpS_pure ⟨zs, _, g2, rfl, rfl, (show i + 1 ≤ lo + (min ((arrOf st).size - lo) (minRun' (arrOf st).size (arrOf st).size 0)) by omega), (show lo + (min ((arrOf st).size - lo) (minRun' (arrOf st).size (arrOf st).size 0)) ≤ (arrOf st).size by omega), kz, ?_⟩
        rw [Array.toList_push, List.map_append]
        refine Cov.snoc n31 (cz' _ ?_) az
        exact fun _ => rfl
      · refine wpS_bind (wpS_modify ?_)
        refine wpS_pure ⟨xs3, _, g, rfl, rfl, (show i + 1 ≤ lo + (min ((arrOf st).size - lo) (minRun' (arrOf st).size (arrOf st).size 0)) by omega), (show lo + (min ((arrOf st).size - lo) (minRun' (arrOf st).size (arrOf st).size 0)) ≤ (arrOf st).size by omega), ky4, ?_⟩
        rw [Array.toList_push, List.map_append]
        exact cv4.snoc n31 as4
    · skip
      obtain ⟨xs3, hxs⟩ : ∃ xs3, xs3 = ys2 := ⟨_, rfl⟩
      obtain ⟨n3, hn3⟩ : ∃ n3, n3 = n := ⟨_, rfl⟩
      have ky4 : Keep (arrOf st) xs3 0 (arrOf st).size := by rw [hxs]; exact ky3
      have cv4 : Cov blt xs3 0 (P.toList.map prj) lo := by rw [hxs]; exact cv2
      have as4 : Asc blt xs3 lo n3 := by rw [hxs, hn3]; exact as
      have n31 : 1 ≤ n3 := by omega
      have n32 : lo + n3 ≤ (arrOf st).size := by omega
      show wpS _ _ _ _ _ _ (setP st ys2 P g)
      rw [← hxs, ← hn3]
      refine wpS_bind (wpS_get ?_)
      split
      · rename_i s1 n1 pw1 _
        dsimp only
        refine wpS_bind (wpS_mono (Q := fun (c : Option Unit × Unit) st' => ∃ zs P2 g2, st' = setP st zs P2 g2 ∧ c.1 = none ∧ Keep (arrOf st) zs 0 (arrOf st).size ∧ Cov blt zs 0 (P2.toList.map prj) lo ∧ Asc blt zs lo n3)
          (wpS_forRange (fun _ (c : Option Unit × Unit) st' => ∃ zs P2 g2, st' = setP st zs P2 g2 ∧ c.1 = none ∧ Keep (arrOf st) zs 0 (arrOf st).size ∧ Cov blt zs 0 (P2.toList.map prj) lo ∧ Asc blt zs lo n3) ?_ (fun c st' h => h) ⟨xs3, P, g, rfl, rfl, ky4, cv4, as4⟩) ?_)
        · rintro j ⟨r, u⟩ st' _ hj ⟨zs, P2, g2, rfl, rfl, kz, cz, az⟩
          refine wpS_bind (wpS_get ?_)
          dsimp only
          by_cases c2 : P2.size > 1
          · rw [if_pos c2]
            obtain ⟨⟨y1, y2, older⟩, ey⟩ : ∃ y, P2[P2.size - 2]? = some y := ⟨P2[P2.size - 2], by rw [Array.getElem?_eq_getElem]⟩
            rw [ey]
            dsimp only
            refine w_ite (fun _ => ?_) (fun _ => ?_)
            · exact wpS_pure ⟨zs, P2, g2, rfl, rfl, kz, cz, az⟩
            refine wpS_bind (w_join O C (st := setP st zs P2 g2) (lo := lo) hk hf (hS.keep kz) (show P2.size - 2 + 1 < P2.size by omega) (show lo ≤ zs.size by rw [kz.size]; omega) cz fun us P3 g3 ku cu su => ?_)
            refine w_ite (fun z => by cases z) (fun _ => ?_)
            exact wpS_pure ⟨us, P3, g3, rfl, rfl, kz.trans (ku.mono (Nat.le_refl _) (show lo ≤ (arrOf st).size by omega)), cu, az.keepOut ku (.inr (Nat.le_refl _))⟩
          · rw [if_neg c2]
            exact wpS_pure ⟨zs, P2, g2, rfl, rfl, kz, cz, az⟩
        rintro ⟨r, u⟩ st' ⟨zs, P2, g2, rfl, e, kz, cz, az⟩
        simp only at e
        subst e
        dsimp only
        refine wpS_bind (wpS_modify ?_)
        have cz' : ∀ f : Nat × Nat × Nat → Nat × Nat × Nat, (∀ x, prj (f x) = prj x) → Cov blt zs 0 ((P2.modify (P2.size - 1) f).toList.map prj) lo := fun f hf => by
          rw [arr_modify hf]
          exact cz
        refine wpS_bind (wpS_modify ?_)
        refine wpS_pure ⟨zs, _, g2, rfl, rfl, (show i + 1 ≤ lo + n3 by omega), (show lo + n3 ≤ (arrOf st).size by omega), kz, ?_⟩
        rw [Array.toList_push, List.map_append]
        refine Cov.snoc n31 (cz' _ ?_) az
        exact fun _ => rfl
      · refine wpS_bind (wpS_modify ?_)
        refine wpS_pure ⟨xs3, _, g, rfl, rfl, (show i + 1 ≤ lo + n3 by omega), (show lo + n3 ≤ (arrOf st).size by omega), ky4, ?_⟩
        rw [Array.toList_push, List.map_append]
        exact cv4.snoc n31 as4
  · rintro ⟨r, lo⟩ st' ⟨ys, P, g, rfl, rfl, h1, h2, ky, cv⟩
    simp only at h2 cv
    have h1 : max 0 (arrOf st).size ≤ lo := h1
    have e : lo = (arrOf st).size := by omega
    subst e
    exact ⟨ys, P, g, rfl, rfl, ky, cv⟩
  · rintro ⟨r, lo⟩ st' ⟨ys, P, g, rfl, e, ky, cv⟩
    simp only at e
    subst e
    have hlen := cv.len
    rw [List.length_map, Array.length_toList] at hlen
    refine wpS_bind (wpS_mono (Q := fun (c : Option Unit × Unit) st' => ∃ ys P g, st' = setP st ys P g ∧ c.1 = none ∧ Keep (arrOf st) ys 0 (arrOf st).size ∧ Cov blt ys 0 (P.toList.map prj) (arrOf st).size ∧ P.size ≤ 1)
      (wpS_forRange (fun i (c : Option Unit × Unit) st' => ∃ ys P g, st' = setP st ys P g ∧ c.1 = none ∧ Keep (arrOf st) ys 0 (arrOf st).size ∧ Cov blt ys 0 (P.toList.map prj) (arrOf st).size ∧ P.size + i ≤ (arrOf st).size) ?_ ?_ ⟨ys, P, g, rfl, rfl, ky, cv, by omega⟩) ?_)
    · rintro i ⟨r, u⟩ st' _ hi ⟨ys, P, g, rfl, rfl, ky, cv, hs⟩
      have hi : i < (arrOf st).size := hi
      refine wpS_bind (wpS_get ?_)
      refine w_ite (fun c1 => ?_) (fun c1 => ?_)
      · exact wpS_pure ⟨ys, P, g, rfl, rfl, ky, cv, c1⟩
      have c1' : 2 ≤ P.size := by
        have : ¬ P.size ≤ 1 := c1
        omega
      refine wpS_bind (w_join O C (st := setP st ys P g) (lo := (arrOf st).size) hk hf (hS.keep ky) ?_ (Nat.le_of_eq ky.size.symm) cv fun zs P2 g2 kz cz sz => ?_)
      · have key : ∀ (o : Option Bool), (if o = some true then P.size - 2 - 1 else P.size - 2) + 1 < P.size := fun o => by split <;> omega
        have key2 : ∀ (c : Bool), (if c = true then P.size - 2 - 1 else P.size - 2) + 1 < P.size := fun c => by split <;> omega
        exact key2 _
      · change P2.size + 1 = P.size at sz
        refine w_ite (fun z => by cases z) (fun _ => ?_)
        exact wpS_pure ⟨zs, P2, g2, rfl, rfl, ky.trans kz, cz, by omega⟩
    · rintro ⟨r, u⟩ st' ⟨ys, P, g, rfl, rfl, ky, cv, hs⟩
      have hs : P.size + max 0 (arrOf st).size ≤ (arrOf st).size := hs
      exact ⟨ys, P, g, rfl, rfl, ky, cv, by omega⟩
    · rintro ⟨r, u⟩ st' ⟨ys, P, g, rfl, e, ky, cv, hs⟩
      simp only at e
      subst e
      refine wpS_pure (hq ys P g ky ?_)
      cases hP : P.toList with
      | nil =>
        rw [hP] at cv
        have e : 0 = (arrOf st).size := cv
        rw [← e]
        exact fun i j _ hj => absurd hj (Nat.not_lt_zero _)
      | cons a r =>
        have hr : r = [] := by
          have := congrArg List.length hP
          rw [Array.length_toList, List.length_cons] at this
          exact List.length_eq_zero_iff.mp (by omega)
        subst hr
        rw [hP] at cv
        obtain ⟨_, _, h3, h4⟩ := cv
        have e : 0 + (prj a).2 = (arrOf st).size := h4
        rw [← e, Nat.zero_add]
        exact h3
end
end TS
namespace TS
open PySem PyProof.Rows
def Kept (h h' : Heap) (a : Addr) : Prop := ∀ b o, b ≠ a → h.get? b = some o → h'.get? b = some o
section
variable {prog : Program} {w : World} {A : Around} {E : Value → Shared → Prop} {s : Shared} {κ : SortKind} {S : Keyed → Prop} {blt : Keyed → Keyed → Bool}
theorem cmp_of (h : ∀ (x y : Keyed) (Q : Bool → Shared → Prop), S x → S y → Q (blt x y) s → wpAny (model prog w) A (keyLt' κ x.1 y.1) Q (fun _ _ => False) s) : Cmp prog w A E s κ S blt := fun x y st Q sx sy hk hq => by
  rw [lt'_eq]; refine wpS_bind (wpS_get ?_); rw [hk]
  exact wpS_bind (wpS_lift (wpAny_attempt (wpAny_mono (h x y (fun b s' => b = blt x y ∧ s' = s) sx sy ⟨rfl, rfl⟩) (fun b s' e => by obtain ⟨rfl, rfl⟩ := e; exact ⟨rfl, wpS_pure hq⟩) fun _ _ f => f.elim)))
theorem pw_of {ys : Array Keyed} {n : Nat} (hn : ys.size = n) (h : Asc blt ys 0 n) : ys.toList.Pairwise fun x y => blt y x = false := by
  rw [List.pairwise_iff_getElem]; intro i j hi hj hij
  have hi' : i < ys.size := by simpa using hi
  have hj' : j < ys.size := by simpa using hj
  refine h i j (Nat.le_of_lt hij) (by omega) _ _ ?_ ?_ <;> simp [hi', hj']
theorem w_run (O : Ord S blt) {ps : List Keyed} {Q : SortSt → Shared → Prop} (C : Cmp prog w A E s κ S blt) (hS : ∀ p ∈ ps, S p)
    (hq : ∀ (out : List Keyed) (st : SortSt), arrOf st = out.toArray → failedOf st = none → out.Perm ps → out.Pairwise (fun x y => blt y x = false) → Q st s) :
    wpAny (model prog w) A ((sortRuns').run (SortSt.mk' κ ps.toArray #[] 7 none)) (fun r s' => Q r.2 s') E s := by
  have key : wpS (model prog w) A E s sortRuns' (fun _ st => Q st s) (SortSt.mk' κ ps.toArray #[] 7 none) := by
    refine w_sortRuns O C rfl rfl rfl (fun p hp => hS p (by simpa using hp)) fun ys P g kp as => ?_
    refine hq ys.toList _ (by simp [setP]) rfl ?_ (pw_of kp.size as)
    have := kp.perm.toList
    simpa using this
  exact wpAny_mono key (fun r s' e => by obtain ⟨rfl, e⟩ := e; exact e) fun _ _ e => e
theorem outs_of {vs : List Value} {out : List Keyed} (hp : out.Perm (vs.zip vs)) (hw : out.Pairwise fun x y => blt y x = false) : (out.map (·.2)).Perm vs ∧ (out.map (·.2)).Pairwise fun x y => blt (y, y) (x, x) = false := by
  have e2 : (vs.zip vs).map (·.2) = vs := List.map_snd_zip (Nat.le_refl _)
  refine ⟨by have := hp.map (·.2); rwa [e2] at this, ?_⟩
  rw [List.pairwise_map]
  refine hw.imp_of_mem fun {x y} hx hy h => ?_
  have dx := mem_zip_self (hp.mem_iff.mp hx)
  have dy := mem_zip_self (hp.mem_iff.mp hy)
  have ex : x = (x.2, x.2) := Prod.ext dx.1 rfl
  have ey : y = (y.2, y.2) := Prod.ext dy.1 rfl
  rw [ex, ey] at h; exact h
theorem w_listsort (O : Ord S blt) {a : Addr} {vs : List Value} {n : Nat} {P : PySem.Fin → Shared → Prop} (ho : s.heap.get? a = some (seqObj "list" vs.toArray n)) (hz : vs.length ≤ 10000000) (hS : ∀ v ∈ vs, S (v, v))
    (hk : 2 ≤ vs.length → ∀ h', Kept s.heap h' a → ∀ Q : SortKind → Shared → Prop, Q κ { s with heap := h' } → wpAny (model prog w) A (keyKind' vs.toArray) Q (fun _ _ => False) { s with heap := h' })
    (hc : 2 ≤ vs.length → ∀ h', Kept s.heap h' a → ∀ (x y : Keyed) (Q : Bool → Shared → Prop), S x → S y → Q (blt x y) { s with heap := h' } → wpAny (model prog w) A (keyLt' κ x.1 y.1) Q (fun _ _ => False) { s with heap := h' })
    (h : ∀ out : List Value, out.Perm vs → out.Pairwise (fun x y => blt (y, y) (x, x) = false) → P (.done (.ret .none)) { s with heap := sortedHeap s.heap a vs out.toArray }) :
    wpAny (model prog w) A (Builtin.«list.sort» ⟨[.ref a], []⟩) P E s := by
  have hl : vs.toArray.size ≤ sizeLine := by rw [sizeLine_eq, List.size_toArray]; omega
  have ha := Heap.lt_size ho
  obtain ⟨e1, ho1⟩ : ∃ e1, (s.heap.update a (Obj.mapSeq fun _ => (#[] : Array Value))).get? a = some (seqObj "list" #[] e1) := ⟨_, get?_update_seq ho fun _ => #[]⟩
  rw [list_sort_plain]; refine wpAny_bind (listItems_at ho rfl (wpAny_bind (listUpdate_at ho rfl ?_ hl (Nat.zero_le _))))
  refine wpAny_bind (seqEpoch_at ho1 rfl (wpAny_bind (wpAny_newTuple ?_ (by show vs.length ≤ _; simpa using hl))))
  refine wpAny_bind (wpAny_newList (wpAny_holding ?_) (Nat.zero_le _))
  show wpAny (model prog w) A _ P E { s with heap := ((s.heap.update a (Obj.mapSeq fun _ => (#[] : Array Value))).push (seqObj "tuple" vs.toArray 0)).push (seqObj "list" #[] 0) }
  have ho6 : (((s.heap.update a (Obj.mapSeq fun _ => (#[] : Array Value))).push (seqObj "tuple" vs.toArray 0)).push (seqObj "list" #[] 0)).get? a = some (seqObj "list" #[] e1) := Heap.get?_push_of_some _ (Heap.get?_push_of_some _ ho1)
  have kp : Kept s.heap (((s.heap.update a (Obj.mapSeq fun _ => (#[] : Array Value))).push (seqObj "tuple" vs.toArray 0)).push (seqObj "list" #[] 0)) a := fun b o hb e => Heap.get?_push_of_some _ (Heap.get?_push_of_some _ (by rw [Heap.get?_update_ne _ _ _ _ hb]; exact e))
  dsimp only
  have ez : vs.toArray.zip vs.toArray = (vs.zip vs).toArray := by simp
  by_cases h2 : vs.toArray.size < 2
  · rw [if_pos h2, if_pos h2]; refine wpAny_bind (wpAny_pure ?_)
    rw [StateT.run_pure]; refine wpAny_bind (wpAny_pure ?_); dsimp only
    refine wpAny_bind (seqEpoch_at ho6 rfl (wpAny_bind (listUpdate_at ho6 rfl ?_ (Nat.zero_le _) (hsz2 := by show ((vs.toArray.zip vs.toArray).map (·.2)).size ≤ _; rw [sizeLine_eq]; simp; simp at h2; omega))))
    simp only [bne_self_eq_false, Bool.false_eq_true, if_false]
    have hw : vs.Pairwise fun x y => blt (y, y) (x, x) = false := by
      match vs, h2 with
      | [], _ => exact .nil
      | [_], _ => exact List.pairwise_singleton _ _
      | _ :: _ :: _, h2 => simp at h2; omega
    have fin := h vs (List.Perm.refl _) hw
    have eo : (vs.toArray.zip vs.toArray).map (·.2) = vs.toArray := by rw [ez, List.map_toArray, List.map_snd_zip (Nat.le_refl _)]
    refine wpAny_pure ?_
    rw [← eo] at fin; exact fin
  · have h2' : 2 ≤ vs.length := by simpa using h2
    rw [if_neg h2, if_neg h2]; refine wpAny_bind (wpAny_mono (hk h2' _ kp (fun k s' => k = κ ∧ s' = _) ⟨rfl, rfl⟩) ?_ fun _ _ f => f.elim)
    rintro k s' ⟨rfl, rfl⟩
    rw [ez]; refine wpAny_bind (wpAny_mono (w_run (E := E) (Q := fun st s' => s' = _ ∧ failedOf st = none ∧ ∃ out : List Keyed, arrOf st = out.toArray ∧ out.Perm (vs.zip vs) ∧ out.Pairwise (fun x y => blt y x = false)) O (cmp_of (hc h2' _ kp)) (fun p hp => ?_) fun out st a1 a2 a3 a4 => ⟨rfl, a2, out, a1, a3, a4⟩) ?_ fun _ _ e => e)
    · have := mem_zip_self hp
      have e : p = (p.1, p.1) := Prod.ext rfl this.1.symm
      rw [e]; exact hS _ this.2
    rintro ⟨⟨⟩, st⟩ s' ⟨rfl, hf, out, ea, hp, hw⟩
    have ⟨p1, p2⟩ := outs_of hp hw
    have eo : (arrOf st).map (·.2) = (out.map (·.2)).toArray := by rw [ea, List.map_toArray]
    have lo : (out.map (·.2)).length = vs.length := p1.length_eq
    dsimp only; refine wpAny_bind (seqEpoch_at ho6 rfl (wpAny_bind (listUpdate_at ho6 rfl ?_ (Nat.zero_le _) (hsz2 := by rw [eo, sizeLine_eq, List.size_toArray, lo]; omega))))
    rw [hf]; simp only [bne_self_eq_false, Bool.false_eq_true, if_false]
    refine wpAny_pure ?_
    have fin := h _ p1 p2
    rw [← eo] at fin; exact fin
theorem w_sorted (O : Ord S blt) {l : Addr} {vs : List Value} {Q : Value → Shared → Prop} (hl : s.heap.IsList l vs.toArray) (hz : vs.length ≤ 10000000) (hS : ∀ v ∈ vs, S (v, v))
    (hk : 2 ≤ vs.length → ∀ h' : Heap, (∀ b o, s.heap.get? b = some o → h'.get? b = some o) → ∀ Q : SortKind → Shared → Prop, Q κ { s with heap := h' } → wpAny (model prog w) A.in1.in1 (keyKind' vs.toArray) Q (fun _ _ => False) { s with heap := h' })
    (hc : 2 ≤ vs.length → ∀ h' : Heap, (∀ b o, s.heap.get? b = some o → h'.get? b = some o) → ∀ (x y : Keyed) (Q : Bool → Shared → Prop), S x → S y → Q (blt x y) { s with heap := h' } → wpAny (model prog w) A.in1.in1 (keyLt' κ x.1 y.1) Q (fun _ _ => False) { s with heap := h' })
    (h : ∀ out : List Value, out.Perm vs → out.Pairwise (fun x y => blt (y, y) (x, x) = false) → Q (.ref (s.heap.objs.size + 1)) { s with heap := sortedAll s.heap vs out.toArray }) :
    wpAny (model prog w) A (call (.builtin "sorted") [.ref l]) Q E s := by
  have hl0 : vs.length ≤ sizeLine := by rw [sizeLine_eq]; omega
  refine Calls.call_function_entry kind_sorted plain_sorted entry_sorted (args_sorted1 _) ?_
  unfold Builtin.«sorted»; refine wpAny_bind (m := checkCount "sorted" 1 1 _) (wpAny_pure (wpAny_bind (collect_list hl (wpAny_bind (wpAny_newList ?_ hl0)) hl0)))
  have sz : ((s.heap.push (seqObj "list" #[] 0)).update s.heap.objs.size (Obj.mapSeq (· ++ vs.toArray))).objs.size = s.heap.objs.size + 1 := by rw [Heap.size_update, size_push']
  have hoL : (((s.heap.push (seqObj "list" #[] 0)).update s.heap.objs.size (Obj.mapSeq (· ++ vs.toArray))).push (seqObj "list" vs.toArray 0)).get? (s.heap.objs.size + 1) = some (seqObj "list" vs.toArray 0) := by rw [← sz]; exact Heap.get?_push_size _ rfl
  have keep : ∀ b o, s.heap.get? b = some o → b ≠ s.heap.objs.size + 1 ∧ (((s.heap.push (seqObj "list" #[] 0)).update s.heap.objs.size (Obj.mapSeq (· ++ vs.toArray))).push (seqObj "list" vs.toArray 0)).get? b = some o := fun b o q => by
    have lt : b < s.heap.objs.size := Heap.lt_size q
    refine ⟨Nat.ne_of_lt (Nat.lt_succ_of_lt lt), Heap.get?_push_of_some _ ?_⟩
    rw [Heap.get?_update_ne _ _ _ _ (Nat.ne_of_lt lt)]; exact Heap.get?_push_of_some _ q
  show wpAny _ _ _ _ _ { s with heap := ((s.heap.push (seqObj "list" #[] 0)).update s.heap.objs.size (Obj.mapSeq (· ++ vs.toArray))).push (seqObj "list" vs.toArray 0) }
  rw [sz]; refine wpAny_bind (wpAny_holding (wpAny_call_entry slot_list_sort ⟨_, hoL, rfl⟩ entry_list_sort ?body (args_list_sort _)))
  case body =>
    refine w_listsort O hoL hz hS (fun h2 h' kp => hk h2 h' fun b o e => kp b o (keep b o e).1 (keep b o e).2) (fun h2 h' kp => hc h2 h' fun b o e => kp b o (keep b o e).1 (keep b o e).2) fun out p1 p2 => ⟨_, rfl, wpAny_pure ⟨_, rfl, ?_⟩⟩
    exact h out p1 p2
end
end TS
namespace L2
open PySem PySem.Spec PyProof.Rows
inductive Sh where
  | int | str | tup (l : List Sh)
mutual
def Dv.isA : Sh → Dv → Bool
  | .int, .int _ => true
  | .str, .str _ => true
  | .tup l, .tup r => Dv.areA l r
  | _, _ => false
def Dv.areA : List Sh → List Dv → Bool
  | [], [] => true
  | s :: l, d :: r => Dv.isA s d && Dv.areA l r
  | _, _ => false
end
mutual
def dcmp : Dv → Dv → Ordering
  | .int i, .int j => if i = j then .eq else if i < j then .lt else .gt
  | .str x, .str y => if x = y then .eq else if x.cps.toList < y.cps.toList then .lt else .gt
  | .tup l, .tup r => dcmps l r
  | _, _ => .eq
def dcmps : List Dv → List Dv → Ordering
  | [], [] => .eq
  | [], _ :: _ => .lt
  | _ :: _, [] => .gt
  | d :: l, e :: r => (dcmp d e).then (dcmps l r)
end
theorem isA_int {d : Dv} (h : Dv.isA .int d = true) : ∃ i, d = .int i := by
  cases d with
  | int i => exact ⟨i, rfl⟩
  | _ => simp [Dv.isA] at h
theorem isA_str {d : Dv} (h : Dv.isA .str d = true) : ∃ i, d = .str i := by
  cases d with
  | str i => exact ⟨i, rfl⟩
  | _ => simp [Dv.isA] at h
theorem isA_tup {l : List Sh} {d : Dv} (h : Dv.isA (.tup l) d = true) : ∃ r, d = .tup r ∧ Dv.areA l r = true := by
  cases d with
  | tup r => exact ⟨r, rfl, by simpa [Dv.isA] using h⟩
  | _ => simp [Dv.isA] at h
theorem areA_nil {r : List Dv} (h : Dv.areA [] r = true) : r = [] := by
  cases r with
  | nil => rfl
  | cons _ _ => simp [Dv.areA] at h
theorem areA_cons {s : Sh} {l : List Sh} {r : List Dv} (h : Dv.areA (s :: l) r = true) : ∃ d r', r = d :: r' ∧ Dv.isA s d = true ∧ Dv.areA l r' = true := by
  cases r with
  | nil => simp [Dv.areA] at h
  | cons d r' =>
    simp only [Dv.areA, Bool.and_eq_true] at h
    exact ⟨d, r', rfl, h⟩
theorem str_cps {x y : Str} (h : x.cps.toList = y.cps.toList) : x = y := by
  cases x; cases y
  simp only [Str.mk.injEq]
  exact Array.toList_inj.mp h
theorem str_tri {x y : Str} (h : x ≠ y) (h1 : ¬ x.cps.toList < y.cps.toList) : y.cps.toList < x.cps.toList := by
  by_cases h2 : y.cps.toList < x.cps.toList
  · exact h2
  · exact absurd (str_cps (List.le_antisymm (List.not_lt.mp h2) (List.not_lt.mp h1))) h
theorem str_asy {x y : Str} (h : x.cps.toList < y.cps.toList) : ¬ y.cps.toList < x.cps.toList := fun h' => List.lt_irrefl _ (List.lt_trans h h')
mutual
theorem cmp_eq : ∀ {sh : Sh} {d e : Dv}, Dv.isA sh d = true → Dv.isA sh e = true → (dcmp d e = .eq ↔ d = e)
  | .int, d, e, hd, he => by
    obtain ⟨i, rfl⟩ := isA_int hd
    obtain ⟨j, rfl⟩ := isA_int he
    simp only [dcmp, Dv.int.injEq]
    split
    · simp [*]
    · split <;> simp [*]
  | .str, d, e, hd, he => by
    obtain ⟨i, rfl⟩ := isA_str hd
    obtain ⟨j, rfl⟩ := isA_str he
    simp only [dcmp, Dv.str.injEq]
    split
    · simp [*]
    · split <;> simp [*]
  | .tup l, d, e, hd, he => by
    obtain ⟨r, rfl, hr⟩ := isA_tup hd
    obtain ⟨q, rfl, hq⟩ := isA_tup he
    simp only [dcmp, Dv.tup.injEq]
    exact cmps_eq hr hq
theorem cmps_eq : ∀ {l : List Sh} {r q : List Dv}, Dv.areA l r = true → Dv.areA l q = true → (dcmps r q = .eq ↔ r = q)
  | [], r, q, hr, hq => by
    rw [areA_nil hr, areA_nil hq]
    simp [dcmps]
  | s :: l, r, q, hr, hq => by
    obtain ⟨d, r', rfl, h1, h2⟩ := areA_cons hr
    obtain ⟨e, q', rfl, h3, h4⟩ := areA_cons hq
    have a := cmp_eq h1 h3
    have b := cmps_eq h2 h4
    simp only [dcmps, List.cons.injEq]
    cases hc : dcmp d e with
    | eq =>
      rw [hc] at a
      simp only [Ordering.then, true_iff] at a ⊢
      rw [b]
      simp [a]
    | lt =>
      rw [hc] at a
      simp only [Ordering.then, reduceCtorEq, false_iff] at a ⊢
      simp [a]
    | gt =>
      rw [hc] at a
      simp only [Ordering.then, reduceCtorEq, false_iff] at a ⊢
      simp [a]
end
mutual
theorem cmp_swap : ∀ {sh : Sh} {d e : Dv}, Dv.isA sh d = true → Dv.isA sh e = true → dcmp e d = (dcmp d e).swap
  | .int, d, e, hd, he => by
    obtain ⟨i, rfl⟩ := isA_int hd
    obtain ⟨j, rfl⟩ := isA_int he
    simp only [dcmp]
    by_cases h : i = j
    · subst h; simp
    · rw [if_neg h, if_neg (fun z => h z.symm)]
      by_cases h1 : i < j
      · rw [if_pos h1, if_neg (by omega)]; rfl
      · rw [if_neg h1, if_pos (by omega)]; rfl
  | .str, d, e, hd, he => by
    obtain ⟨i, rfl⟩ := isA_str hd
    obtain ⟨j, rfl⟩ := isA_str he
    simp only [dcmp]
    by_cases h : i = j
    · subst h; simp
    · rw [if_neg h, if_neg (fun z => h z.symm)]
      by_cases h1 : i.cps.toList < j.cps.toList
      · rw [if_pos h1, if_neg (str_asy h1)]; rfl
      · rw [if_neg h1, if_pos (str_tri h h1)]; rfl
  | .tup l, d, e, hd, he => by
    obtain ⟨r, rfl, hr⟩ := isA_tup hd
    obtain ⟨q, rfl, hq⟩ := isA_tup he
    simp only [dcmp]
    exact cmps_swap hr hq
theorem cmps_swap : ∀ {l : List Sh} {r q : List Dv}, Dv.areA l r = true → Dv.areA l q = true → dcmps q r = (dcmps r q).swap
  | [], r, q, hr, hq => by
    rw [areA_nil hr, areA_nil hq]
    rfl
  | s :: l, r, q, hr, hq => by
    obtain ⟨d, r', rfl, h1, h2⟩ := areA_cons hr
    obtain ⟨e, q', rfl, h3, h4⟩ := areA_cons hq
    simp only [dcmps]
    rw [cmp_swap h1 h3, cmps_swap h2 h4]
    cases dcmp d e <;> rfl
end
mutual
theorem cmp_tr : ∀ {sh : Sh} {d e f : Dv}, Dv.isA sh d = true → Dv.isA sh e = true → Dv.isA sh f = true → dcmp d e ≠ .gt → dcmp e f ≠ .gt → dcmp d f ≠ .gt
  | .int, d, e, f, hd, he, hf, h1, h2 => by
    obtain ⟨i, rfl⟩ := isA_int hd
    obtain ⟨j, rfl⟩ := isA_int he
    obtain ⟨k, rfl⟩ := isA_int hf
    simp only [dcmp] at h1 h2 ⊢
    by_cases a : i = k
    · simp [a]
    · rw [if_neg a]
      by_cases b : i < k
      · simp [b]
      · exfalso
        have h1' : i ≤ j := by
          by_cases c : i ≤ j
          · exact c
          · rw [if_neg (by omega), if_neg (by omega)] at h1; exact absurd rfl h1
        have h2' : j ≤ k := by
          by_cases c : j ≤ k
          · exact c
          · rw [if_neg (by omega), if_neg (by omega)] at h2; exact absurd rfl h2
        omega
  | .str, d, e, f, hd, he, hf, h1, h2 => by
    obtain ⟨i, rfl⟩ := isA_str hd
    obtain ⟨j, rfl⟩ := isA_str he
    obtain ⟨k, rfl⟩ := isA_str hf
    simp only [dcmp] at h1 h2 ⊢
    by_cases a : i = k
    · simp [a]
    · rw [if_neg a]
      by_cases b : i.cps.toList < k.cps.toList
      · simp [b]
      · exfalso
        have ki := str_tri a b
        by_cases p : i = j
        · subst p
          rw [if_neg a, if_neg b] at h2
          exact absurd rfl h2
        · by_cases q : j = k
          · subst q
            rw [if_neg p, if_neg b] at h1
            exact absurd rfl h1
          · rw [if_neg p] at h1
            rw [if_neg q] at h2
            by_cases p1 : i.cps.toList < j.cps.toList
            · by_cases q1 : j.cps.toList < k.cps.toList
              · exact b (List.lt_trans p1 q1)
              · rw [if_neg q1] at h2; exact absurd rfl h2
            · rw [if_neg p1] at h1; exact absurd rfl h1
  | .tup l, d, e, f, hd, he, hf, h1, h2 => by
    obtain ⟨r, rfl, hr⟩ := isA_tup hd
    obtain ⟨q, rfl, hq⟩ := isA_tup he
    obtain ⟨p, rfl, hp⟩ := isA_tup hf
    simp only [dcmp] at h1 h2 ⊢
    exact cmps_tr hr hq hp h1 h2
theorem cmps_tr : ∀ {l : List Sh} {r q p : List Dv}, Dv.areA l r = true → Dv.areA l q = true → Dv.areA l p = true → dcmps r q ≠ .gt → dcmps q p ≠ .gt → dcmps r p ≠ .gt
  | [], r, q, p, hr, hq, hp, _, _ => by
    rw [areA_nil hr, areA_nil hp]
    simp [dcmps]
  | s :: l, r, q, p, hr, hq, hp, h1, h2 => by
    obtain ⟨d, r', rfl, a1, a2⟩ := areA_cons hr
    obtain ⟨e, q', rfl, b1, b2⟩ := areA_cons hq
    obtain ⟨f, p', rfl, c1, c2⟩ := areA_cons hp
    simp only [dcmps] at h1 h2 ⊢
    have n1 : dcmp d e ≠ .gt := fun z => by rw [z] at h1; exact h1 rfl
    have n2 : dcmp e f ≠ .gt := fun z => by rw [z] at h2; exact h2 rfl
    have n3 := cmp_tr a1 b1 c1 n1 n2
    cases hc : dcmp d f with
    | lt => simp [Ordering.then]
    | gt => exact absurd hc n3
    | eq =>
      have e3 := (cmp_eq a1 c1).mp hc
      subst e3
      have e1 : dcmp d e = .eq := by
        have sw := cmp_swap a1 b1
        cases hx : dcmp d e with
        | eq => rfl
        | gt => exact absurd hx n1
        | lt => rw [hx] at sw; exact absurd sw n2
      have e2 := (cmp_eq a1 b1).mp e1
      subst e2
      rw [hc] at h1 h2
      simp only [Ordering.then] at h1 h2 ⊢
      exact cmps_tr a2 b2 c2 h1 h2
end
def LtAt (A : Around) (s : Shared) (y x : Value) (b : Bool) : Prop :=
  ∀ (prog : Program) (w : World) (E : Value → Shared → Prop) (Q : Value → Shared → Prop), Q (.bool b) s → wpAny (model prog w) A (richCompare .Lt y x) Q E s
inductive LtL (A : Around) (s : Shared) : List Value → List Value → Bool → Prop
  | nn : LtL A s [] [] false
  | nc {y : Value} {ys : List Value} : LtL A s [] (y :: ys) true
  | cn {x : Value} {xs : List Value} : LtL A s (x :: xs) [] false
  | eq {x y : Value} {xs ys : List Value} {b : Bool} : SeqAt.EqAt A s x y true → LtL A s xs ys b → LtL A s (x :: xs) (y :: ys) b
  | ne {x y : Value} {xs ys : List Value} {b : Bool} : SeqAt.EqAt A s x y false → LtAt A s x y b → LtL A s (x :: xs) (y :: ys) b
end L2
namespace HT
open PySem PyProof.Rows
section
open PySem.SeqAt
open PySem.AutoSeq1 (wpAny_loadPart')
open PySem.MeetsSeq PySem.MeetsSeq2 PySem.MeetsSeq3
theorem tuple_lt_any (l b : Addr) (items items2 : Array Value) (n n2 : Nat) (dd dd2 : Option Addr) (sl sl2 : Array (Option Value)) (k : Bool) :
    Meets (Builtin.«tuple.__lt__» ⟨[.ref l, .ref b], []⟩)
      (fun A R s => L2.LtL A.in1 s items.toList items2.toList k ∧ s.heap.get? l = some { cls := .type "tuple", dict := dd, data := .seq items n, slots := sl } ∧ s.heap.get? b = some { cls := .type "tuple", dict := dd2, data := .seq items2 n2, slots := sl2 } ∧
        R (.ok (.ret (.bool k))) s) := .of_wp fun prog w A R s h => by
  obtain ⟨hp, g, d, tk, os⟩ := s; obtain ⟨hL, hl, hb, h⟩ := h
  have f2 := AutoSeq1.sub_tuple_tuple
  wp_walk using wpAny_loadPart' hl, wpAny_loadPart' hb, wpAny_forIn_list _ (fun rest b s' => b.1 = none ∧ s' = ⟨hp, g, d, tk, os⟩ ∧ ∃ (vs ws : List Value), rest = vs.zip ws ∧ L2.LtL A.in1 ⟨hp, g, d, tk, os⟩ vs ws k ∧ vs.length + items2.size = ws.length + items.size) _
  case turn =>
    rintro ⟨y, x⟩ rest b s' ⟨hb', rfl, vs, ws, hz, hv, hlen⟩
    cases hv with
    | nn => rw [List.zip_nil_left] at hz; cases hz
    | nc => rw [List.zip_nil_left] at hz; cases hz
    | cn => rw [List.zip_nil_right] at hz; cases hz
    | eq he hr =>
      rw [List.zip_cons_cons] at hz; injection hz with hyx hrest; injection hyx with hy hx; subst hy hx
      simp only [List.length_cons] at hlen
      refine wpAny_bind (he prog w _ _ ?_); wp_walk; exact ⟨rfl, rfl, _, _, hrest, hr, by omega⟩
    | ne he hr =>
      rw [List.zip_cons_cons] at hz; injection hz with hyx hrest; injection hyx with hy hx; subst hy hx
      refine wpAny_bind (he prog w _ _ ?_); have hri := hr prog w; wp_walk using hri; exact ⟨_, rfl, by simpa using h⟩
  case fin =>
    rintro ⟨b1, b2⟩ s' ⟨hb', rfl, vs, ws, hz, hv, hlen⟩
    simp only at hb'; subst hb'
    have hk : k = decide (items.size < items2.size) := by
      cases hv with
      | nn => simp only [List.length_nil] at hlen; exact (decide_eq_false (by omega)).symm
      | nc => simp only [List.length_nil, List.length_cons] at hlen; exact (decide_eq_true (by omega)).symm
      | cn => simp only [List.length_nil, List.length_cons] at hlen; exact (decide_eq_false (by omega)).symm
      | eq _ _ => rw [List.zip_cons_cons] at hz; cases hz
      | ne _ _ => rw [List.zip_cons_cons] at hz; cases hz
    rw [hk] at h; wp_walk; exact ⟨_, rfl, by simpa [Builtin.Tuple.tupleCompareSizes] using h⟩
  case h => exact ⟨rfl, rfl, items.toList, items2.toList, rfl, hL, by simp only [Array.length_toList]; omega⟩
end
theorem lt_tupAny {A : Around} {s : Shared} {l b : Addr} {items items2 : Array Value} {k : Bool} (hl : IsTup s.heap l items) (hb : IsTup s.heap b items2) (hL : L2.LtL A.in1 s items.toList items2.toList k) (hu : A.units < cLine) : L2.LtAt A s (.ref l) (.ref b) k := fun prog w E Q h => by
  obtain ⟨⟨cls, dd, data, sl⟩, ho, hc, n, hd⟩ := id hl
  obtain ⟨⟨cls2, dd2, data2, sl2⟩, ho2, hc2, n2, hd2⟩ := id hb
  simp only at hc hd hc2 hd2; subst hc hd hc2 hd2
  exact richCompare_meets_room (op := .Lt) ⟨_, ho, rfl⟩ ⟨_, ho2, rfl⟩ PySem.F.slot_tuple_lt PySem.F.entry_tuple_lt (PySem.F.args_tuple_lt_2 _ _) (tuple_lt_any l b items items2 n n2 dd dd2 sl sl2 k) ⟨hL, ho, ho2, show Value.bool k ≠ Value.notImplemented ∧ Q (.bool k) s from ⟨(fun x => nomatch x), h⟩⟩ hu
end HT
namespace L2
open PySem PySem.Spec PyProof.Rows
section
variable {X : Cx} {pins : List (Addr × Obj)} {σ : St} {H : Hp} {s : Shared}
mutual
theorem isA_nomix : ∀ {sh : Sh} {d e : Dv}, Dv.isA sh d = true → Dv.isA sh e = true → nomix d e = true
  | .int, d, e, hd, he => by
    obtain ⟨i, rfl⟩ := isA_int hd
    obtain ⟨j, rfl⟩ := isA_int he
    rfl
  | .str, d, e, hd, he => by
    obtain ⟨i, rfl⟩ := isA_str hd
    obtain ⟨j, rfl⟩ := isA_str he
    rfl
  | .tup l, d, e, hd, he => by
    obtain ⟨r, rfl, hr⟩ := isA_tup hd
    obtain ⟨q, rfl, hq⟩ := isA_tup he
    simp only [nomix]
    exact areA_nomix hr hq
theorem areA_nomix : ∀ {l : List Sh} {r q : List Dv}, Dv.areA l r = true → Dv.areA l q = true → nomixs r q = true
  | [], r, q, hr, hq => by rw [areA_nil hr, areA_nil hq]; rfl
  | s :: l, r, q, hr, hq => by
    obtain ⟨d, r', rfl, h1, h2⟩ := areA_cons hr
    obtain ⟨e, q', rfl, h3, h4⟩ := areA_cons hq
    simp only [nomixs, Bool.and_eq_true]
    exact ⟨isA_nomix h1 h3, areA_nomix h2 h4⟩
end
def isLt : Ordering → Bool
  | .lt => true
  | _ => false
theorem ltL_of (I : Inv X pins σ H s) {n : Nat} {A : Around} (hu : A.units + n < cLine)
    (hl : ∀ {sh : Sh} {d e : Dv} {x y : V} {u w : Value}, d.dep ≤ n → Dv.isA sh d = true → Dv.isA sh e = true → Dn X.K H x d → Dn X.K H y e → RelV x u → RelV y w → LtAt A s u w (isLt (dcmp d e))) :
    ∀ {l : List Sh} {ds es : List Dv} {xs ys : List V} {us ws : List Value}, Dv.deps ds ≤ n → Dv.areA l ds = true → Dv.areA l es = true → Dns X.K H xs ds → Dns X.K H ys es → Vals xs us → Vals ys ws → LtL A s us ws (isLt (dcmps ds es))
  | [], ds, es, xs, ys, us, ws, hd, a1, a2, d1, d2, r1, r2 => by
    rw [areA_nil a1] at d1 ⊢
    rw [areA_nil a2] at d2 ⊢
    cases d1; cases d2; cases r1; cases r2
    exact .nn
  | sh :: l, ds, es, xs, ys, us, ws, hd, a1, a2, d1, d2, r1, r2 => by
    obtain ⟨d, ds', rfl, h1, h2⟩ := areA_cons a1
    obtain ⟨e, es', rfl, h3, h4⟩ := areA_cons a2
    cases d1 with
    | cons dx dxs => cases d2 with
      | cons dy dys => cases r1 with
        | cons rx rxs => cases r2 with
          | cons ry rys =>
            simp only [Dv.deps] at hd
            obtain ⟨b, he, hb⟩ := deep_eq I n (A := A) (Nat.le_trans (Nat.le_max_left _ _) hd) hu (isA_nomix h1 h3) dx dy rx ry
            have hc := cmp_eq h1 h3
            cases b with
            | true =>
              have z : dcmp d e = .eq := hc.mpr (hb.mp rfl)
              have rest := ltL_of I hu hl (Nat.le_trans (Nat.le_max_right _ _) hd) h2 h4 dxs dys rxs rys
              have : dcmps (d :: ds') (e :: es') = dcmps ds' es' := by simp only [dcmps, z, Ordering.then]
              rw [this]
              exact .eq he rest
            | false =>
              have z : dcmp d e ≠ .eq := fun q => by have := hb.mpr (hc.mp q); cases this
              have : dcmps (d :: ds') (e :: es') = dcmp d e := by
                simp only [dcmps]
                cases q : dcmp d e with
                | eq => exact absurd q z
                | lt => rfl
                | gt => rfl
              rw [this]
              exact .ne he (hl (Nat.le_trans (Nat.le_max_left _ _) hd) h1 h3 dx dy rx ry)
theorem deep_lt (I : Inv X pins σ H s) : ∀ (n : Nat) {A : Around} {sh : Sh} {d e : Dv} {x y : V} {u w : Value}, d.dep ≤ n → A.units + n < cLine → Dv.isA sh d = true → Dv.isA sh e = true → Dn X.K H x d → Dn X.K H y e → RelV x u → RelV y w →
    LtAt A s u w (isLt (dcmp d e)) := by
  intro n
  induction n with
  | zero =>
    intro A sh d e x y u w hd hu a1 a2 dx dy rx ry
    cases sh with
    | int =>
      obtain ⟨i, rfl⟩ := isA_int a1
      obtain ⟨j, rfl⟩ := isA_int a2
      cases dx; cases dy
      obtain ⟨t, rfl⟩ := rx
      obtain ⟨t', rfl⟩ := ry
      intro prog w' E Q hq
      refine HT.rcLt_int A s i t j t' prog w' E Q ?_
      have : isLt (dcmp (.int i) (.int j)) = decide (i < j) := by
        simp only [dcmp]
        by_cases h : i = j
        · subst h; simp [isLt]
        · rw [if_neg h]; by_cases h1 : i < j <;> simp [h1, isLt]
      rw [this] at hq; exact hq
    | str =>
      obtain ⟨i, rfl⟩ := isA_str a1
      obtain ⟨j, rfl⟩ := isA_str a2
      cases dx; cases dy
      obtain ⟨t, rfl⟩ := rx
      obtain ⟨t', rfl⟩ := ry
      intro prog w' E Q hq
      refine (lt_str ?_ : wpAny (model prog w') A (compareOp .Lt (.str i t) (.str j t')) Q E s)
      have : isLt (dcmp (.str i) (.str j)) = decide (i.cps.toList < j.cps.toList) := by
        simp only [dcmp]
        by_cases h : i = j
        · subst h; simp [isLt, List.lt_irrefl]
        · rw [if_neg h]; by_cases h1 : i.cps.toList < j.cps.toList <;> simp [h1, isLt]
      rw [this] at hq; exact hq
    | tup l =>
      obtain ⟨r, rfl, hr⟩ := isA_tup a1
      simp [Dv.dep] at hd
  | succ n ih =>
    intro A sh d e x y u w hd hu a1 a2 dx dy rx ry
    cases sh with
    | int =>
      obtain ⟨i, rfl⟩ := isA_int a1
      obtain ⟨j, rfl⟩ := isA_int a2
      exact (ih (A := A) (sh := .int) (Nat.zero_le _) (by omega) a1 a2 dx dy rx ry)
    | str =>
      obtain ⟨i, rfl⟩ := isA_str a1
      obtain ⟨j, rfl⟩ := isA_str a2
      exact (ih (A := A) (sh := .str) (Nat.zero_le _) (by omega) a1 a2 dx dy rx ry)
    | tup l =>
      obtain ⟨r, rfl, hr⟩ := isA_tup a1
      obtain ⟨q, rfl, hq⟩ := isA_tup a2
      cases dx with
      | tup ha da => cases dy with
        | tup hb db =>
          cases rx; cases ry
          obtain ⟨its, r1, p1, _⟩ := I.tuple ha
          obtain ⟨its2, r2, p2, _⟩ := I.tuple hb
          simp only [Dv.dep] at hd
          simp only [dcmp]
          refine HT.lt_tupAny p1 p2 ?_ (by omega)
          exact ltL_of I (n := n) (A := A.in1) (by rw [in1_units]; omega) (fun h1 h2 h3 h4 h5 h6 h7 => ih h1 (by rw [in1_units]; omega) h2 h3 h4 h5 h6 h7) (by omega) hr hq da db r1 r2
end
end L2
namespace L2
open PySem PySem.Spec PyProof.Rows
def Den (K : PySem.W.Frag) (H : Hp) (u : Value) (d : Dv) : Prop := ∃ v, RelV v u ∧ Dn K H v d
open Classical in
noncomputable def bltD (K : PySem.W.Frag) (H : Hp) (x y : Keyed) : Bool := decide (∃ d e, Den K H x.1 d ∧ Den K H y.1 e ∧ dcmp d e = .lt)
def OfSh (K : PySem.W.Frag) (H : Hp) (sh : Sh) (x : Keyed) : Prop := ∃ d, Den K H x.1 d ∧ Dv.isA sh d = true
/-- what can be a key -/
def Sh.key : Sh → Bool
  | .int => true
  | .str => true
  | .tup (.int :: _) => true
  | .tup (.str :: _) => true
  | _ => false
def Sh.kind : Sh → SortKind
  | .tup _ => tuples' true
  | _ => oneType'
mutual
def Sh.dep : Sh → Nat
  | .tup l => Sh.deps l + 1
  | _ => 0
def Sh.deps : List Sh → Nat
  | [] => 0
  | d :: r => max (Sh.dep d) (Sh.deps r)
end
mutual
theorem isA_dep : ∀ {sh : Sh} {d : Dv}, Dv.isA sh d = true → d.dep = sh.dep
  | .int, d, h => by obtain ⟨i, rfl⟩ := isA_int h; rfl
  | .str, d, h => by obtain ⟨i, rfl⟩ := isA_str h; rfl
  | .tup l, d, h => by
    obtain ⟨r, rfl, hr⟩ := isA_tup h
    simp only [Dv.dep, Sh.dep]
    rw [areA_deps hr]
theorem areA_deps : ∀ {l : List Sh} {r : List Dv}, Dv.areA l r = true → Dv.deps r = Sh.deps l
  | [], r, h => by rw [areA_nil h]; rfl
  | s :: l, r, h => by
    obtain ⟨d, r', rfl, h1, h2⟩ := areA_cons h
    simp only [Dv.deps, Sh.deps]
    rw [isA_dep h1, areA_deps h2]
end
section
variable {X : Cx} {pins : List (Addr × Obj)} {σ : St} {H : Hp} {s : Shared}
theorem relV_inj {K : PySem.W.Frag} {x y : V} {u : Value} {d e : Dv} (dx : Dn K H x d) (dy : Dn K H y e) (rx : RelV x u) (ry : RelV y u) : x = y := by
  cases dx <;> cases dy <;> first
    | rfl
    | (obtain ⟨t, rfl⟩ := rx; obtain ⟨t', h⟩ := ry; cases h; done)
    | (obtain ⟨t, rfl⟩ := rx; obtain ⟨t', h⟩ := ry; cases h; rfl)
    | (obtain ⟨t, rfl⟩ := rx; cases ry; done)
    | (obtain ⟨t, rfl⟩ := ry; cases rx; done)
    | (cases rx; cases ry; done)
    | (cases rx; cases ry; rfl)
theorem den_inj (I : Inv X pins σ H s) {u : Value} {d e : Dv} (h : Den X.K H u d) (h' : Den X.K H u e) : d = e := by
  obtain ⟨v, r, n⟩ := h
  obtain ⟨v', r', n'⟩ := h'
  have := relV_inj n n' r r'
  subst this
  exact Dn.inj I n n'
open Classical in
theorem blt_at (I : Inv X pins σ H s) {x y : Keyed} {d e : Dv} (hx : Den X.K H x.1 d) (hy : Den X.K H y.1 e) : bltD X.K H x y = isLt (dcmp d e) := by
  unfold bltD
  by_cases h : dcmp d e = .lt
  · rw [h]
    exact decide_eq_true ⟨d, e, hx, hy, h⟩
  · have : isLt (dcmp d e) = false := by
      cases q : dcmp d e with
      | lt => exact absurd q h
      | eq => rfl
      | gt => rfl
    rw [this]
    refine decide_eq_false fun ⟨d', e', hx', hy', h'⟩ => ?_
    rw [den_inj I hx hx', den_inj I hy hy'] at h
    exact h h'
theorem ord_data (I : Inv X pins σ H s) (sh : Sh) : TS.Ord (OfSh X.K H sh) (bltD X.K H) where
  irr := fun x ⟨d, hd, a⟩ => by
    rw [blt_at I hd hd, (cmp_eq a a).mpr rfl]; rfl
  asy := fun x y ⟨d, hd, a⟩ ⟨e, he, b⟩ h => by
    rw [blt_at I hd he] at h
    rw [blt_at I he hd, cmp_swap a b]
    cases q : dcmp d e with
    | lt => rfl
    | eq => rfl
    | gt => rw [q] at h; cases h
  tr := fun x y z ⟨d, hd, a⟩ ⟨e, he, b⟩ ⟨f, hf, c⟩ h1 h2 => by
    rw [blt_at I he hd] at h1
    rw [blt_at I hf he] at h2
    rw [blt_at I hf hd]
    have n1 : dcmp d e ≠ .gt := fun q => by rw [cmp_swap a b, q] at h1; cases h1
    have n2 : dcmp e f ≠ .gt := fun q => by rw [cmp_swap b c, q] at h2; cases h2
    have n3 := cmp_tr a b c n1 n2
    rw [cmp_swap a c]
    cases q : dcmp d f with
    | lt => rfl
    | eq => rfl
    | gt => exact absurd q n3
/-- the comparison that the sort asks for -/
theorem cmp_data {prog : Program} {w : World} {A : Around} (I : Inv X pins σ H s) {sh : Sh} (hk : sh.key = true) (hu : A.units + sh.dep < cLine) {x y : Keyed} {Q : Bool → Shared → Prop} (hx : OfSh X.K H sh x) (hy : OfSh X.K H sh y) (hq : Q (bltD X.K H x y) s) :
    wpAny (model prog w) A (keyLt' sh.kind x.1 y.1) Q (fun _ _ => False) s := by
  obtain ⟨d, hd, a⟩ := hx
  obtain ⟨e, he, b⟩ := hy
  rw [blt_at I hd he] at hq
  obtain ⟨v, rv, nv⟩ := hd
  obtain ⟨v', rv', nv'⟩ := he
  cases sh with
  | int =>
    obtain ⟨i, rfl⟩ := isA_int a
    obtain ⟨j, rfl⟩ := isA_int b
    cases nv; cases nv'
    obtain ⟨t, et⟩ := rv
    obtain ⟨t', et'⟩ := rv'
    show wpAny (model prog w) A (keyLt' oneType' x.1 y.1) Q _ s
    rw [et, et']
    refine PySem.W.kat_lt_int ?_
    have : isLt (dcmp (.int i) (.int j)) = decide (i < j) := by
      simp only [dcmp]
      by_cases h : i = j
      · subst h; simp [isLt]
      · rw [if_neg h]; by_cases h1 : i < j <;> simp [h1, isLt]
    rw [this] at hq; exact hq
  | str =>
    obtain ⟨i, rfl⟩ := isA_str a
    obtain ⟨j, rfl⟩ := isA_str b
    cases nv; cases nv'
    obtain ⟨t, et⟩ := rv
    obtain ⟨t', et'⟩ := rv'
    show wpAny (model prog w) A (keyLt' oneType' x.1 y.1) Q _ s
    rw [et, et']
    refine PySem.W.kas_lt_str ?_
    have : isLt (dcmp (.str i) (.str j)) = decide (i.cps.toList < j.cps.toList) := by
      simp only [dcmp]
      by_cases h : i = j
      · subst h; simp [isLt, List.lt_irrefl]
      · rw [if_neg h]; by_cases h1 : i.cps.toList < j.cps.toList <;> simp [h1, isLt]
    rw [this] at hq; exact hq
  | tup l =>
    obtain ⟨r, rfl, hr⟩ := isA_tup a
    obtain ⟨q, rfl, hq'⟩ := isA_tup b
    cases nv with
    | tup ha da => cases nv' with
      | tup hb db =>
        have rv : x.1 = Value.ref _ := rv
        have rv' : y.1 = Value.ref _ := rv'
        show wpAny (model prog w) A (keyLt' (tuples' true) x.1 y.1) Q _ s
        rw [rv, rv']
        obtain ⟨its, r1, p1, _⟩ := I.tuple ha
        obtain ⟨its2, r2, p2, _⟩ := I.tuple hb
        obtain ⟨o1, g1, c1, n1, e1⟩ := p1
        obtain ⟨o2, g2, c2, n2, e2⟩ := p2
        refine PySem.W.kat_lt g1 e1 g2 e2 ?_
        have hlen : its.length = its2.length := by
          have z1 := r1.length; have z2 := r2.length; have z3 := da.length; have z4 := db.length
          have z5 : ∀ {l : List Sh} {r : List Dv}, Dv.areA l r = true → r.length = l.length := by
            intro l
            induction l with
            | nil => intro r h; rw [areA_nil h]; rfl
            | cons s l ih => intro r h; obtain ⟨d, r', rfl, _, h2⟩ := areA_cons h; simp [ih h2]
          have := z5 hr; have := z5 hq'; omega
        simp only [dcmp] at hq
        simp only [Sh.dep] at hu
        have fin : (decide (its.toArray.size < its2.toArray.size)) = false := decide_eq_false (by simp only [List.size_toArray]; omega)
        rw [fin]
        show PySem.W.KatLex prog w A true false Q (its.zip its2) 0 s
        -- the first place
        have rest : ∀ {l : List Sh} {ds es : List Dv} {xs ys : List V} {us ws : List Value} {i : Nat}, (0 < i) → Sh.deps l + A.units < cLine → Dv.areA l ds = true → Dv.areA l es = true → Dns X.K H xs ds → Dns X.K H ys es → Vals xs us → Vals ys ws → Q (isLt (dcmps ds es)) s →
            PySem.W.KatLex prog w A true false Q (us.zip ws) i s := by
          intro l
          induction l with
          | nil =>
            intro ds es xs ys us ws i _ _ a1 a2 d1 d2 r1 r2 q
            rw [areA_nil a1] at d1 q
            rw [areA_nil a2] at d2 q
            cases d1; cases d2; cases r1; cases r2
            exact PySem.W.kat_nil q
          | cons sh l ih =>
            intro ds es xs ys us ws i hi hu a1 a2 d1 d2 r1 r2 q
            obtain ⟨d, ds', rfl, h1, h2⟩ := areA_cons a1
            obtain ⟨e, es', rfl, h3, h4⟩ := areA_cons a2
            simp only [Sh.deps] at hu
            have hu1 : A.units + Sh.dep sh < cLine := by have := Nat.le_max_left (Sh.dep sh) (Sh.deps l); omega
            have hu2 : Sh.deps l + A.units < cLine := by have := Nat.le_max_right (Sh.dep sh) (Sh.deps l); omega
            cases d1 with
            | cons dx dxs => cases d2 with
              | cons dy dys => cases r1 with
                | cons rx rxs => cases r2 with
                  | cons ry rys =>
                    obtain ⟨b, he, hb⟩ := deep_eq I (Sh.dep sh) (A := A) (Nat.le_of_eq (isA_dep h1)) hu1 (isA_nomix h1 h3) dx dy rx ry
                    have hc := cmp_eq h1 h3
                    rw [List.zip_cons_cons]
                    refine PySem.W.kat_cons (he prog w _ _ ?_)
                    cases b with
                    | true =>
                      have z : dcmp d e = .eq := hc.mpr (hb.mp rfl)
                      refine PySem.W.kat_yes (ih (Nat.succ_pos _) hu2 h2 h4 dxs dys rxs rys ?_)
                      simp only [dcmps, z, Ordering.then] at q; exact q
                    | false =>
                      have z : dcmp d e ≠ .eq := fun q => by have := hb.mpr (hc.mp q); cases this
                      have zz : dcmps (d :: ds') (e :: es') = dcmp d e := by
                        simp only [dcmps]
                        cases q : dcmp d e with
                        | eq => exact absurd q z
                        | lt => rfl
                        | gt => rfl
                      rw [zz] at q
                      refine PySem.W.kat_no ?_
                      have e0 : (true && i == 0) = false := by simp; omega
                      rw [e0]
                      refine PySem.W.kat_one _ _ ?_
                      exact deep_lt I (Sh.dep sh) (A := A) (Nat.le_of_eq (isA_dep h1)) hu1 h1 h3 dx dy rx ry prog w _ _ q
        cases l with
        | nil => simp [Sh.key] at hk
        | cons sh l =>
          obtain ⟨d, ds', rfl, h1, h2⟩ := areA_cons hr
          obtain ⟨e, es', rfl, h3, h4⟩ := areA_cons hq'
          simp only [Sh.deps] at hu
          have hu1 : A.units + Sh.dep sh < cLine := by have := Nat.le_max_left (Sh.dep sh) (Sh.deps l); omega
          have hu2 : Sh.deps l + A.units < cLine := by have := Nat.le_max_right (Sh.dep sh) (Sh.deps l); omega
          cases da with
          | cons dx dxs => cases db with
            | cons dy dys => cases r1 with
              | cons rx rxs => cases r2 with
                | cons ry rys =>
                  obtain ⟨b, he, hb⟩ := deep_eq I (Sh.dep sh) (A := A) (Nat.le_of_eq (isA_dep h1)) hu1 (isA_nomix h1 h3) dx dy rx ry
                  have hc := cmp_eq h1 h3
                  rw [List.zip_cons_cons]
                  refine PySem.W.kat_cons (he prog w _ _ ?_)
                  cases b with
                  | true =>
                    have z : dcmp d e = .eq := hc.mpr (hb.mp rfl)
                    refine PySem.W.kat_yes (rest (Nat.succ_pos _) hu2 h2 h4 dxs dys rxs rys ?_)
                    simp only [dcmps, z, Ordering.then] at hq; exact hq
                  | false =>
                    have z : dcmp d e ≠ .eq := fun q => by have := hb.mpr (hc.mp q); cases this
                    have zz : dcmps (d :: ds') (e :: es') = dcmp d e := by
                      simp only [dcmps]
                      cases q : dcmp d e with
                      | eq => exact absurd q z
                      | lt => rfl
                      | gt => rfl
                    rw [zz] at hq
                    refine PySem.W.kat_no ?_
                    show wpAny (model prog w) A (oneLt' true _ _) Q _ s
                    cases sh with
                    | tup _ => simp [Sh.key] at hk
                    | int =>
                      obtain ⟨i, rfl⟩ := isA_int h1
                      obtain ⟨j, rfl⟩ := isA_int h3
                      cases dx; cases dy
                      obtain ⟨t, rfl⟩ := rx
                      obtain ⟨t', rfl⟩ := ry
                      refine oneLt_int ?_
                      have : isLt (dcmp (.int i) (.int j)) = decide (i < j) := by
                        simp only [dcmp]
                        by_cases h : i = j
                        · subst h; simp [isLt]
                        · rw [if_neg h]; by_cases h1 : i < j <;> simp [h1, isLt]
                      rw [this] at hq; exact hq
                    | str =>
                      obtain ⟨i, rfl⟩ := isA_str h1
                      obtain ⟨j, rfl⟩ := isA_str h3
                      cases dx; cases dy
                      obtain ⟨t, rfl⟩ := rx
                      obtain ⟨t', rfl⟩ := ry
                      have : isLt (dcmp (.str i) (.str j)) = decide (i.cps.toList < j.cps.toList) := by
                        simp only [dcmp]
                        by_cases h : i = j
                        · subst h; simp [isLt, List.lt_irrefl]
                        · rw [if_neg h]; by_cases h1 : i.cps.toList < j.cps.toList <;> simp [h1, isLt]
                      rw [this] at hq
                      have := PySem.W.kas_lt_str (prog := prog) (w := w) (A := A) (E := fun _ _ => False) (t := t) (u := t') (s := s) (Q := Q) hq
                      rw [keyLt'_oneType] at this; exact this
/-- the kind of the keys -/
theorem kind_data {prog : Program} {w : World} {A : Around} (I : Inv X pins σ H s) {sh : Sh} (hk : sh.key = true) {vs : List Value} (h2 : 2 ≤ vs.length) (hv : ∀ v ∈ vs, ∃ d, Den X.K H v d ∧ Dv.isA sh d = true) {Q : SortKind → Shared → Prop} (hq : Q sh.kind s) :
    wpAny (model prog w) A (keyKind' vs.toArray) Q (fun _ _ => False) s := by
  cases sh with
  | int =>
    refine PySem.W.kas_kind (T := .type "int") h2 (fun v m => ?_) (by decide) (by decide) hq
    obtain ⟨d, ⟨x, r, n⟩, a⟩ := hv v m
    obtain ⟨i, rfl⟩ := isA_int a
    cases n
    obtain ⟨t, rfl⟩ := r
    exact .now
  | str =>
    refine PySem.W.kas_kind (T := .type "str") h2 (fun v m => ?_) (by decide) (by decide) hq
    obtain ⟨d, ⟨x, r, n⟩, a⟩ := hv v m
    obtain ⟨i, rfl⟩ := isA_str a
    cases n
    obtain ⟨t, rfl⟩ := r
    exact .now
  | tup l =>
    cases l with
    | nil => simp [Sh.key] at hk
    | cons sh l =>
      have T : ∃ T, (sh = .int ∧ T = Value.type "int") ∨ (sh = .str ∧ T = Value.type "str") := by
        cases sh with
        | int => exact ⟨_, .inl ⟨rfl, rfl⟩⟩
        | str => exact ⟨_, .inr ⟨rfl, rfl⟩⟩
        | tup _ => simp [Sh.key] at hk
      obtain ⟨T, hT⟩ := T
      have key : ∀ vs : List Value, (∀ v ∈ vs, ∃ d, Den X.K H v d ∧ Dv.isA (.tup (sh :: l)) d = true) → ∃ fs, fs.length = vs.length ∧ PySem.W.KatTups s.heap vs fs ∧ ∀ f ∈ fs, PySem.W.Looks (model prog w) s.heap (typeOf f) T := by
        intro vs
        induction vs with
        | nil => exact fun _ => ⟨[], rfl, trivial, fun f m => nomatch m⟩
        | cons v vs ih =>
          intro hv
          obtain ⟨fs, h1, h2, h3⟩ := ih fun u m => hv u (.tail _ m)
          obtain ⟨d, ⟨x, r, n⟩, a⟩ := hv v (.head _)
          obtain ⟨ds, rfl, hr⟩ := isA_tup a
          obtain ⟨d0, ds', rfl, a1, _⟩ := areA_cons hr
          cases n with
          | tup ha da =>
            obtain ⟨its, r1, p1, _⟩ := I.tuple ha
            obtain ⟨o, g, c, k, e⟩ := p1
            have rv : v = Value.ref _ := r
            subst rv
            cases da with
            | cons dx dxs => cases r1 with
              | @cons _ u _ us rx rxs =>
                refine ⟨u :: fs, by simp [h1], PySem.W.KatTups.cons g c e (by simp) h2, fun f m => ?_⟩
                rcases List.mem_cons.mp m with rfl | m
                · rcases hT with ⟨rfl, rfl⟩ | ⟨rfl, rfl⟩
                  · obtain ⟨i, rfl⟩ := isA_int a1
                    cases dx
                    obtain ⟨t, rfl⟩ := rx
                    exact .now
                  · obtain ⟨i, rfl⟩ := isA_str a1
                    cases dx
                    obtain ⟨t, rfl⟩ := rx
                    exact .now
                · exact h3 f m
      obtain ⟨fs, h1, h3, h4⟩ := key vs hv
      refine PySem.W.kat_kind h3 (by omega) h4 ?_ ?_
      · rcases hT with ⟨_, rfl⟩ | ⟨_, rfl⟩ <;> decide
      · have : (T != Value.type "tuple") = true := by rcases hT with ⟨_, rfl⟩ | ⟨_, rfl⟩ <;> decide
        rw [this]; exact hq
theorem perm_both {K : PySem.W.Frag} {its out : List Value} (p : its.Perm out) : ∀ {ys : List V} {ds : List Dv}, Vals ys its → Dns K H ys ds → ∃ zs es, Vals zs out ∧ Dns K H zs es ∧ es.Perm ds := by
  induction p with
  | nil => intro ys ds r d; exact ⟨ys, ds, r, d, .refl _⟩
  | cons x p ih =>
    intro ys ds r d
    cases r with
    | cons rx rxs => cases d with
      | cons dx dxs =>
        obtain ⟨zs, es, h1, h2, h3⟩ := ih rxs dxs
        exact ⟨_ :: zs, _ :: es, .cons rx h1, .cons dx h2, h3.cons _⟩
  | swap x y l =>
    intro ys ds r d
    cases r with
    | cons rx rxs => cases rxs with
      | cons ry rys => cases d with
        | cons dx dxs => cases dxs with
          | cons dy dys => exact ⟨_, _, .cons ry (.cons rx rys), .cons dy (.cons dx dys), List.Perm.swap _ _ _⟩
  | trans p1 p2 ih1 ih2 =>
    intro ys ds r d
    obtain ⟨zs, es, h1, h2, h3⟩ := ih1 r d
    obtain ⟨zs', es', h1', h2', h3'⟩ := ih2 h1 h2
    exact ⟨zs', es', h1', h2', h3'.trans h3⟩
theorem pw_both (I : Inv X pins σ H s) {sh : Sh} : ∀ {out : List Value} {zs : List V} {es : List Dv}, Vals zs out → Dns X.K H zs es → (∀ d ∈ es, Dv.isA sh d = true) → out.Pairwise (fun x y => bltD X.K H (y, y) (x, x) = false) → es.Pairwise fun d e => dcmp d e ≠ .gt
  | [], _, _, r, d, _, _ => by cases r; cases d; exact .nil
  | u :: out, _, _, r, d, a, h => by
    cases r with
    | cons rx rxs => cases d with
      | @cons x xs d0 ds dx dxs =>
        obtain ⟨h1, h2⟩ := List.pairwise_cons.mp h
        refine List.pairwise_cons.mpr ⟨fun e m => ?_, pw_both I rxs dxs (fun d m => a d (.tail _ m)) h2⟩
        obtain ⟨i, hi⟩ := List.mem_iff_getElem?.mp m
        obtain ⟨y, ey, dy⟩ := dxs.get hi
        obtain ⟨w, ew, ry⟩ := Vals.get rxs ey
        have q := h1 w (List.mem_of_getElem? ew)
        rw [blt_at I (x := (w, w)) (y := (u, u)) ⟨y, ry, dy⟩ ⟨_, rx, dx⟩] at q
        have a1 := a d0 (.head _)
        have a2 := a e (.tail _ m)
        rw [cmp_swap a1 a2] at q
        intro z
        rw [z] at q
        cases q
def rSorted (K : PySem.W.Frag) : List V → Hp → VK → Prop := fun xs H Q => ∃ p ys ds sh, xs = [.ref p] ∧ SqL K H p ys ∧ Dns K H ys ds ∧ (∀ d ∈ ds, Dv.isA sh d = true) ∧ sh.key = true ∧ sh.dep ≤ 30 ∧ ys.length ≤ 10000000 ∧
  ∀ l zs es, H l = none → Dns K H zs es → es.Perm ds → es.Pairwise (fun d e => dcmp d e ≠ .gt) → Q (.ref l) (upd H l (.lst zs))
theorem call_sorted (hu : X.A.units + 64 < cLine) : CallR X (.builtin "sorted") (rSorted X.K) := by
  intro pins s σ H xs us Q I r h
  obtain ⟨p, ys, ds, sh, rfl, hp, dn, ha, hk, hd, hz, q⟩ := h
  obtain ⟨u, rfl, rx⟩ := vals1 r
  cases rx
  obtain ⟨its, r', pl, hz'⟩ := I.list hp
  have hlen := r'.length
  have den : ∀ v ∈ its, ∃ d, Den X.K H v d ∧ Dv.isA sh d = true := fun v m => by
    obtain ⟨i, hi⟩ := List.mem_iff_getElem?.mp m
    have hy : i < ys.length := by
      have := (List.getElem?_eq_some_iff.mp hi).1
      omega
    obtain ⟨u, eu, ru⟩ := r'.get (List.getElem?_eq_getElem hy)
    rw [hi] at eu; cases eu
    obtain ⟨d, ed, dd⟩ := dn.get' (List.getElem?_eq_getElem hy)
    exact ⟨d, ⟨_, ru, dd⟩, ha d (List.mem_of_getElem? ed)⟩
  refine TS.w_sorted (κ := sh.kind) (S := OfSh X.K H sh) (blt := bltD X.K H) (ord_data I sh) pl.isList (by omega) (fun v m => den v m) (fun h2 h' kp Q' q' => ?_) (fun h2 h' kp x y Q' hx hy q' => ?_) fun out p1 p2 => ?_
  · have I1 : Inv X pins σ H { s with heap := h' } := I.kept (t' := s.toks) kp
    exact kind_data I1 hk h2 den q'
  · have I1 : Inv X pins σ H { s with heap := h' } := I.kept (t' := s.toks) kp
    exact cmp_data I1 hk (by rw [in1_units, in1_units]; omega) hx hy q'
  · obtain ⟨zs, es, h1, h2, h3⟩ := perm_both (K := X.K) (H := H) p1.symm r' dn
    have pw := pw_both I h1 h2 (fun d m => ha d (h3.mem_iff.mp m)) p2
    have hl : zs.length = ys.length := by rw [h1.length, p1.length_eq, hlen]
    obtain ⟨e, he⟩ := sortedAll_at s.heap its out.toArray
    refine ⟨.ref (s.heap.objs.size + 1), _, I.laid (t' := s.toks) (a := s.heap.objs.size + 1) (o := .lst zs) (fun b o q => sortedAll_old q) (Nat.le_succ _) ?_, rfl, q _ zs es (I.hok.fresh (Nat.le_succ _)) h2 h3 pw⟩
    exact ⟨by omega, out, e, h1, he⟩
end
end L2
namespace RD
open PySem PyProof.Rows
def Raw (h : Heap) (d : Addr) (es : Array DictEntry) (ep : Nat) : Prop := ∃ o, h.get? d = some o ∧ o.ExactDict ∧ o.data = .dict es ep
section
variable {prog : Program} {w : World} {A : Around} {E : Value → Shared → Prop} {s : Shared} {d it : Addr} {es : Array DictEntry} {ep i : Nat}
theorem Raw.type (x : Raw s.heap d es ep) : s.TypeIs (.ref d) "dict" := let ⟨o, ho, hc, _⟩ := x; ⟨o, ho, hc.1⟩
end
end RD
namespace L2
open PySem PySem.Spec PyProof.Rows
section
variable {X : Cx} {pins : List (Addr × Obj)} {σ : St} {H : Hp} {s : Shared} {a b : Addr} {kvs : List (List Key × V)} {k : List Key} {A : Around} {E : Value → Shared → Prop}
end
section
variable {X : Cx} {o e i : Expr} {apos cpos tpos pos : Pos} {td ty : TE}
end
end L2
namespace L2
open PySem PySem.Spec PyProof.Rows
section
variable {P : Program} {w : World} {H H' : Hp} {h : Heap} {a : Addr} {o : HO}
theorem ObjOk.here (x : ObjOk P w H h a o) : ∃ u, h.get? a = some u := by
  cases o with
  | lst xs => obtain ⟨_, _, _, _, e⟩ := x; exact ⟨_, e⟩
  | tup xs => obtain ⟨_, _, _, u, e, _⟩ := x; exact ⟨u, e⟩
  | dK kvs => obtain ⟨_, _, _, _, u, _, _, e, _⟩ := x; exact ⟨u, e⟩
  | dT kvs => obtain ⟨_, _, _, _, u, _, _, e, _⟩ := x; exact ⟨u, e⟩
  | set S n => obtain ⟨u, _, _, _, e, _⟩ := x; exact ⟨u, e⟩
  | ins C dx fs => obtain ⟨_, _, _, e, _⟩ := x; exact ⟨_, e⟩
  | own y => exact x
  | xd fs => obtain ⟨_, ⟨u, _, _, e, _⟩, _⟩ := x; exact ⟨u, e⟩
  | rng lo hi => obtain ⟨_, _, _, e⟩ := x; exact ⟨_, e⟩
  | frz ob u => obtain ⟨e, _⟩ := x; exact ⟨_, e⟩
  | tbl ps => exact ⟨_, (show h.get? a = some _ from x)⟩
  | met f y => exact ⟨_, (show h.get? a = some _ from x)⟩
  | ext φ => exact x.2.1
theorem HOk.none (x : HOk P w H h) (e : h.get? a = Option.none) : H a = Option.none := by
  cases q : H a with
  | none => rfl
  | some o =>
    obtain ⟨u, z⟩ := (x a o q).here
    rw [e] at z; cases z
end
/-- an exception of class C at a, behind a call made at (H, s) from the frames l; H': the abstract heap behind it -/
structure Fly (P : Program) (w : World) (l : List Env) (H : Hp) (s : Shared) (a : Addr) (C : Value) (H' : Hp) (s' : Shared) : Prop where
  os : s'.os = s.os
  bare : AllBare s'.gens
  un : Un (frs l) [] H H' s.heap s'.heap
  new : s.heap.get? a = none
  gr : ∃ B a0, Heap.FlyingW B l a C a0 s'.heap ∧ HOk P w H' B ∧ ∀ b o, s.heap.get? b = some o → b ∉ frs l → ∃ o', B.get? b = some o' ∧ (H b = none → o' = o)
def CXE (P : Program) (w : World) : CXT := fun l H s E e s' => ∃ a C H', e = .ref a ∧ Fly P w l H s a C H' s' ∧ E C none H'
section
variable {X : Cx} {pins : List (Addr × Obj)} {σ : St} {H H' : Hp} {s s' : Shared} {a : Addr} {C : Value} {B h2 : Heap}
/-- the state behind an unwinding: all of B is kept, the rest up to slots -/
theorem Inv.fly (I : Inv X pins σ H s) (os : s'.os = s.os) (bare : AllBare s'.gens) (un : Un (frs X.stack) [] H H' s.heap s'.heap) (st : B.StaysIn h2) (sm : s'.heap.UpToSlots h2) (hb : HOk X.prog X.w H' B)
    (gr : ∀ b o, s.heap.get? b = some o → b ∉ frs X.stack → ∃ o', B.get? b = some o' ∧ (H b = none → o' = o)) : Inv X pins σ H' { s' with heap := h2 } := by
  have slot : ∀ b o, s.heap.get? b = some o → b ∈ frs X.stack → ∃ sl, h2.get? b = some { o with slots := sl } := fun b o e hm => by
    obtain ⟨sl, e1⟩ := un.slot b o e (I.stkFree b hm) hm (by simp)
    obtain ⟨_, o1, eo, hd⟩ := I.stack.mem hm
    rw [e] at eo; cases eo
    obtain ⟨sl2, e2⟩ := sm b _ e1 hd
    exact ⟨sl2, e2⟩
  have u2 : Un (frs X.stack) [] H H' s.heap h2 := by
    refine ⟨fun b o e n hm _ => ?_, fun b o e n hm _ => slot b o e hm, fun b o e n hx => un.free b o e n hx, fun b o e _ => ?_, un.tups, un.frzs, un.tbls⟩
    · obtain ⟨o', e', k⟩ := gr b o e hm
      rw [← k n]; exact st b o' e'
    · by_cases hm : b ∈ frs X.stack
      · obtain ⟨sl, z⟩ := slot b o e hm
        exact ⟨_, z⟩
      · obtain ⟨o', e', _⟩ := gr b o e hm
        exact ⟨o', st b o' e'⟩
  exact I.call' (s' := { s' with heap := h2 }) (ch := []) os u2 (hb.kept st) bare (fun b z => absurd z (by simp))
theorem Inv.noframe (I : Inv X pins σ H s) {b : Addr} {o : Obj} (e : X.s₀.heap.get? b = some o) (hm : b ∉ X.fs) : b ∉ frs X.stack := fun z => by
  rcases List.mem_cons.mp (I.stkSub b z) with q | q
  · exact absurd (Heap.lt_size e) (by rw [q]; exact Nat.not_lt.mpr I.ok.above)
  · exact hm q
theorem Inv.ground (I : Inv X pins σ H s) (hx : X.ex = []) (gr : ∀ b o, s.heap.get? b = some o → b ∉ frs X.stack → ∃ o', B.get? b = some o' ∧ (H b = none → o' = o)) :
    ∀ b o, X.s₀.heap.get? b = some o → b ∉ X.fs → ∃ o', B.get? b = some o' ∧ (X.H₀ b = none → o' = o) := fun b o e hm => by
  have hbx : b ∉ X.ex := by rw [hx]; simp
  obtain ⟨o1, e1⟩ := I.base.there b o e hbx
  obtain ⟨o', e', k⟩ := gr b o1 e1 (I.noframe e hm)
  refine ⟨o', e', fun n => ?_⟩
  have z := I.base.keep b o e n hm hbx
  rw [e1] at z; cases z
  exact k (I.base.free b _ e n hbx)
theorem Inv.unborn (I : Inv X pins σ H s) (hx : X.ex = []) (e : s.heap.get? a = none) : X.s₀.heap.get? a = none := by
  cases q : X.s₀.heap.get? a with
  | none => rfl
  | some o =>
    obtain ⟨o', z⟩ := I.base.there a o q (by rw [hx]; simp)
    rw [e] at z; cases z
/-- it leaves a def's frame -/
theorem Fly.out {Q : Unit → Shared → Prop} {E : Value → Shared → Prop} (I : Inv X pins σ H s) (hs : X.stack = X.env :: X.outer) (hf : X.env.frame = some X.env.locals) (hx : X.ex = []) (F : Fly X.prog X.w X.stack H s a C H' s')
    (h : ∀ h2, Fly X.prog X.w X.outer X.H₀ X.s₀ a C H' { s' with heap := h2 } → Q () { s' with heap := h2 }) : wpAny (model X.prog X.w) X.A (leaving X.env (.ref a)) Q E s' := by
  obtain ⟨B, a0, fl, hb, gr⟩ := F.gr
  have fl' := fl
  rw [hs] at fl'
  have hfr := I.ok.frames
  rw [hs] at hfr
  refine wpAny_leaves_onW hfr hf fl' fun h2 fl2 sm => h h2 ?_
  have I2 := I.fly F.os F.bare F.un fl2.1 sm hb gr
  have b2 : Un X.fs X.ex X.H₀ H' X.s₀.heap h2 := I2.base
  rw [hx] at b2
  exact ⟨F.os.trans I.os, F.bare, b2, I.unborn hx F.new, B, a0, fl2, hb, I.ground hx gr⟩
/-- it is raised in a def's body -/
theorem Fly.made {Q : Unit → Shared → Prop} {E : Value → Shared → Prop} {h' : Heap} {vs : List Value} (I : Inv X pins σ H s) (hs : X.stack = X.env :: X.outer) (hf : X.env.frame = some X.env.locals) (hx : X.ex = []) (M : Heap.MadeExcOf s.heap h' a C vs)
    (h : ∀ h2, Fly X.prog X.w X.outer X.H₀ X.s₀ a C H { s with heap := h2 } → Q () { s with heap := h2 }) : wpAny (model X.prog X.w) X.A (leaving X.env (.ref a)) Q E { s with heap := h' } := by
  have hfr := I.ok.frames
  rw [hs] at hfr
  have stk := I.stack
  have ff : s.heap.FunFrames (PySem.W.hideAll s.heap (frs X.stack)) X.stack := PySem.W.funFrames_hide stk fun env he b hb => List.mem_filterMap.mpr ⟨env, he, hb⟩
  rw [hs] at ff
  have hb : HOk X.prog X.w H (PySem.W.hideAll s.heap (frs X.stack)) := fun b o e => (I.hok b o e).stay (fun c u hc q => PySem.W.hideAll_get _ q fun z => by
    have n := I.stkFree c z
    rcases hc with r | r
    · rw [r, e] at n; cases n
    · rw [r] at n; cases n) (fun _ q => q) fun _ _ q => q
  have gr : ∀ b o, s.heap.get? b = some o → b ∉ frs X.stack → ∃ o', (PySem.W.hideAll s.heap (frs X.stack)).get? b = some o' ∧ (H b = none → o' = o) := fun b o e n => ⟨o, PySem.W.hideAll_get _ e n, fun _ => rfl⟩
  refine wpAny_leaves_madeW (s := { s with heap := h' }) (base := PySem.W.hideAll s.heap (frs X.stack)) (h := s.heap) hfr hf (fun b o q => PySem.W.of_hideAll _ q) (by rw [hs] at *; exact ff) M fun h2 t fl htup hn sm => h h2 ?_
  have I2 : Inv X pins σ H { s with heap := h2 } := I.fly (s' := { s with heap := h' }) rfl I.bare (Un.kept M.keeps) fl.1 sm hb gr
  have b2 : Un X.fs X.ex X.H₀ H X.s₀.heap h2 := I2.base
  rw [hx] at b2
  exact ⟨I.os, I.bare, b2, I.unborn hx M.new, _, _, fl, hb, I.ground hx gr⟩
end
/-- an exception that is raised here reaches what is wanted -/
def Raises (X : Cx) (E : XK) : Prop := ∀ (pins : List (Addr × Obj)) (σ : St) (H : Hp) (s : Shared) (h' : Heap) (a : Addr) (C : Value) (vs : List Value), Inv X pins σ H s → Heap.MadeExcOf s.heap h' a C vs → E C none H → X.xe (.ref a) { s with heap := h' }
section
variable {P : Program} {w : World} {K : PySem.W.Frag} {mg : Str → Option Value} {base : Heap} {N : List Str} {qual : Str} {scope : Scope} {f : Addr} {cd : Value} {A : Around} {outer : List Env} {s : Shared} {H : Hp} {E : XK}
theorem passX : Passes (CXE P w) (cxOf (CXE P w) P w K mg base N qual scope f cd A outer s H E) E := by
  intro pins σ H1 s1 e s' I h
  obtain ⟨a, C, H', he, F, q⟩ := h
  subst he
  exact Fly.out I rfl rfl rfl F fun h2 F2 => ⟨a, C, H', rfl, F2, q⟩
theorem raisesX : Raises (cxOf (CXE P w) P w K mg base N qual scope f cd A outer s H E) E := by
  intro pins σ H1 s1 h' a C vs I M q
  exact Fly.made I rfl rfl rfl M fun h2 F2 => ⟨a, C, H1, rfl, F2, q⟩
end
theorem exc_obj {K : PySem.W.Frag} {h : Heap} {C : Addr} {bmB : List Value} {newId : String} (X : K.In h) (q : PySem.W.excIn K C bmB newId = true) :
    ∃ bm N nm qn bs hdct sn sub ab col dd k0 k1 k2 k3 k5 mN, h.get? C = some (excClassObj nm qn C N bs bm hdct sn sub ab col dd k0 k1 k2 k3 k5 newId) ∧ h.Ns N mN ∧ mN "__init__" = none ∧ OwnTail h bmB bm := by
  unfold PySem.W.excIn at q
  split at q
  · rename_i dd cd sl ho; split at q
    · rename_i C' bm k0 k1 k2 k3 n k5 hm hs; simp only [Bool.and_eq_true, beq_iff_eq, Bool.not_eq_true'] at q
      obtain ⟨⟨⟨⟨⟨c1, c2⟩, hdel⟩, ht⟩, hok⟩, hni⟩ := q; subst c1; subst c2
      obtain ⟨nm, bs, mro, ns, qn, hd, sn, sub, ab, col, del⟩ := cd; dsimp only at hm hdel hok hni; subst hm; subst hdel
      have hsl : sl = #[k0, k1, k2, k3, some (.builtin n), k5] := by cases sl; exact congrArg Array.mk hs
      subst hsl
      exact ⟨bm, ns, nm, qn, bs, hd, sn, sub, ab, col, dd, k0, k1, k2, k3, k5, _, X _ _ ho, Heap.Ns.of_isNs (PySem.W.isNs_of_in X hok), PySem.W.nsMap_none_of_in X hok hni, PySem.W.tail_of_in X ht⟩
    · exact absurd q (by simp)
  · exact absurd q (by simp)
section
variable {X : Cx} {E : XK} {x : Str} {C : Addr} {bmB : List Value} {newId B initId : String} {e₀ : Expr} {es : List Expr} {t : TA} {np cpos pos : Pos}
theorem ps_raise (hR : Raises X E) (hc : X.calm = true) (hg : Gl X x) (hm : X.mg x = some (.ref C)) (q : PySem.W.excIn X.K C bmB newId = true) (FB : ExcBaseFacts B newId initId bmB) (ha : PA X (e₀ :: es) t)
    (hd : (x == ("__debug__" : Str)) = false := by decide) (he : starEach (e₀ :: es) X.env = (false, eval e₀ X.env) :: starEach es X.env := by rfl) (hpl : (backTo cpos (starEach es X.env)).any (·.1) = false := by rfl) :
    PS X (.Raise (some (.Call (.Name x np) (e₀ :: es) [] cpos)) none pos) (fun _ σ H => t σ H fun vs H1 => vs.length ≤ sizeLine ∧ E (.ref C) none H1) := by
  intro pins s σ H D I h
  obtain ⟨tl, N, nm, qn, bs, hdct, sn, sub, ab, col, dd, k0, k1, k2, k3, k5, mN, hC, hN, hni, T⟩ := exc_obj I.ok.mod.kin q
  refine wpAny_Raise_call_subT (C := C) (nm := nm) (q := qn) (N := N) (bs := bs) (bm := tl) (hdct := hdct) (sn := sn) (sub := sub) (ab := ab) (col := col) (dd := dd) (k0 := k0) (k1 := k1) (k2 := k2) (k3 := k3) (k5 := k5) FB (mN := mN)
    (T.hasType FB.hasBase) (I.ok.hd hc) (by rw [he]; show (false || (backTo cpos (starEach es X.env)).any (·.1)) = false; rw [hpl]; rfl) hni (ld_glob I hg hm ⟨rfl, ?_⟩ hd)
  have h2 := ha cpos pins s σ H _ I h
  rw [he] at h2 ⊢
  refine Calls.evalArgs_plain (wpAny_mono h2 (fun us s2 z => ?_) fun _ _ y => y)
  obtain ⟨vs, H2, I2, r, hl, hE⟩ := z
  exact ⟨rfl, by rw [← r.length]; exact hl, I2.bk _ _ hC, hN.keeps I2.bk, T.keeps I2.bk, fun h' e M => hR pins σ H2 s2 h' e _ _ I2 M hE⟩
end
end L2
namespace L2
open PySem PySem.Spec PyProof.Rows
/-- the body of a try: an exception lands in the handler -/
abbrev Cx.tryE (X : Cx) (pins : List (Addr × Obj)) (E : XK) : Cx :=
  { X with pn := X.pn ++ pins, xe := fun e s' => ∃ σ H s a C H', e = .ref a ∧ Inv X pins σ H s ∧ Fly X.prog X.w X.stack H s a C H' s' ∧ E C none H' }
/-- the suite of an except clause: no call of an own def -/
abbrev Cx.hand (X : Cx) (a : Addr) : Cx := { X with A := X.A.mark (some (.ref a)), calm := false, xe := fun _ _ => False }
section
variable {X : Cx} {pins pins' : List (Addr × Obj)} {σ : St} {H : Hp} {s : Shared} {E : XK} {a : Addr}
theorem Inv.toTry (I : Inv X pins σ H s) : Inv (X.tryE pins E) [] σ H s :=
  let ok := I.ok
  ⟨⟨ok.mod, ok.kind, ok.glob, ok.blt, ok.above, ok.inj, ok.has, ok.cab, ok.hd, ok.frames, ok.stk, ok.exf, ok.bs, ok.bsz, ok.noex, ok.exfs, ok.funs, ok.frf⟩, I.os, I.bare, I.base, I.loc, I.cell, I.free, I.freeC, fun p hp => I.pin p (by simpa using hp), I.hok, I.len⟩
theorem Inv.ofTry (I : Inv (X.tryE pins E) pins' σ H s) : Inv X pins σ H s :=
  let ok := I.ok
  ⟨⟨ok.mod, ok.kind, ok.glob, ok.blt, ok.above, ok.inj, ok.has, ok.cab, ok.hd, ok.frames, ok.stk, ok.exf, ok.bs, ok.bsz, ok.noex, ok.exfs, ok.funs, ok.frf⟩, I.os, I.bare, I.base, I.loc, I.cell, I.free, I.freeC, fun p hp => I.pin p (List.mem_append_left _ hp), I.hok, I.len⟩
theorem Inv.toHand (I : Inv X pins σ H s) : Inv (X.hand a) pins σ H s :=
  let ok := I.ok
  ⟨⟨ok.mod, ok.kind, ok.glob, ok.blt, ok.above, ok.inj, ok.has, ok.cab, fun z => Bool.noConfusion z, ok.frames, ok.stk, ok.exf, ok.bs, ok.bsz, ok.noex, ok.exfs, ok.funs, ok.frf⟩, I.os, I.bare, I.base, I.loc, I.cell, I.free, I.freeC, I.pin, I.hok, I.len⟩
theorem Inv.ofHand (ok : X.Ok) (I : Inv (X.hand a) pins σ H s) : Inv X pins σ H s := ⟨ok, I.os, I.bare, I.base, I.loc, I.cell, I.free, I.freeC, I.pin, I.hok, I.len⟩
theorem passT : Passes (CXE X.prog X.w) (X.tryE pins E) E := fun _ σ H s _ _ I ⟨a, C, H', he, F, q⟩ => ⟨σ, H, s, a, C, H', he, I.ofTry, F, q⟩
theorem SP.ofTry {D : Ends} {f : Flow} {s' : Shared} (h : SP (X.tryE pins E) pins' D f s') : SP X pins D f s' := by
  cases f with
  | next => obtain ⟨σ', H', I, q⟩ := h; exact ⟨σ', H', I.ofTry, q⟩
  | brk => obtain ⟨σ', H', I, q⟩ := h; exact ⟨σ', H', I.ofTry, q⟩
  | cont => obtain ⟨σ', H', I, q⟩ := h; exact ⟨σ', H', I.ofTry, q⟩
  | ret u => obtain ⟨v, σ', H', I, r, q⟩ := h; exact ⟨v, σ', H', I.ofTry, r, q⟩
theorem SP.ofHand (ok : X.Ok) {D : Ends} {f : Flow} {s' : Shared} (h : SP (X.hand a) pins D f s') : SP X pins D f s' := by
  cases f with
  | next => obtain ⟨σ', H', I, q⟩ := h; exact ⟨σ', H', I.ofHand ok, q⟩
  | brk => obtain ⟨σ', H', I, q⟩ := h; exact ⟨σ', H', I.ofHand ok, q⟩
  | cont => obtain ⟨σ', H', I, q⟩ := h; exact ⟨σ', H', I.ofHand ok, q⟩
  | ret u => obtain ⟨v, σ', H', I, r, q⟩ := h; exact ⟨v, σ', H', I.ofHand ok, r, q⟩
/-- an exception's object, tracked: its class -/
def excAt (a : Addr) (C : Value) : Heap → Prop := fun h => ∃ o, h.get? a = some o ∧ o.cls = C
/-- an object of ours that was not tracked is -/
theorem Inv.track (I : Inv X pins σ H s) {φ : Heap → Prop} {o : Obj} (h0 : X.s₀.heap.get? a = none) (ho : s.heap.get? a = some o) (hn : H a = none) (hL : a ≠ X.env.locals) (hc : ∀ x c, X.env.cells.lookup x = some c → c ≠ a) (hp : ∀ p ∈ X.pn ++ pins, p.1 ≠ a)
    (p : φ s.heap) (st : ∀ h1 h2 : Heap, φ h1 → (∀ o, h1.get? a = some o → h2.get? a = some o) → φ h2) : Inv X pins σ (upd H a (.ext φ)) s := by
  have ne : ∀ {b : Addr} {u : HO}, H b = some u → b ≠ a := fun e => ne_of_none e hn
  have old : ∀ {b : Addr} {u : Obj}, X.s₀.heap.get? b = some u → b ≠ a := fun e z => by rw [z, h0] at e; cases e
  refine ⟨I.ok, I.os, I.bare, ⟨I.base.keep, I.base.slot, fun b u e n hx => ?_, I.base.there, fun b xs q => ?_, fun b u v q => ?_, fun b ps q => ?_⟩, I.loc, I.cell, by rw [upd_ne hL.symm]; exact I.free, fun x c e => by rw [upd_ne (hc x c e)]; exact I.freeC x c e, fun q hq => ?_, fun b u e => ?_, I.len⟩
  · rw [upd_ne (old e)]; exact I.base.free b u e n hx
  · have := I.base.tups b xs q
    rw [upd_ne (ne this)]; exact this
  · have := I.base.frzs b u v q
    rw [upd_ne (ne this)]; exact this
  · obtain ⟨m, e⟩ := I.base.tbls b ps q
    exact ⟨m, by rw [upd_ne (ne e)]; exact e⟩
  · obtain ⟨e, n, r⟩ := I.pin q hq
    exact ⟨e, by rw [upd_ne (hp q hq)]; exact n, r⟩
  · by_cases hb : b = a
    · subst hb
      rw [upd_same] at e; cases e
      exact ⟨p, ⟨o, ho⟩, st⟩
    · rw [upd_ne hb] at e
      exact (I.hok b u e).stay (fun c v _ q => q) (fun c q => by rw [upd_ne (ne q)]; exact q) fun c xs q => by rw [upd_ne (ne q)]; exact q
end
section
variable {X : Cx} {body suite : List Stmt} {b₀ : Stmt} {h₀ : ExceptHandler} {hs : List ExceptHandler} {tb th : TS} {tE : XK → TS} {x n : Str} {C' : Addr} {np pos hpos : Pos} {i : Nat}
/-- nothing is raised -/
theorem ps_tryOk (hb : PSs X.nox body tb) : PS X (.Try body (h₀ :: hs) [] [] pos) tb := by
  intro pins s σ H D I h
  refine wpAny_Try_except (wpAny_mono (hb pins s σ H D (I.wish _) h) (fun f s1 q => ?_) fun e s1 q => False.elim q)
  have q' := q.unwish
  cases f with
  | next => exact wpAny_execs_nil q'
  | brk => exact q'
  | cont => exact q'
  | ret u => exact q'
def tTry (K : PySem.W.Frag) (n : Nat) (C' : Addr) (tE : XK → TS) (th : TS) : TS := fun D σ H => tE (fun C _ H' => PySem.W.exmOne K C (.ref C') = some true ∧ th D (List.replicate n none) H') D σ H
theorem Inv.forget {pins : List (Addr × Obj)} {σ : St} {H : Hp} {s : Shared} (I : Inv X pins σ H s) : Inv X pins (List.replicate X.N.length none) H s :=
  I.weak (by rw [List.length_replicate, I.len]) fun i v e => by
    rw [List.getElem?_replicate] at e
    split at e <;> cases e
theorem ps_try (hst : X.stack = X.env :: X.outer) (hf : X.env.frame = some X.env.locals) (hg : Gl X x) (hm : X.mg x = some (.ref C')) (hb : ∀ pins E, PSs (X.tryE pins E) body (tE E)) (hh : ∀ a, PSs (X.hand a) (b₀ :: suite) th)
    (hd : (x == ("__debug__" : Str)) = false := by decide) : PS X (.Try body [.ExceptHandler (some (.Name x np)) none (b₀ :: suite) hpos] [] [] pos) (tTry X.K X.N.length C' tE th) := by
  intro pins s σ H D I h
  refine wpAny_Try_except (wpAny_mono (hb pins _ [] s σ H D I.toTry h) (fun f s1 q => ?_) fun e s1 q => ?_)
  · have q' := q.ofTry
    cases f with
    | next => exact wpAny_execs_nil q'
    | brk => exact q'
    | cont => exact q'
    | ret u => exact q'
  · obtain ⟨σ1, H1, s2, a, C, H', rfl, I1, F, hx, hth⟩ := q
    obtain ⟨B, a0, fl, hb', gr⟩ := F.gr
    have fl' := fl
    rw [hst] at fl'
    have hfr := I.ok.frames
    rw [hst] at hfr
    refine wpAny_looks_onW hfr hf fl' fun h4 held4 sm4 => ?_
    refine wpAny_landsW (s := { s1 with heap := h4 }) held4 fun h5 fl5 sm5 => ?_
    have I5 := I1.fly F.os F.bare F.un fl5.1 (sm4.trans sm5) hb' gr
    refine wpAny_handleBy_cons (codeAny_handlers_test (ld_glob (X := X.hand a) (I5.toHand) hg hm ?_ hd)) (by intro z; cases z)
    obtain ⟨ob, hob, hoc⟩ := fl5.there
    have ty : PySem.W.Looks (model X.prog X.w) h5 (typeOf (.ref a)) C := by
      subst hoc
      exact (PySem.W.Looks.ld hob).andThen .now
    refine (PySem.W.exm_one (M := model X.prog X.w) (h := h5) I5.kIn ty hx).here ?_
    refine codeAny_handlers_suite (lands_againW (s := { s1 with heap := h5 }) fl5 fun h6 fl6 sm6 => ?_)
    have I6 := I1.fly F.os F.bare F.un fl6.1 ((sm4.trans sm5).trans sm6) hb' gr
    exact wpAny_mono (hh a pins { s1 with heap := h6 } _ H' D I6.forget.toHand hth) (fun f s3 z => z.ofHand I.ok) fun _ _ z => False.elim z
end
end L2
namespace L2
open PySem PySem.Spec PyProof.Rows
section
variable {X : Cx} {pins : List (Addr × Obj)} {σ : St} {H : Hp} {s : Shared}
/-- a name goes -/
theorem Inv.gone {M : Model} {A : Around} {E : Value → Shared → Prop} {i : Nat} {n : Str} {pos : Pos} {Q : Unit → Shared → Prop} (I : Inv X pins σ H s) (hN : X.N.Nodup) (hi : X.N[i]? = some n) (hk : X.env.kindOf n = some .local)
    (h : ∀ s', Inv X pins (σ.set i none) H s' → Q () s') : wpAny M A (do bindName X.env n .none; unbindBehindTheSuite X.env n pos) Q E s := by
  obtain ⟨m, hn, hl⟩ := id I.loc
  obtain ⟨oL, _, _, hoL, _⟩ := id hn
  have lt0 : ∀ {b : Addr} {o : Obj}, X.s₀.heap.get? b = some o → b ≠ X.env.locals := fun e => Nat.ne_of_lt (Nat.lt_of_lt_of_le (Heap.lt_size e) I.ok.above)
  refine wpAny_nameGoes_keeps hk hn (by rw [I.ok.kind]; rfl) fun h' v hn' hs => h _ ?_
  refine ⟨I.ok, I.os, I.bare, ⟨fun b o e nb hb hx => (hs.2 b (lt0 e)).trans (I.base.keep b o e nb hb hx), fun b o e nb hb hx => ?_, I.base.free, fun b o e hx => ?_, I.base.tups, I.base.frzs, I.base.tbls⟩, ⟨_, hn', fun j y u e1 e2 e3 => ?_⟩, fun y c e => ?_, I.free, I.freeC, fun p hp => ?_, fun b ob e => ?_, by rw [List.length_set]; exact I.len⟩
  · obtain ⟨sl, z⟩ := I.base.slot b o e nb hb hx; exact ⟨sl, (hs.2 b (lt0 e)).trans z⟩
  · obtain ⟨o', z⟩ := I.base.there b o e hx; exact ⟨o', (hs.2 b (lt0 e)).trans z⟩
  · by_cases hj : j = i
    · subst hj
      rw [List.getElem?_set] at e2
      split at e2
      · split at e2 <;> cases e2
      · rename_i z; exact absurd rfl z
    · rw [List.getElem?_set_ne (Ne.symm hj)] at e2
      obtain ⟨u', r', q⟩ := hl j y u e1 e2 e3
      have hy : y ≠ n := fun z => hj (nodup_ix hN e1 (z ▸ hi))
      refine ⟨u', r', ?_⟩
      rcases q with ⟨k, e⟩ | ⟨k, c, e, z⟩
      · exact .inl ⟨k, by show (if y = n then v else m y) = _; rw [if_neg hy]; exact e⟩
      · exact .inr ⟨k, c, e, z.sameBut hs (I.cne y c e)⟩
  · obtain ⟨w', z⟩ := I.cell y c e; exact ⟨w', z.sameBut hs (I.cne y c e)⟩
  · obtain ⟨e, nn, ne, nf, d⟩ := I.pin p hp; exact ⟨(hs.2 p.1 ne).trans e, nn, ne, nf, d⟩
  · refine (I.hok b ob e).stay (fun c w' hc q => (hs.2 c ?_).trans q) (fun _ q => q) fun _ _ q => q
    intro z; subst z
    rcases hc with z | z
    · rw [← z, I.free] at e; cases e
    · rw [I.free] at z; cases z
end
def Ends.gone (D : Ends) (i : Nat) : Ends := { nx := fun σ H => D.nx (σ.set i none) H, rt := D.rt, bk := fun σ H => D.bk (σ.set i none) H, ct := fun σ H => D.ct (σ.set i none) H }
def tTryAs (K : PySem.W.Frag) (n i : Nat) (C' : Addr) (tE : XK → TS) (th : TS) : TS := fun D σ H => tE (fun C _ H' => PySem.W.exmOne K C (.ref C') = some true ∧ ∀ a, H' a = none → th (D.gone i) ((List.replicate n none).set i (some (.ref a))) (upd H' a (.ext (excAt a C)))) D σ H
theorem SP.gone {X : Cx} {pins : List (Addr × Obj)} {a : Addr} {D : Ends} {f : Flow} {i : Nat} {n : Str} {pos : Pos} {s : Shared} {M : Model} {A : Around} {E : Value → Shared → Prop} (ok : X.Ok) (hN : X.N.Nodup) (hi : X.N[i]? = some n) (hk : X.env.kindOf n = some .local)
    (h : SP (X.hand a) pins (D.gone i) f s) : wpAny M A (do bindName X.env n .none; unbindBehindTheSuite X.env n pos) (fun _ s5 => SP X pins D f s5) E s := by
  cases f with
  | next => obtain ⟨σ', H', I, q⟩ := h; exact (I.ofHand ok).gone hN hi hk fun s' I' => ⟨_, H', I', q⟩
  | brk => obtain ⟨σ', H', I, q⟩ := h; exact (I.ofHand ok).gone hN hi hk fun s' I' => ⟨_, H', I', q⟩
  | cont => obtain ⟨σ', H', I, q⟩ := h; exact (I.ofHand ok).gone hN hi hk fun s' I' => ⟨_, H', I', q⟩
  | ret u => obtain ⟨v, σ', H', I, r, q⟩ := h; exact (I.ofHand ok).gone hN hi hk fun s' I' => ⟨v, _, H', I', r, q⟩
section
variable {X : Cx} {body suite : List Stmt} {b₀ : Stmt} {th : TS} {tE : XK → TS} {x n : Str} {C' : Addr} {np pos hpos : Pos} {i : Nat}
theorem ps_tryAs (hst : X.stack = X.env :: X.outer) (hf : X.env.frame = some X.env.locals) (hex : X.ex = []) (hg : Gl X x) (hm : X.mg x = some (.ref C')) (hN : X.N.Nodup) (hi : X.N[i]? = some n) (hk : X.env.kindOf n = some .local)
    (hb : ∀ pins E, PSs (X.tryE pins E) body (tE E)) (hh : ∀ a, PSs (X.hand a) (b₀ :: suite) th)
    (hd : (x == ("__debug__" : Str)) = false := by decide) : PS X (.Try body [.ExceptHandler (some (.Name x np)) (some n) (b₀ :: suite) hpos] [] [] pos) (tTryAs X.K X.N.length i C' tE th) := by
  intro pins s σ H D I h
  refine wpAny_Try_except (wpAny_mono (hb pins _ [] s σ H D I.toTry h) (fun f s1 q => ?_) fun e s1 q => ?_)
  · have q' := q.ofTry
    cases f with
    | next => exact wpAny_execs_nil q'
    | brk => exact q'
    | cont => exact q'
    | ret u => exact q'
  · obtain ⟨σ1, H1, s2, a, C, H', rfl, I1, F, hx, hth⟩ := q
    obtain ⟨B, a0, fl, hb', gr⟩ := F.gr
    have fl' := fl
    rw [hst] at fl'
    have hfr := I.ok.frames
    rw [hst] at hfr
    refine wpAny_looks_onW hfr hf fl' fun h4 held4 sm4 => ?_
    refine wpAny_landsW (s := { s1 with heap := h4 }) held4 fun h5 fl5 sm5 => ?_
    have I5 := I1.fly F.os F.bare F.un fl5.1 (sm4.trans sm5) hb' gr
    refine wpAny_handleBy_cons (codeAny_handlers_test (ld_glob (X := X.hand a) (I5.toHand) hg hm ?_ hd)) (by intro z; cases z)
    obtain ⟨ob, hob, hoc⟩ := fl5.there
    have ty : PySem.W.Looks (model X.prog X.w) h5 (typeOf (.ref a)) C := by
      subst hoc
      exact (PySem.W.Looks.ld hob).andThen .now
    refine (PySem.W.exm_one (M := model X.prog X.w) (h := h5) I5.kIn ty hx).here ?_
    refine codeAny_handlers_suite_as (lands_againW (s := { s1 with heap := h5 }) fl5 fun h6 fl6 sm6 => ?_)
    have I6 := I1.fly F.os F.bare F.un fl6.1 ((sm4.trans sm5).trans sm6) hb' gr
    obtain ⟨o6, ho6, hc6⟩ := fl6.there
    have hn : H' a = none := hb'.none fl.2.1
    have ne : ∀ {b : Addr} {o : Obj}, s2.heap.get? b = some o → b ≠ a := fun e z => by rw [z, F.new] at e; cases e
    have I7 := I6.forget.track (a := a) (φ := excAt a C) (I1.unborn hex F.new) ho6 hn (by obtain ⟨m, ⟨oL, _, _, hoL, _⟩, _⟩ := I1.loc; exact (ne hoL).symm) (fun y c e => by obtain ⟨v, oc, hoc', _⟩ := I1.cell y c e; exact ne hoc')
      (fun p hp => ne (I1.pin p hp).1) ⟨o6, ho6, hc6⟩ (fun h1 h2 ⟨o, e, c⟩ k => ⟨o, k o e, c⟩)
    refine store_ok I7 hN hi (.inl hk) (show RelV (.ref a) (.ref a) from rfl) (fun s8 I8 => ?_) (.inr hk)
    exact wpAny_mono (hh a pins s8 _ _ (D.gone i) I8.toHand (hth a hn)) (fun f s9 z => z.gone I.ok hN hi hk) fun _ _ z => False.elim z
end
end L2
namespace RD
open PySem PyProof.Rows
section
variable {prog : Program} {w : World} {A : Around} {E : Value → Shared → Prop} {s : Shared} {d it v : Addr} {es : Array DictEntry} {ep i : Nat} {ok ov : Value}
theorem iview {Q : Value → Shared → Prop} (hd : (d == sysModules) = false) (x : Raw s.heap d es ep) (hQ : Q (.ref s.heap.objs.size) { s with heap := s.heap.push { cls := .type "dict_items", data := .fields #[.ref d] } }) :
    wpAny (model prog w) A (call (.builtin "dict.items") [.ref d]) Q E s := by
  have hT := x.type
  refine call_meetsIn (S := fun _ R s => (∃ es ep, Raw s.heap d es ep) ∧ R (.ok (.ret (.ref s.heap.objs.size))) { s with heap := s.heap.push { cls := .type "dict_items", data := .fields #[.ref d] } }) PySem.F.slot_dict_items hT PySem.F.entry_dict_items (PySem.F.args_dict_items_1 _) ?_ ⟨⟨_, _, x⟩, hQ⟩
  refine .of_wp fun A R s ⟨⟨es, ep, hm⟩, h⟩ => ?_
  unfold Builtin.«dict.items»; refine wpAny_bind ?_
  unfold Builtin.Dict.noArgs; refine wpAny_bind (wpAny_notOrdered_dict hm.type ?_)
  show wpAny _ _ (pure d) _ _ s; refine wpAny_pure ?_
  show wpAny _ _ (Builtin.Dict.showsAll d >>= _) _ _ s; unfold Builtin.Dict.showsAll
  rw [if_neg (by rw [hd]; exact Bool.false_ne_true)]; refine wpAny_bind (wpAny_pure (wpAny_bind (wpAny_newObj_type (wpAny_pure ⟨_, rfl, h⟩))))
theorem iiter {Q : Value → Shared → Prop} (hv : s.heap.IsItemsView v d) (x : Raw s.heap d es ep)
    (hQ : Q (.ref s.heap.objs.size) { s with heap := s.heap.push { cls := .type "dict_itemiterator", data := .fields #[.none, .bool false, .ref d, .int 0 0, .int es.size 0, .int ep 0, .none, .none] } }) :
    wpAny (model prog w) A (pyIter (.ref v)) Q E s := by
  obtain ⟨o', hov, hcv, hdv⟩ := id hv; obtain ⟨o, ho, hc, hdat⟩ := x
  refine wpAny_pyIter_slot hv.typeIs F.slot_dict_items_iter (wpAny_call_entry F.slot_dict_items_iter hv.typeIs F.entry_dict_items_iter ?_ (F.args_dict_items_iter_1 _))
  unfold Builtin.«dict_items.__iter__»; refine wpAny_bind (wpAny_pure (wpAny_bind ?_))
  unfold Builtin.Dict_items.dictOf; refine wpAny_bind (wpAny_field hov hdv (x := .ref d) rfl (wpAny_pure (wpAny_bind ?_)))
  unfold Builtin.Dict_items.newIterator; refine wpAny_bind (wpAny_dictEntries ho hdat (wpAny_bind (wpAny_dictEpoch ho hdat ?_)))
  have hown : Builtin.Dict_items.ownsTuple "dict_itemiterator" = true := by decide
  simp only [hown, if_true]; refine wpAny_newObj_type (wpAny_pure ⟨_, rfl, "dict_itemiterator", _, ⟨_, Heap.get?_push_size _ rfl, rfl⟩, F.slot_dict_itemiterator_next.lookup, ?_⟩) (by simp only [sizeOk, Builtin.Dict_items.ownedTupleFields, List.size_toArray, List.length_append, List.length_cons, List.length_nil, sizeLine_eq]; omega)
  simpa [rawInt, Builtin.Dict_items.ownedTupleFields] using hQ
theorem inext {Q : Option Value → Shared → Prop} (hit : IsItemIter s.heap it d i es.size ep ok ov) (x : Raw s.heap d es ep) (hi : i < es.size)
    (hQ : ∀ h', IsItemIterOut h' it d (i + 1) es.size ep es[i].key es[i].val s.heap.objs.size → h'.get? s.heap.objs.size = some { cls := .type "tuple", data := .seq #[es[i].key, es[i].val] } → h'.objs.size = s.heap.objs.size + 1 →
      (∀ b o, b ≠ it → s.heap.get? b = some o → h'.get? b = some o) → Q (some (.ref s.heap.objs.size)) { s with heap := h' }) : wpAny (model prog w) A (pyNext (.ref it)) Q E s := by
  obtain ⟨hp, g, dr, tk, os⟩ := s; obtain ⟨od, hod, hcd, hdd⟩ := x
  have hT : Shared.TypeIs ⟨hp, g, dr, tk, os⟩ (.ref it) "dict_itemiterator" := ⟨_, hit, rfl⟩
  unfold pyNext; refine wpAny_bind (wpAny_attempt (wpAny_callSpecial?_slot (name := Str.ofString "__next__") hT F.slot_dict_itemiterator_next (wpAny_call_entry F.slot_dict_itemiterator_next hT F.entry_dict_itemiterator_next ?_ (F.args_dict_itemiterator_next_1 _))))
  refine wpAny_bind (wpAny_pure (wpAny_bind (wpAny_bind ?_)))
  refine wpAny_bind (wpAny_typeNameOfWhole_itemiter hT (wpAny_pure ?_)); refine wpAny_bind (wpAny_fieldsOf hit rfl ?_)
  have hown : Builtin.Dict_items.ownsTuple "dict_itemiterator" = true := by decide
  simp only [hown, if_true]; show wpAny _ _ (if (Value.ref d == Value.none) = true then _ else _) _ _ _
  rw [if_neg (show ¬ ((Value.ref d == Value.none) = true) from Bool.false_ne_true)]; refine wpAny_bind (wpAny_pure (wpAny_bind (wpAny_dictEntries hod hdd ?_)))
  rw [if_neg (by simp)]; refine wpAny_bind (wpAny_pure (wpAny_bind (wpAny_dictEpoch hod hdd ?_)))
  rw [if_neg (by simp)]; refine wpAny_pure ?_
  simp only [show ¬ ((i : Int) < 0) from by omega, if_false, Int.toNat_natCast, Array.getElem?_eq_getElem hi]; refine wpAny_bind ?_
  refine wpAny_bind (wpAny_typeNameOfWhole_itemiter hT (wpAny_pure ?_)); refine wpAny_bind (wpAny_isOneOf_itemiter hT ?_)
  show wpAny _ _ (setField (.ref it) 3 (rawInt ((i : Int) + 1)) >>= _) _ _ ⟨hp, g, dr, tk, os⟩; refine wpAny_bind (wpAny_setField_rec hit (by simp) fun h₁ he₁ hs₁ => ?_)
  replace hs₁ : Heap.SameBut it hp h₁ := hs₁
  replace he₁ : IsItemIter h₁ it d (i + 1) es.size ep ok ov := by have e : ((i + 1 : Nat) : Int) = (i : Int) + 1 := by omega
                                                                  unfold IsItemIter; rw [e]; simpa [rawInt] using he₁
  have hT₁ : Shared.TypeIs ⟨h₁, g, dr, tk, os⟩ (.ref it) "dict_itemiterator" := ⟨_, he₁, rfl⟩
  refine wpAny_bind (wpAny_holding ?_); refine wpAny_bind (wpAny_isOneOf_itemiter hT₁ ?_); refine wpAny_bind (wpAny_isOneOf_itemiter hT₁ ?_)
  show wpAny _ _ (Builtin.Dict_items.pairFromOwner (.ref it) 6 es[i].key es[i].val) _ _ ⟨h₁, g, dr, tk, os⟩; unfold Builtin.Dict_items.pairFromOwner
  refine wpAny_bind (wpAny_newTuple ?_)
  have he₂ : IsItemIter (h₁.push { cls := .type "tuple", data := .seq #[es[i].key, es[i].val] }) it d (i + 1) es.size ep ok ov := Heap.get?_push_of_some _ he₁
  generalize hh₂ : h₁.push { cls := .type "tuple", data := .seq #[es[i].key, es[i].val] } = h₂ at he₂
  have hz₁ : h₁.objs.size = hp.objs.size := hs₁.1; have hil : it < hp.objs.size := Heap.lt_size hit
  have ht₂ : h₂.get? hp.objs.size = some { cls := .type "tuple", data := .seq #[es[i].key, es[i].val] } := by rw [← hh₂, ← hz₁]; exact Heap.get?_push_size _ rfl
  have hz₂ : h₂.objs.size = hp.objs.size + 1 := by rw [← hh₂, Heap.size_push, hz₁]
  have hk₂ : ∀ b o, b ≠ it → hp.get? b = some o → h₂.get? b = some o := fun b o hb e => by rw [← hh₂]; exact Heap.get?_push_of_some _ (hs₁.extBut b o hb e)
  show wpAny _ _ (Builtin.Dict_items.ownedTupleIsFree (.ref it) >>= _) _ _ ⟨h₂, g, dr, tk, os⟩; rw [hz₁]
  clear hh₂ he₁ hs₁ hT₁ hz₁ h₁; refine wpAny_bind ?_
  unfold Builtin.Dict_items.ownedTupleIsFree; refine wpAny_bind (wpAny_field he₂ rfl (x := .none) rfl (wpAny_pure ?_))
  simp only [if_true]; refine wpAny_bind (wpAny_field he₂ rfl (x := ok) rfl (wpAny_bind (wpAny_field he₂ rfl (x := ov) rfl ?_)))
  refine wpAny_bind (wpAny_setField_rec he₂ (by simp) fun h₃ he₃ hs₃ => ?_); replace hs₃ : Heap.SameBut it h₂ h₃ := hs₃
  replace he₃ : IsItemIter h₃ it d (i + 1) es.size ep es[i].key ov := he₃; refine wpAny_bind (wpAny_setField_rec he₃ (by simp) fun h₄ he₄ hs₄ => ?_)
  replace hs₄ : Heap.SameBut it h₃ h₄ := hs₄; replace he₄ : IsItemIter h₄ it d (i + 1) es.size ep es[i].key es[i].val := he₄
  refine wpAny_bind (wpAny_setField_rec he₄ (by simp) fun h₅ he₅ hs₅ => ?_); replace hs₅ : Heap.SameBut it h₄ h₅ := hs₅
  replace he₅ : IsItemIterOut h₅ it d (i + 1) es.size ep es[i].key es[i].val hp.objs.size := he₅; refine wpAny_bind (wpAny_setField_rec he₅ (by simp) fun h₆ he₆ hs₆ => ?_)
  replace hs₆ : Heap.SameBut it h₅ h₆ := hs₆; replace he₆ : IsItemIterOut h₆ it d (i + 1) es.size ep es[i].key es[i].val hp.objs.size := he₆
  refine wpAny_bind (wpAny_letGo (wpAny_pure (wpAny_pure ⟨_, rfl, wpAny_pure (hQ h₆ he₆ ?_ ?_ ?_)⟩)))
  · exact hs₆.extBut _ _ (Nat.ne_of_gt hil) (hs₅.extBut _ _ (Nat.ne_of_gt hil) (hs₄.extBut _ _ (Nat.ne_of_gt hil) (hs₃.extBut _ _ (Nat.ne_of_gt hil) ht₂)))
  · show h₆.objs.size = hp.objs.size + 1; rw [hs₆.1, hs₅.1, hs₄.1, hs₃.1, hz₂]
  · exact fun b o hb e => hs₆.extBut b o hb (hs₅.extBut b o hb (hs₄.extBut b o hb (hs₃.extBut b o hb (hk₂ b o hb e))))
theorem ifin {Q : Option Value → Shared → Prop} (hh : A.handled = none) (hit : IsItemIter s.heap it d i es.size ep ok ov) (x : Raw s.heap d es ep) (hi : es.size ≤ i) (hQ : ∀ h', Heap.ExtBut it s.heap h' → Q none { s with heap := h' }) : wpAny (model prog w) A (pyNext (.ref it)) Q E s := by
  obtain ⟨od, hod, hcd, hdd⟩ := x; have hT : s.TypeIs (.ref it) "dict_itemiterator" := ⟨_, hit, rfl⟩
  unfold pyNext; refine wpAny_bind (wpAny_attempt (wpAny_callSpecial?_slot (name := Str.ofString "__next__") hT F.slot_dict_itemiterator_next (wpAny_call_entry F.slot_dict_itemiterator_next hT F.entry_dict_itemiterator_next ?_ (F.args_dict_itemiterator_next_1 _))))
  refine wpAny_bind (wpAny_pure (wpAny_bind (wpAny_bind ?_)))
  refine wpAny_bind (wpAny_typeNameOfWhole_itemiter hT (wpAny_pure ?_)); refine wpAny_bind (wpAny_fieldsOf hit rfl ?_)
  have hown : Builtin.Dict_items.ownsTuple "dict_itemiterator" = true := by decide
  simp only [hown, if_true]; show wpAny _ _ (if (Value.ref d == Value.none) = true then _ else _) _ _ s
  rw [if_neg (show ¬ ((Value.ref d == Value.none) = true) from Bool.false_ne_true)]; refine wpAny_bind (wpAny_pure (wpAny_bind (wpAny_dictEntries hod hdd ?_)))
  rw [if_neg (by simp)]; refine wpAny_bind (wpAny_pure (wpAny_bind (wpAny_dictEpoch hod hdd ?_)))
  rw [if_neg (by simp)]; refine wpAny_pure ?_
  simp only [show ¬ ((i : Int) < 0) from by omega, if_false, Int.toNat_natCast, Array.getElem?_eq_none hi]; refine wpAny_bind ?_
  refine wpAny_bind (wpAny_typeNameOfWhole_itemiter hT (wpAny_pure ?_)); show wpAny _ _ (setField (.ref it) 2 .none >>= _) _ _ s
  refine wpAny_bind (wpAny_setField hit rfl (by simp) ?_); show wpAny _ _ (newExc (.type "StopIteration") [] >>= _) _ _ _
  refine wpAny_bind ?_; simp only [newExc, newTuple]
  refine wpAny_bind (wpAny_newObj_type ?_ (by size_fits)); refine wpAny_bind (m := firstArgMember _ _) (wpAny_of_eq (a := Value.none) (by first | rfl | (simp only [firstArgMember]; rfl)) ?_)
  refine wpAny_newObj_type ?_ (by size_fits); simp only [raiseNew]
  refine wpAny_bind (wpAny_handled ?_); rw [show A.in1.handled = none from hh]
  refine wpAny_bind (wpAny_pure (wpAny_throw ?_)); refine wpAny_bind (wpAny_isInstance (T := "StopIteration") (b := true) ⟨_, Heap.get?_push_size _ rfl, rfl⟩ isSubtype_stop ?_)
  exact wpAny_pure (hQ _ (((Heap.SameBut.update ..).extBut.push _).push _))
end
end RD
namespace L2
open PySem PySem.Spec PyProof.Rows
section
variable {X : Cx} {pins : List (Addr × Obj)} {σ : St} {H : Hp} {s : Shared} {d : Addr} {o : Obj} {u : HO} {kvs : List (List Key × V)}
theorem Inv.thaw (I : Inv X pins σ H s) (e : H d = some (.frz o u)) (h0 : ∀ o' u', X.H₀ d ≠ some (.frz o' u')) : Inv X pins σ (upd H d u) s := by
  have ne : ∀ {b : Addr}, H b = none → b ≠ d := fun z q => by rw [q, e] at z; cases z
  refine ⟨I.ok, I.os, I.bare, ⟨I.base.keep, I.base.slot, fun b ob q n hx => ?_, I.base.there, fun b xs q => ?_, fun b ob v q => ?_, fun b ps q => ?_⟩, I.loc, I.cell, by rw [upd_ne (ne I.free)]; exact I.free, fun x c q => by rw [upd_ne (ne (I.freeC x c q))]; exact I.freeC x c q, fun p hp => ?_, fun b ob q => ?_, I.len⟩
  · have z := I.base.free b ob q n hx
    rw [upd_ne (ne z)]; exact z
  · have z := I.base.tups b xs q
    rw [upd_ne (ne_of z e (by intro y; cases y))]; exact z
  · have z := I.base.frzs b ob v q
    rw [upd_ne (fun y => h0 ob v (by rw [← y]; exact q))]; exact z
  · obtain ⟨m, z⟩ := I.base.tbls b ps q
    exact ⟨m, by rw [upd_ne (ne_of z e (by intro y; cases y))]; exact z⟩
  · obtain ⟨q, n, r⟩ := I.pin p hp
    exact ⟨q, by rw [upd_ne (ne n)]; exact n, r⟩
  · have ow : ∀ {c a : Addr}, H c = some (.own a) → upd H d u c = some (.own a) := fun z => by rw [upd_ne (ne_of z e (by intro y; cases y))]; exact z
    have tp : ∀ {c : Addr} {xs : List V}, H c = some (.tup xs) → upd H d u c = some (.tup xs) := fun z => by rw [upd_ne (ne_of z e (by intro y; cases y))]; exact z
    by_cases hb : b = d
    · subst hb
      rw [upd_same] at q; cases q
      obtain ⟨_, z⟩ := (show ObjOk X.prog X.w H s.heap b (.frz o u) from I.hok b _ e)
      exact z.stay (fun _ _ _ y => y) (fun _ y => ow y) fun _ _ y => tp y
    · rw [upd_ne hb] at q
      exact (I.hok b ob q).stay (fun _ _ _ y => y) (fun _ y => ow y) fun _ _ y => tp y
def notFrz : HO → Prop
  | .frz _ _ => False
  | _ => True
def tThaw (t : TE) : TE := fun σ H Q => ∃ d u, H d = some u ∧ notFrz u ∧ t σ H fun v H' => ∃ o, H' d = some (.frz o u) ∧ Q v (upd H' d u)
theorem pe_thaw {e : Expr} {t : TE} (h : PE X e t) : PE X e (tThaw t) := by
  intro pins s σ H Q I hq
  obtain ⟨d, u, hd, hn, q⟩ := hq
  refine thn (h pins s σ H _ I q) fun v s1 ⟨x, H1, I1, r, o, e1, q1⟩ => ⟨x, _, I1.thaw e1 fun o' u' z => ?_, r, q1⟩
  have := I.base.frzs d o' u' z
  rw [hd] at this; cases this
  exact hn
theorem frz_raw {P : Program} {w : World} {H : Hp} {h : Heap} {es : Array DictEntry} {ep : Nat} (ok : HOk P w H h) (e : H d = some (.frz o (.dT kvs))) (ho : o.data = .dict es ep) :
    ∃ xs, KT H kvs xs ∧ RD.Raw h d es ep ∧ es.toList = xs.map (entryOfKey (tupleKind (mixKind P w))) ∧ es.size = kvs.length ∧ (d == sysModules) = false := by
  obtain ⟨h1, _, hd, xs, rel, o', es', ep', h2, h3, h4, h5, _⟩ := (show ObjOk P w H h d (.frz o (.dT kvs)) from ok d _ e)
  rw [h1] at h2; cases h2
  rw [ho] at h4; cases h4
  exact ⟨xs, rel, ⟨o, h1, h3, ho⟩, h5, by have := congrArg List.length h5; rw [List.length_map, ← Paired.length rel] at this; simpa using this, hd⟩
theorem KT.at {xs : List (List Key × Addr × Value)} (r : KT H kvs xs) {i : Nat} (hi : i < kvs.length) : ∃ k v x, kvs[i]? = some (k, v) ∧ xs[i]? = some x ∧ H x.2.1 = some (.tup (k.map kV)) ∧ RelV v x.2.2 := by
  induction r generalizing i with
  | nil => exact absurd hi (by simp)
  | @cons p q ps qs h t ih =>
    cases i with
    | zero => exact ⟨p.1, p.2, q, rfl, rfl, h.2.1, h.2.2⟩
    | succ i =>
      obtain ⟨k, v, x, h1, h2, h3⟩ := ih (i := i) (by simpa using hi)
      exact ⟨k, v, x, by simpa using h1, by simpa using h2, h3⟩
def Itdi (d : Addr) (o : Obj) : It := ⟨fun i H => ∃ kvs, H d = some (.frz o (.dT kvs)) ∧ i < kvs.length, fun i H x H' => ∀ kvs, H d = some (.frz o (.dT kvs)) → ∃ k v b t, kvs[i]? = some (k, v) ∧ x = .ref t ∧ H t = none ∧ H b = some (.tup (k.map kV)) ∧ H' = upd H t (.tup [.ref b, v]), fun i H => ∃ kvs, H d = some (.frz o (.dT kvs)) ∧ kvs.length ≤ i⟩
theorem turn_ditems {P : Program} {w : World} {K : PySem.W.Frag} {elts : List Expr} {x1} {tpos : Pos} {es : Array DictEntry} {ep : Nat} (it : Addr) (ho : o.data = .dict es ep) : Turn P w K (.Tuple elts x1 tpos) (Itdi d o) [it] it (fun i h => ∃ ok ov, IsItemIter h it d i es.size ep ok ov) where
  mem := by simp
  obj := fun i h ⟨ok, ov, st⟩ b hb => by
    have e : b = it := by simpa using hb
    subst e
    exact ⟨_, st, fun v z => by
      have z' : Data.fields _ = Data.cell v := z
      cases z'⟩
  keep := fun i h h' ⟨ok, ov, st⟩ k => ⟨ok, ov, k it (by simp) _ st⟩
  item := by
    intro X hP hw hK hc i pins s σ H E I hf st hg
    subst hP hw hK
    obtain ⟨ok, ov, st⟩ := st
    obtain ⟨kvs, hk, hi⟩ := hg
    obtain ⟨xs, rel, raw, he, hz, hd⟩ := frz_raw I.hok hk ho
    obtain ⟨k, v, x, h1, h2, h3, h4⟩ := rel.at hi
    obtain ⟨f0, f1, f2, f3, f4, f5⟩ := hf it (by simp)
    have hie : i < es.size := by omega
    have ee : es[i].key = .ref x.2.1 ∧ es[i].val = x.2.2 := by
      have z := entry_at he i
      rw [h2, Array.getElem?_eq_getElem hie] at z
      have z' := Option.some.inj z
      rw [z']; exact ⟨rfl, rfl⟩
    refine RD.inext st raw hie fun h' st' ht' hsz' kp' => ⟨_, rfl, ?_⟩
    rw [ee.1, ee.2] at st' ht'
    refine wpAny_letOwnedTupleGo_items (s := { s with heap := h' }) st' fun h2' st2 sb => ?_
    have ilt : it < s.heap.objs.size := Heap.lt_size st
    have kp : ∀ b ob, b ≠ it → s.heap.get? b = some ob → h2'.get? b = some ob := fun b ob hb e => sb.extBut b ob hb (kp' b ob hb e)
    have htn : h2'.get? s.heap.objs.size = some { cls := .type "tuple", data := .seq #[.ref x.2.1, x.2.2] } := sb.extBut _ _ (Nat.ne_of_gt ilt) ht'
    have I1 : Inv X pins σ H { s with heap := s.heap } := I
    have fr : H s.heap.objs.size = none := I.hok.fresh (Nat.le_refl _)
    -- the iterator has turned, then the tuple is laid
    have I2 : Inv X pins σ (upd H s.heap.objs.size (.tup [.ref x.2.1, v])) { s with heap := h2' } := by
      have nit : ∀ {b : Addr} {ob : HO}, H b = some ob → b ≠ it := fun e z => by rw [z, f0] at e; cases e
      refine I.step (g' := s.gens) (d' := s.drawn) (t' := s.toks) (ch := [it]) (fun b hb => ?_) (fun b ob _ _ hc' e _ => kp b ob (fun z => hc' (by simp [z])) e) (fun b ob _ _ hc' e _ => ⟨ob.slots, kp b ob (fun z => hc' (by simp [z])) e⟩)
        (fun b ob _ e n => by rw [upd_ne (Nat.ne_of_lt (Heap.lt_size e))]; exact n) (fun b ob hc' e => ⟨ob, kp b ob (fun z => hc' (by simp [z])) e⟩)
        (fun b ys e => by rw [upd_ne (ne_of_none e fr)]; exact e) (fun b ob w' e => by rw [upd_ne (ne_of_none e fr)]; exact e) (fun b ps e => ⟨#[], by rw [upd_ne (ne_of_none e fr), e]; simp⟩) (fun m hm => ?_) (fun b ob e => ?_) I.bare
      · have e : b = it := by simpa using hb
        subst e
        exact ⟨f3, f1, f4, f5⟩
      · obtain ⟨ob, es', ep', hob, r⟩ := hm
        exact ⟨ob, es', ep', kp _ _ (Ne.symm f1) hob, r⟩
      · by_cases hb : b = s.heap.objs.size
        · subst hb
          rw [upd_same] at e; cases e
          exact ⟨by show 2 ≤ sizeLine; decide, [.ref x.2.1, x.2.2], .cons rfl (.cons h4 .nil), ⟨_, htn, rfl, _, rfl⟩⟩
        · rw [upd_ne hb] at e
          refine (I.hok b ob e).stay (fun c u hc' q => kp c u ?_ q) (fun c q => by rw [upd_ne (ne_of_none q fr)]; exact q) fun c ys q => by rw [upd_ne (ne_of_none q fr)]; exact q
          rcases hc' with z | z
          · rw [z]; exact nit e
          · exact nit z
    refine ⟨.ref s.heap.objs.size, _, I2, rfl, fun kvs' hk' => ?_, ⟨_, _, st2⟩, fun b hb => ?_⟩
    · rw [hk] at hk'; cases hk'
      exact ⟨k, v, x.2.1, _, h1, rfl, fr, h3, rfl⟩
    · have e : b = it := by simpa using hb
      subst e
      rw [upd_ne (Nat.ne_of_lt ilt)]; exact f0
  done := by
    intro X hP hw hK hc i pins s σ H E I hf st hg
    subst hP hw hK
    obtain ⟨ok, ov, st⟩ := st
    obtain ⟨kvs, hk, hi⟩ := hg
    obtain ⟨xs, rel, raw, he, hz, hd⟩ := frz_raw I.hok hk ho
    obtain ⟨f0, f1, f2, f3, f4, f5⟩ := hf it (by simp)
    exact RD.ifin (I.ok.hd hc) st raw (by omega) fun h' eb => ⟨rfl, I.turned (t' := s.toks) (fun b ob hb e => eb b ob hb e) f0 f1 f3 f4 f5⟩
  self := fun _ _ _ _ _ ⟨_, _, st⟩ h => PySem.W.kcp_self st h
end
def isView (v d : Addr) : Heap → Prop := fun h => h.IsItemsView v d
def rItems : V → List V → Hp → VK → Prop := fun x xs H Q => ∃ d kvs, x = .ref d ∧ xs = [] ∧ H d = some (.dT kvs) ∧ ∀ v, H v = none → Q (.ref v) (upd H v (.ext (isView v d)))
def iDI (te : TE) : TI := fun σ H R => te σ H fun x H1 => ∃ v d kvs, x = .ref v ∧ H1 v = some (.ext (isView v d)) ∧ H1 d = some (.dT kvs) ∧ ∀ o, R (Itdi d o) (upd H1 d (.frz o (.dT kvs)))
section
variable {X : Cx} {pins : List (Addr × Obj)} {σ : St} {H : Hp} {s : Shared} {d : Addr} {kvs : List (List Key × V)}
theorem Inv.freeze (I : Inv X pins σ H s) (e : H d = some (.dT kvs)) : ∃ o es ep, o.data = .dict es ep ∧ RD.Raw s.heap d es ep ∧ es.size = kvs.length ∧ (d == sysModules) = false ∧ Inv X pins σ (upd H d (.frz o (.dT kvs))) s := by
  obtain ⟨z, hd, xs, rel, o, es, ep, h1, h2, h3, h4, h5⟩ := (show ObjOk X.prog X.w H s.heap d (.dT kvs) from I.hok d _ e)
  have hsz : es.size = kvs.length := by have := congrArg List.length h4; rw [List.length_map, ← Paired.length rel] at this; simpa using this
  refine ⟨o, es, ep, h3, ⟨o, h1, h2, h3⟩, hsz, hd, I.write (t' := s.toks) (x := d) (e := d) (h' := s.heap) (by rw [e]; exact True.intro) (.inl rfl) (fun _ _ _ q => q) ⟨o, h1⟩ ⟨h1, z, hd, xs, ?_, o, es, ep, h1, h2, h3, h4, h5⟩⟩
  exact Paired.mapP rel fun p q r => ⟨r.1, by rw [upd_ne (ne_of r.2.1 e (by intro y; cases y))]; exact r.2.1, r.2.2⟩
theorem mt_items : MtM X "dict.items" rItems := by
  intro pins s σ H x xs v us Q I r rv h
  obtain ⟨d, kvs, rfl, rfl, hk, q⟩ := h
  cases r
  cases rv
  obtain ⟨o, es, ep, _, raw, _, hd, _⟩ := I.freeze hk
  refine RD.iview hd raw ⟨.ref s.heap.objs.size, _, I.laid (t' := s.toks) (fun b u e => Heap.get?_push_of_some _ e) (Nat.le_refl _) (o := .ext (isView s.heap.objs.size d)) ?_, rfl, q _ (I.hok.fresh (Nat.le_refl _))⟩
  exact ⟨⟨_, Heap.get?_push_size _ rfl, rfl, rfl⟩, ⟨_, Heap.get?_push_size _ rfl⟩, fun h1 h2 ⟨o', e', c⟩ k => ⟨o', k o' e', c⟩⟩
theorem pi_ditems {elts : List Expr} {x1} {tpos : Pos} {e : Expr} {te : TE} (he : PE X e te) : PI X (.Tuple elts x1 tpos) e (iDI te) := by
  intro pins s σ H R I h
  refine thn (he pins s σ H _ I h) fun v s1 ⟨x, H1, I1, r1, vw, d, kvs, ex, hv, hk, q⟩ => ?_
  subst ex
  cases r1
  obtain ⟨o, es, ep, ho, raw, hz, hd, I2⟩ := I1.freeze hk
  obtain ⟨view, _⟩ := (show ObjOk X.prog X.w H1 s1.heap vw (.ext (isView vw d)) from I1.hok vw _ hv)
  refine RD.iiter view raw ?_
  refine ⟨s1.heap.objs.size, [s1.heap.objs.size], _, _, _, rfl, I2.kept (t' := s1.toks) fun b ob e => Heap.get?_push_of_some _ e, turn_ditems _ ho, ⟨_, _, Heap.get?_push_size _ rfl⟩, fun b hb => ?_, q o⟩
  have e : b = s1.heap.objs.size := by simpa using hb
  subst e
  exact I2.fpOk (Nat.le_refl _) (I2.hok.fresh (Nat.le_refl _))
end
end L2
namespace L2
open PySem PySem.Spec PyProof.Rows
/-- a comprehension over n turns of J -/
theorem comp_it {J : It} {n : Nat} {g : TG} {tc : TT} {te : TE} {js : List (Option Nat)} {σ : St} {H1 : Hp} {D : Addr} {R : Hp → Prop} (Pv : Nat → List V → Hp → Prop) (h0 : Pv 0 [] (upd H1 D (.lst []))) (hD : ∀ i ys H, Pv i ys H → H D = some (.lst ys))
    (hg : ∀ i ys H, i < n → Pv i ys H → J.go i H) (he : ∀ ys H, Pv n ys H → J.stop n H)
    (hs : ∀ i x ys H H', i < n → Pv i ys H → J.yld i H x H' → g x (subSt js σ) H' fun σ2 H2 => Weak (subSt js σ) σ2 ∧ tc σ2 H2 fun b H3 =>
      if b = true then te σ2 H3 fun v H4 => ∃ zs, H4 D = some (.lst zs) ∧ zs.length < sizeLine ∧ Pv (i + 1) (zs ++ [v]) (upd H4 D (.lst (zs ++ [v]))) else ∃ zs, Pv (i + 1) zs H3)
    (hd : ∀ ys H, Pv n ys H → R H) :
    ∃ W : Nat → Nat → List V → Hp → Prop, (∃ m, W 0 m [] (upd H1 D (.lst []))) ∧
      ∀ i m xs H, W i m xs H → H D = some (.lst xs) ∧ ((J.stop i H ∧ R H) ∨ (J.go i H ∧ ∃ N : List V → Hp → Prop, (∀ ys H', N ys H' → ∃ m', m' < m ∧ W (i + 1) m' ys H') ∧ ∀ x H', J.yld i H x H' → g x (subSt js σ) H' fun σ2 H2 => Weak (subSt js σ) σ2 ∧ tc σ2 H2 fun b H3 =>
        if b = true then te σ2 H3 fun v H4 => ∃ ys, H4 D = some (.lst ys) ∧ ys.length < sizeLine ∧ N (ys ++ [v]) (upd H4 D (.lst (ys ++ [v])))
        else ∃ ys, N ys H3)) := by
  refine ⟨fun i m ys H => m = n - i ∧ i ≤ n ∧ Pv i ys H, ⟨n, by simp, Nat.zero_le _, h0⟩, ?_⟩
  rintro i m ys H ⟨rfl, hi, p⟩
  refine ⟨hD i ys H p, ?_⟩
  by_cases hlt : i < n
  · exact .inr ⟨hg i ys H hlt p, Pv (i + 1), fun zs H' p' => ⟨n - (i + 1), by omega, rfl, hlt, p'⟩, fun x H' y => hs i x ys H H' hlt p y⟩
  · have e : i = n := by omega
    subst e
    exact .inl ⟨he ys H p, hd ys H p⟩
/-- .. over a list that the turns leave as it is -/
theorem comp_lR {K : PySem.W.Frag} {a : Addr} {xs : List V} {g : TG} {tc : TT} {te : TE} {js : List (Option Nat)} {σ : St} {H1 : Hp} {D : Addr} {R : Hp → Prop} (Pv : Nat → List V → Hp → Prop) (h0 : Pv 0 [] (upd H1 D (.lst []))) (hD : ∀ i ys H, Pv i ys H → H D = some (.lst ys))
    (hl : ∀ i ys H, i ≤ xs.length → Pv i ys H → SqL K H a xs)
    (hs : ∀ i x ys H, xs[i]? = some x → Pv i ys H → g x (subSt js σ) H fun σ2 H2 => Weak (subSt js σ) σ2 ∧ tc σ2 H2 fun b H3 =>
      if b = true then te σ2 H3 fun v H4 => ∃ zs, H4 D = some (.lst zs) ∧ zs.length < sizeLine ∧ Pv (i + 1) (zs ++ [v]) (upd H4 D (.lst (zs ++ [v]))) else ∃ zs, Pv (i + 1) zs H3)
    (hd : ∀ ys H, Pv xs.length ys H → R H) :
    ∃ W : Nat → Nat → List V → Hp → Prop, (∃ m, W 0 m [] (upd H1 D (.lst []))) ∧
      ∀ i m xs H, W i m xs H → H D = some (.lst xs) ∧ (((Itl K a).stop i H ∧ R H) ∨ ((Itl K a).go i H ∧ ∃ N : List V → Hp → Prop, (∀ ys H', N ys H' → ∃ m', m' < m ∧ W (i + 1) m' ys H') ∧ ∀ x H', (Itl K a).yld i H x H' → g x (subSt js σ) H' fun σ2 H2 => Weak (subSt js σ) σ2 ∧ tc σ2 H2 fun b H3 =>
        if b = true then te σ2 H3 fun v H4 => ∃ ys, H4 D = some (.lst ys) ∧ ys.length < sizeLine ∧ N (ys ++ [v]) (upd H4 D (.lst (ys ++ [v])))
        else ∃ ys, N ys H3)) :=
  comp_it (J := Itl K a) (n := xs.length) Pv h0 hD (fun i ys H hi p => ⟨xs, xs[i], hl i ys H (Nat.le_of_lt hi) p, by simp [hi]⟩) (fun ys H p => ⟨xs, hl _ ys H (Nat.le_refl _) p, Nat.le_refl _⟩)
    (fun i x ys H H' hi p y => by
      obtain ⟨e, y⟩ := y
      subst e
      exact hs i x ys _ (y xs (hl i ys _ (Nat.le_of_lt hi) p)) p) hd
end L2
namespace L2
open PySem PySem.Spec PyProof.Rows
structure MethIn (K : PySem.W.Frag) (C : Addr) (m qual : Str) (st : Stmt) : Prop where
  ex : ∃ (f : Addr) (oc : Value) (od : Option Addr) (kV doc pm : Value) (an : Option Addr) (cdv ct : Value) (osl : Array (Option Value)),
    PySem.W.findIn K (.ref C) m = some (some (.ref f)) ∧ PySem.W.isFn K (.ref f) = true ∧ K.lookup f = some ⟨oc, od, .func (PySem.W.fnOf m qual (defArgs st) (defBody st) (defScope st) .none kV doc pm an cdv ct), osl⟩ ∧ PySem.W.codeIn K cdv qual = true ∧ PySem.W.keepIn K (.ref f) = true
theorem MethIn.mk' {K : PySem.W.Frag} {C : Addr} {m qual : Str} {st : Stmt} {f : Addr} {oc : Value} {od : Option Addr} {kV doc pm : Value} {an : Option Addr} {cdv ct : Value} {osl : Array (Option Value)} (a : PySem.W.findIn K (.ref C) m = some (some (.ref f))) (i : PySem.W.isFn K (.ref f) = true)
    (l : K.lookup f = some ⟨oc, od, .func (PySem.W.fnOf m qual (defArgs st) (defBody st) (defScope st) .none kV doc pm an cdv ct), osl⟩) (c : PySem.W.codeIn K cdv qual = true) (k : PySem.W.keepIn K (.ref f) = true) : MethIn K C m qual st := ⟨⟨f, oc, od, kV, doc, pm, an, cdv, ct, osl, a, i, l, c, k⟩⟩
structure ClassIn (K : PySem.W.Frag) (x : Str) (C : Addr) : Prop where
  at_ : PySem.W.nsIn K mainGlobals x = some (some (.ref C))
  cl : Cls K C
  makes : PySem.W.makesIn K C = true
  kp : PySem.W.keepIn K (.ref C) = true
def MethB (P : Program) (w : World) (K : PySem.W.Frag) (mg : Str → Option Value) (CX : CXT) (C : Addr) (m : Str) (ps : List Str) (k : Nat) (sp : Sp) : Prop :=
  ∃ (f : Addr) (fd : FuncData), Meth K C m f ∧ (∀ us : List Value, us.length = ps.length → bindArgs fd ⟨us, []⟩ = pure (ps.zip us)) ∧ ∀ base, FnOk P w K mg base CX k f fd ps sp
section
variable {P : Program} {w : World} {K : PySem.W.Frag} {mg : Str → Option Value} {CX : CXT} {C : Addr} {m : Str} {ps : List Str} {j k : Nat} {sp sp' : Sp}
/-- no exception leaves it -/
theorem MethIn.fn {qual : Str} {st : Stmt} {N : List Str} (D : MethIn K C m qual st) (S : FnScope N ps (defScope st))
    (hb : ∀ (kV doc pm : Value) (an : Option Addr) (cdv ct : Value) (us : List Value), us.length = ps.length → bindArgs (PySem.W.fnOf m qual (defArgs st) (defBody st) (defScope st) .none kV doc pm an cdv ct) ⟨us, []⟩ = pure (ps.zip us))
    (len : ∀ vs H Q E, sp vs H Q E → vs.length = ps.length)
    (hbody : ∀ (f : Addr) (base : Heap) (cdv : Value) (A : Around) (outer : List Env) (s : Shared) (H : Hp) (vs : List V) (Q : VK) (E : XK), Room k (A.deeper (envOfC qual (defScope st) s.heap.objs.size f cdv)) → sp vs H Q E →
      ∃ t, PSs (cxOf CX0 P w K mg base N qual (defScope st) f cdv A outer s H E).nox (defBody st) t ∧ t { nx := fun _ H' => Q .non H', rt := Q } (start N vs) H) : MethB P w K mg CX0 C m ps (k + 1) sp := by
  obtain ⟨f, oc, od, kV, doc, pm, an, cdv, ct, osl, a, i, l, c, kp⟩ := D.ex
  have F : Fun K m qual st f (PySem.W.fnOf m qual (defArgs st) (defBody st) (defScope st) .none kV doc pm an cdv ct) := fun_mk l c kp
  exact ⟨f, _, ⟨a, i, kp⟩, hb kV doc pm an cdv ct, fun base => F.ok S len (hbody f base)⟩
/-- an exception may leave it -/
theorem MethIn.fnX {qual : Str} {st : Stmt} {N : List Str} (D : MethIn K C m qual st) (S : FnScope N ps (defScope st))
    (hb : ∀ (kV doc pm : Value) (an : Option Addr) (cdv ct : Value) (us : List Value), us.length = ps.length → bindArgs (PySem.W.fnOf m qual (defArgs st) (defBody st) (defScope st) .none kV doc pm an cdv ct) ⟨us, []⟩ = pure (ps.zip us))
    (len : ∀ vs H Q E, sp vs H Q E → vs.length = ps.length)
    (hbody : ∀ (f : Addr) (base : Heap) (cdv : Value) (A : Around) (outer : List Env) (s : Shared) (H : Hp) (vs : List V) (Q : VK) (E : XK), Room k (A.deeper (envOfC qual (defScope st) s.heap.objs.size f cdv)) → sp vs H Q E →
      ∃ t, PSs (cxOf (CXE P w) P w K mg base N qual (defScope st) f cdv A outer s H E) (defBody st) t ∧ t { nx := fun _ H' => Q .non H', rt := Q } (start N vs) H) : MethB P w K mg (CXE P w) C m ps (k + 1) sp := by
  obtain ⟨f, oc, od, kV, doc, pm, an, cdv, ct, osl, a, i, l, c, kp⟩ := D.ex
  exact ⟨f, _, ⟨a, i, kp⟩, hb kV doc pm an cdv ct, fun base => fn_of l c S len (fun A outer s H vs Q E hr h => hbody f base cdv A outer s H vs Q E hr h)⟩
end
/-- a def that an exception may leave -/
def FnX (P : Program) (w : World) (K : PySem.W.Frag) (mg : Str → Option Value) (x : Str) (ps : List Str) (k : Nat) (sp : Sp) : Prop :=
  ∃ (f : Addr) (fd : FuncData), mg x = some (.ref f) ∧ PySem.W.keepIn K (.ref f) = true ∧ (∀ us : List Value, us.length = ps.length → bindArgs fd ⟨us, []⟩ = pure (ps.zip us)) ∧ ∀ base, FnOk P w K mg base (CXE P w) k f fd ps sp
theorem DefIn.fnX {P : Program} {w : World} {K : PySem.W.Frag} {mg : Str → Option Value} {x : Str} {st : Stmt} {N ps : List Str} {k : Nat} {sp : Sp} (D : DefIn K x st) (M : MG K mg) (S : FnScope N ps (defScope st))
    (hb : ∀ (kV doc pm : Value) (an : Option Addr) (cdv ct : Value) (us : List Value), us.length = ps.length → bindArgs (PySem.W.fnOf x x (defArgs st) (defBody st) (defScope st) .none kV doc pm an cdv ct) ⟨us, []⟩ = pure (ps.zip us))
    (len : ∀ vs H Q E, sp vs H Q E → vs.length = ps.length)
    (hbody : ∀ (f : Addr) (base : Heap) (cdv : Value) (A : Around) (outer : List Env) (s : Shared) (H : Hp) (vs : List V) (Q : VK) (E : XK), Room k (A.deeper (envOfC x (defScope st) s.heap.objs.size f cdv)) → sp vs H Q E →
      ∃ t, PSs (cxOf (CXE P w) P w K mg base N x (defScope st) f cdv A outer s H E) (defBody st) t ∧ t { nx := fun _ H' => Q .non H', rt := Q } (start N vs) H) : FnX P w K mg x ps (k + 1) sp := by
  obtain ⟨f, oc, od, kV, doc, pm, an, cdv, ct, osl, a, l, c, kp⟩ := D.ex
  exact ⟨f, _, M.is _ _ a, kp, hb kV doc pm an cdv ct, fun base => fn_of l c S len (fun A outer s H vs Q E hr h => hbody f base cdv A outer s H vs Q E hr h)⟩
section
variable {X : Cx} {CX : CXT} {k : Nat} {C : Addr} {ps : List Str} {sp : Sp} {E : XK} {x m : Str} {p pos apos : Pos} {e o : Expr} {es : List Expr} {ta : TE} {t : TA}
theorem pe_callX (F : FnX X.prog X.w X.K X.mg x ps k sp) (hx : Passes (CXE X.prog X.w) X E) (hr : Room k X.A) (hg : Gl X x) (ha : PA X (e :: es) t)
    (hdb : (x == ("__debug__" : Str)) = false := by decide) (he : starEach (e :: es) X.env = (false, eval e X.env) :: starEach es X.env := by rfl) (hpl : (backTo pos (starEach es X.env)).any (·.1) = false := by rfl) :
    PE X (.Call (.Name x p) (e :: es) [] pos) (tCall sp [] E t) := by
  obtain ⟨f, fd, h1, h2, h3, h4⟩ := F
  exact pe_call (h4 X.base) hr hg h1 h2 (.all h3) .nil hx ha hdb he hpl
theorem pe_methB0 {pl : Sem Bool} (he : PE X o ta) (c : Cls X.K C) (F : MethB X.prog X.w X.K X.mg CX C m ps k sp) (hx : Passes CX X E) (hr : Room k X.A)
    (ht : eval (.Call (.Attribute o m apos) [] [] pos) X.env = (do let ov ← eval o X.env; standAt apos.atName; let (f, first) ← holding [ov] (getMethod ov m pl); callWith pos f first (backTo pos (starEach [] X.env)) (backToKw pos (keywordEach [] X.env))) := by rfl) :
    PE X (.Call (.Attribute o m apos) [] [] pos) (tMeth C m sp [] E ta tNil) := by
  obtain ⟨f, fd, h1, h2, h3⟩ := F
  exact pe_meth0 he c h1 (h3 X.base) hr (.all h2) .nil hx ht
/-- C(e, ..) -/
theorem pe_makeB (c : ClassIn X.K x C) (M : MG X.K X.mg) (F : MethB X.prog X.w X.K X.mg CX C "__init__" ps k sp) (hx : Passes CX X E) (hr : Room (k + 1) X.A) (hg : Gl X x) (ha : PA X (e :: es) t)
    (hdb : (x == ("__debug__" : Str)) = false := by decide) (he : starEach (e :: es) X.env = (false, eval e X.env) :: starEach es X.env := by rfl) (hpl : (backTo pos (starEach es X.env)).any (·.1) = false := by rfl) :
    PE X (.Call (.Name x p) (e :: es) [] pos) (tMake C sp [] E t) := by
  obtain ⟨f, fd, h1, h2, h3⟩ := F
  exact pe_make ⟨c.makes, h1.at_, h1.fn, c.kp⟩ (h3 X.base) hr hg (M.is _ _ c.at_) (.all h2) .nil hx ha hdb he hpl
def tNoE : TE := fun _ _ _ => False
def tNoT : TT := fun _ _ _ => False
theorem pe_never {e : Expr} : PE X e tNoE := fun _ _ _ _ _ _ h => h.elim
theorem pt_never {e : Expr} : PT X e tNoT := fun _ _ _ _ _ _ h => h.elim
end
end L2
namespace L2
open PySem PySem.Spec PyProof.Rows
abbrev veMro : List Value := [.type "ValueError", .type "Exception", .type "BaseException", .type "object"]
structure ExcIn (K : PySem.W.Frag) (x : Str) (C : Addr) : Prop where
  at_ : PySem.W.nsIn K mainGlobals x = some (some (.ref C))
  exc : PySem.W.excIn K C veMro "ValueError.__new__" = true
  ga : PySem.W.findIn K (.ref C) "__getattribute__" = some (some (.builtin "BaseException.__getattribute__"))
  gt : PySem.W.findIn K (.ref C) "__getattr__" = some none
  cl : PySem.W.findIn K (.ref C) "__class__" = some (some (.builtin "object.__class__"))
  sb : PySem.W.subIn K (.ref C) (.type "BaseException") = some true
  so : PySem.W.subIn K (.ref C) (.type "object") = some true
  cs : PySem.W.isClsIn K C = true
section
variable {prog : Program} {w : World} {A : Around} {E : Value → Shared → Prop} {h : Heap} {g : Array GenState} {d : Drawn} {t : Nat} {os : OsState} {a C : Addr} {o : Obj} {K : PySem.W.Frag} {x : Str}
theorem xc_get {R : Result → Shared → Prop} (X : K.In h) (D : ExcIn K x C) (hx : h.get? a = some o) (hc : o.cls = .ref C) (hq : R (.ok (.ret (.ref C))) ⟨h, g, d, t, os⟩) :
    codeAny (model prog w) A (.call (.builtin "getset_descriptor.__get__") ⟨[.builtin "object.__class__", .ref a, .ref C], []⟩) R ⟨h, g, d, t, os⟩ := by
  have hT5 : (⟨h, g, d, t, os⟩ : Shared).TypeIs (.builtin "object.__class__") "getset_descriptor" := F.typeOf_object_class
  have f8 := PySem.W.looks_subIn (M := model prog w) X D.so
  refine codeAny_call_builtin F.slot_gs_get.plain F.entry_gs_get (F.slot_gs_get.check _ _ _ _ _ _ _ _ hT5 (F.args_gs_get _ _ _) ?_)
  repeat (any_goals (first | assumption | (with_reducible refine wpAny_loadPart_at hx ?_; rw [hc]) | (with_reducible refine f8.at ?_) | (rw [F.owner_object_class]; with_reducible refine f8.at ?_) | wp_step))
  refine ⟨Code.quiet_builtin _ (by decide +kernel), codeAny_builtin F.entry_object_class ?_⟩
  repeat (any_goals (first | assumption | (with_reducible refine wpAny_loadPart_at hx ?_; rw [hc]) | wp_step))
theorem xc_check {M : Model} {nameV : Value} {Q : Unit → Shared → Prop} (X : K.In h) (D : ExcIn K x C) (hx : h.get? a = some o) (hc : o.cls = .ref C) (hq : Q () ⟨h, g, d, t, os⟩) :
    wpAny M A (checkBuiltinCall "BaseException.__getattribute__" ⟨[.ref a, nameV], []⟩) Q E ⟨h, g, d, t, os⟩ := by
  have hk : builtinKind "BaseException.__getattribute__" = some .slot := by decide +kernel
  have hsplit : splitId "BaseException.__getattribute__" = some ("BaseException", "__getattribute__") := by decide +kernel
  have ls := PySem.W.looks_subIn (M := M) X D.sb
  have ha := F.args_bexc_ga (.ref a) nameV
  simp only [checkBuiltinCall, hk, hsplit]
  refine wpAny_bind ?_
  · unfold isInstance
    repeat (first | (with_reducible refine wpAny_loadPart_at hx ?_; rw [hc]) | (with_reducible refine ls.at ?_) | wp_step)
    exact hq
theorem xc_entry {tk : Tok} {Q : Fin → Shared → Prop} (X : K.In h) (D : ExcIn K x C) (hx : h.get? a = some o) (hc : o.cls = .ref C) (hq : Q (.done (.ret (.ref C))) ⟨h, g, d, t, os⟩) :
    wpAny (model prog w) A (Builtin.«object.__getattribute__» ⟨[.ref a, .str "__class__" tk], []⟩) Q E ⟨h, g, d, t, os⟩ := by
  have hT5 : (⟨h, g, d, t, os⟩ : Shared).TypeIs (.builtin "object.__class__") "getset_descriptor" := F.typeOf_object_class
  have f5 := F.typeOf_object_class
  have f6 := F.slot_gs_get.lookup
  have f7 := F.slot_gs_set.lookup
  have L4 := PySem.W.looks_findIn (M := model prog w) X D.cl
  repeat (any_goals (first | assumption | (with_reducible refine wpAny_loadPart_at hx ?_; rw [hc]) | (with_reducible refine L4.at ?_) | wp_step))
  refine xc_get X D hx hc ?_
  repeat (any_goals (first | assumption | wp_step))
theorem xc_call {tk : Tok} {R : Result → Shared → Prop} (X : K.In h) (D : ExcIn K x C) (hx : h.get? a = some o) (hc : o.cls = .ref C) (hq : R (.ok (.ret (.ref C))) ⟨h, g, d, t, os⟩) :
    codeAny (model prog w) A (.call (.builtin "BaseException.__getattribute__") ⟨[.ref a, .str "__class__" tk], []⟩) R ⟨h, g, d, t, os⟩ :=
  codeAny_call_builtin F.attr_ValueError.ga.plain F.entry_bexc_ga (xc_check X D hx hc (xc_entry X D hx hc hq))
theorem xc_by {tk : Tok} {Q : Value → Shared → Prop} (X : K.In h) (D : ExcIn K x C) (hx : h.get? a = some o) (hc : o.cls = .ref C) (hq : Q (.ref C) ⟨h, g, d, t, os⟩) : wpAny (model prog w) A (getAttrBy (.ref a) (.str "__class__" tk) false) Q E ⟨h, g, d, t, os⟩ := by
  have f3 := F.attr_ValueError.ga.bind (.ref a)
  have hx2 : (Value.builtin "BaseException.__getattribute__" == Value.builtin "object.__getattribute__") = false := by decide +kernel
  have hx1 : (onTheHeap (Value.ref C) && Value.builtin "BaseException.__getattribute__" == Value.builtin "object.__getattribute__") = false := by rw [hx2]; rfl
  have La := PySem.W.looks_findIn (M := model prog w) X D.ga
  have Lt := PySem.W.looks_findIn (M := model prog w) X D.gt
  repeat (any_goals (first | assumption | (with_reducible refine wpAny_loadPart_at hx ?_; rw [hc]) | (with_reducible refine La.at ?_) | (with_reducible refine Lt.at ?_) | wp_step))
  refine xc_call X D hx hc ?_
  repeat (any_goals (first | assumption | wp_step))
theorem xc_attr {Q : Option Value → Shared → Prop} (X : K.In h) (D : ExcIn K x C) (hx : h.get? a = some o) (hc : o.cls = .ref C) (hq : Q (some (.ref C)) ⟨h, g, d, t + 1, os⟩) : wpAny (model prog w) A (getAttr? (.ref a) "__class__") Q E ⟨h, g, d, t, os⟩ := by
  unfold getAttr? getAttrBy?
  repeat (any_goals (first | assumption | (with_reducible apply xc_by X D hx hc) | wp_step))
end
theorem kitx_exc {K : PySem.W.Frag} {x : Str} {a C : Addr} (D : ExcIn K x C) : PySem.W.KitX K (.ref a) (.ref C) (excAt a (.ref C)) where
  ty := fun _ _ _ ⟨o, e, c⟩ => by
    rw [← c]
    exact (PySem.W.Looks.ld e).andThen .now
  it := fun _ _ X _ => by
    have hcs := D.cs
    unfold PySem.W.isClsIn PySem.W.clsIn at hcs
    split at hcs
    · rename_i ho
      intro A' Q' E' s' k q; unfold isType loadHead; exact wpAny_bind (wpAny_loadPart (k _ _ (X _ _ ho)) (wpAny_pure q))
    · cases hcs
  ne := fun h tp dd its n sl X htp => by
    refine Bool.eq_false_iff.mpr fun q => ?_
    have e : C = tp := Value.ref.inj (beq_iff_eq.mp q)
    subst e
    have hcs := D.cs
    unfold PySem.W.isClsIn PySem.W.clsIn at hcs
    split at hcs
    · rename_i ho
      have z := (X _ _ ho).symm.trans htp; cases z
    · cases hcs
  ca := fun {_ _ _ _ _ s} X ⟨o, e, c⟩ k => by
    obtain ⟨h, g, d, t, os⟩ := s
    exact xc_attr X D e c k
section
variable {X : Cx}
def rIsX (K : PySem.W.Frag) : List V → Hp → VK → Prop := fun xs H Q => ∃ a C y b, xs = [.ref a, y] ∧ H a = some (.ext (excAt a (.ref C))) ∧ (∃ x, ExcIn K x C) ∧ ((∃ c, y = .ref c ∧ PySem.W.kitOne K (.ref C) (.ref c) = some b) ∨ ∃ T, y = .ty T ∧ PySem.W.kitOne K (.ref C) (.type T) = some b) ∧ Q (.bl b) H
theorem call_isinstX : CallR X (.builtin "isinstance") (rIsX X.K) := by
  intro pins s σ H xs us Q I r h
  obtain ⟨a, C, y, b, rfl, ha, ⟨x, D⟩, hk, q⟩ := h
  obtain ⟨u, w', rfl, rx, ry⟩ := vals2 r
  cases rx
  obtain ⟨p, _⟩ := (show ObjOk X.prog X.w H s.heap a (.ext (excAt a (.ref C))) from I.hok a _ ha)
  rcases hk with ⟨c, rfl, e⟩ | ⟨T, rfl, e⟩
  · cases ry
    exact PySem.W.kia_one (kitx_exc D) I.kIn p e (fun z => nomatch z) fun tk => ⟨.bl b, H, I.tok _, rfl, q⟩
  · cases ry
    exact PySem.W.kia_one (kitx_exc D) I.kIn p e (fun z => nomatch z) fun tk => ⟨.bl b, H, I.tok _, rfl, q⟩
def rCount : V → List V → Hp → VK → Prop := fun x xs H Q => ∃ (l : Addr) (bs : List Bool) (b : Bool), x = .ref l ∧ xs = [.bl b] ∧ H l = some (.lst (bs.map V.bl)) ∧ Q (.int (bs.count b : Nat)) H
theorem vals_bl : ∀ {bs : List Bool} {us : List Value}, Vals (bs.map V.bl) us → us = bs.map Value.bool
  | [], _, .nil => rfl
  | b :: bs, _, .cons h t => by
    cases (show _ = Value.bool b from h)
    rw [vals_bl t]; rfl
theorem mt_count : MtM X "list.count" rCount := by
  intro pins s σ H x vs v us Q I rx rv h
  obtain ⟨l, bs, b, rfl, rfl, hH, q⟩ := h
  cases rx
  obtain ⟨u, rfl, ru⟩ := rv.one
  cases (show u = Value.bool b from ru)
  obtain ⟨z, its, n, r, hl, e⟩ := I.lstM hH
  have hi := vals_bl r
  subst hi
  refine call_meets F.slot_list_count ⟨_, e, rfl⟩ F.entry_list_count (F.args_list_count_2 _ _) (SeqAt.list_countAt l _ n none #[] (.bool b) (fun y => y == .bool b)) ⟨e, fun y hy => ?_, ?_⟩
  · obtain ⟨c, _, rfl⟩ := List.mem_map.mp (List.mem_toArray.mp hy)
    have h2 : (Value.bool c == Value.bool b) = (c == b) := by cases c <;> cases b <;> rfl
    rw [h2]
    exact SeqAt.EqAt.bool_bool c b
  · refine ⟨.int (bs.count b : Nat), H, I.tok _, ⟨s.toks, ?_⟩, q⟩
    have : (bs.map Value.bool).countP (fun y => y == Value.bool b) = bs.count b := by
      rw [List.countP_map, List.count]
      refine List.countP_congr fun c _ => ?_
      show ((Value.bool c == Value.bool b) = true) ↔ ((c == b) = true)
      cases c <;> cases b <;> decide
    rw [List.toList_toArray] at *
    rw [this]
end
end L2
namespace L2
open PySem PySem.Spec PyProof.Rows
section
variable {X : Cx} {K : PySem.W.Frag}
theorem opK_catT (e : X.K = K) : OpR X (binaryOp .Add) (rCatT K) := by subst e; exact op_catT
theorem pg_tupK {es : List Expr} {k : Nat} {t : TGs} {n : Nat} {pos : Pos} (e : X.K = K) (hc : X.calm = true) (h : PGs X es t) (hn : (assignEach es X.env).length = n := by rfl) (hst : (assignEach es X.env).findIdx? (·.1) = none := by rfl) : PG X (.Tuple es k pos) (gTup K n t) := by
  subst e; exact pg_tup hc h hn hst
variable {o e : Expr} {es : List Expr} {to : TE} {t : TA} {name : Str} {apos cpos : Pos} {T id : String} {r : V → List V → Hp → VK → Prop}
theorem pe_bmK (e' : X.K = K) (pa : PlainAttrs T) (slot : Slot T name id) (hty : typeOf (.builtin id) = pure (.type "method_descriptor")) (hm : MtM X id r) (ho : PE X o to) (ha : PA X (e :: es) t)
    (hbase : attributeBase o name X.env (eval o X.env) = eval o X.env := by rfl)
    (hfew : ((backTo cpos (starEach (e :: es) X.env)).all (fun x => !x.1) && (backToKw cpos (keywordEach [] X.env)).all (fun x => x.1.isSome) && decide ((e :: es).length + ([] : List Keyword).length + (if ([] : List Keyword).isEmpty then 0 else 1) < 30)) = true := by rfl)
    (hline : (apos.endLine == cpos.line) = true := by rfl) (hs : starEach (e :: es) X.env = (false, eval e X.env) :: starEach es X.env := by rfl) (hplain : (backTo cpos (starEach es X.env)).any (·.1) = false := by rfl) :
    PE X (.Call (.Attribute o name apos) (e :: es) [] cpos) (tBM K T r to t) := by
  subst e'; exact pe_bm pa slot hty hm ho ha hbase hfew hline hs hplain
theorem callK_isinstX (e' : X.K = K) : CallR X (.builtin "isinstance") (rIsX K) := by subst e'; exact call_isinstX
end
end L2
seal L2.PE L2.PT L2.PA L2.PS L2.PSs L2.PG L2.PGs L2.PI L2.PIfs L2.OpR L2.UnR L2.CallR L2.IxR
namespace K1
end K1
namespace K1
open PySem PySem.Spec PyProof.Rows L2
def top (i : Nat) : Stmt := PySem.Challenge.pw_weirgauge_k02_plans_refused.main.body.getD i (.Pass ⟨0, 0, 0, 0⟩)
abbrev st_kind_of : Stmt := top 9
theorem sc_kind_of : FnScope ["plan"] ["plan"] (defScope st_kind_of) := ⟨rfl, rfl, rfl, by decide +kernel, rfl, by decide +kernel, by decide +kernel⟩
theorem bd_kind_of (kV doc pm : Value) (an : Option Addr) (cdv ct : Value) (us : List Value) (hl : us.length = [("plan" : Str)].length) : bindArgs (PySem.W.fnOf "kind_of" "kind_of" (defArgs st_kind_of) (defBody st_kind_of) (defScope st_kind_of) .none kV doc pm an cdv ct) ⟨us, []⟩ = pure ((["plan"] : List Str).zip us) :=
  match us, hl with | [_], _ => rfl
abbrev st_length_of : Stmt := top 10
theorem sc_length_of : FnScope ["plan"] ["plan"] (defScope st_length_of) := ⟨rfl, rfl, rfl, by decide +kernel, rfl, by decide +kernel, by decide +kernel⟩
theorem bd_length_of (kV doc pm : Value) (an : Option Addr) (cdv ct : Value) (us : List Value) (hl : us.length = [("plan" : Str)].length) : bindArgs (PySem.W.fnOf "length_of" "length_of" (defArgs st_length_of) (defBody st_length_of) (defScope st_length_of) .none kV doc pm an cdv ct) ⟨us, []⟩ = pure ((["plan"] : List Str).zip us) :=
  match us, hl with | [_], _ => rfl
abbrev st_step_of : Stmt := top 11
theorem sc_step_of : FnScope ["plan"] ["plan"] (defScope st_step_of) := ⟨rfl, rfl, rfl, by decide +kernel, rfl, by decide +kernel, by decide +kernel⟩
theorem bd_step_of (kV doc pm : Value) (an : Option Addr) (cdv ct : Value) (us : List Value) (hl : us.length = [("plan" : Str)].length) : bindArgs (PySem.W.fnOf "step_of" "step_of" (defArgs st_step_of) (defBody st_step_of) (defScope st_step_of) .none kV doc pm an cdv ct) ⟨us, []⟩ = pure ((["plan"] : List Str).zip us) :=
  match us, hl with | [_], _ => rfl
abbrev st_grace_of : Stmt := top 12
theorem sc_grace_of : FnScope ["plan"] ["plan"] (defScope st_grace_of) := ⟨rfl, rfl, rfl, by decide +kernel, rfl, by decide +kernel, by decide +kernel⟩
theorem bd_grace_of (kV doc pm : Value) (an : Option Addr) (cdv ct : Value) (us : List Value) (hl : us.length = [("plan" : Str)].length) : bindArgs (PySem.W.fnOf "grace_of" "grace_of" (defArgs st_grace_of) (defBody st_grace_of) (defScope st_grace_of) .none kV doc pm an cdv ct) ⟨us, []⟩ = pure ((["plan"] : List Str).zip us) :=
  match us, hl with | [_], _ => rfl
abbrev st_check_plan : Stmt := top 15
theorem sc_check_plan : FnScope ["plan", "length", "step"] ["plan"] (defScope st_check_plan) := ⟨rfl, rfl, rfl, by decide +kernel, rfl, by decide +kernel, by decide +kernel⟩
theorem bd_check_plan (kV doc pm : Value) (an : Option Addr) (cdv ct : Value) (us : List Value) (hl : us.length = [("plan" : Str)].length) : bindArgs (PySem.W.fnOf "check_plan" "check_plan" (defArgs st_check_plan) (defBody st_check_plan) (defScope st_check_plan) .none kV doc pm an cdv ct) ⟨us, []⟩ = pure ((["plan"] : List Str).zip us) :=
  match us, hl with | [_], _ => rfl
abbrev st_spans_at : Stmt := top 16
abbrev st_joined : Stmt := top 19
abbrev st_answers : Stmt := top 21
theorem sc_answers : FnScope ["plan", "deeds", "desk"] ["plan", "deeds"] (defScope st_answers) := ⟨rfl, rfl, rfl, by decide +kernel, rfl, by decide +kernel, by decide +kernel⟩
theorem bd_answers (kV doc pm : Value) (an : Option Addr) (cdv ct : Value) (us : List Value) (hl : us.length = [("plan" : Str), ("deeds" : Str)].length) : bindArgs (PySem.W.fnOf "answers" "answers" (defArgs st_answers) (defBody st_answers) (defScope st_answers) .none kV doc pm an cdv ct) ⟨us, []⟩ = pure ((["plan", "deeds"] : List Str).zip us) :=
  match us, hl with | [_, _], _ => rfl
abbrev st_standing : Stmt := top 22
theorem sc_standing : FnScope ["plan", "deeds", "desk"] ["plan", "deeds"] (defScope st_standing) := ⟨rfl, rfl, rfl, by decide +kernel, rfl, by decide +kernel, by decide +kernel⟩
theorem bd_standing (kV doc pm : Value) (an : Option Addr) (cdv ct : Value) (us : List Value) (hl : us.length = [("plan" : Str), ("deeds" : Str)].length) : bindArgs (PySem.W.fnOf "standing" "standing" (defArgs st_standing) (defBody st_standing) (defScope st_standing) .none kV doc pm an cdv ct) ⟨us, []⟩ = pure ((["plan", "deeds"] : List Str).zip us) :=
  match us, hl with | [_, _], _ => rfl
abbrev st_kept_after : Stmt := top 23
theorem sc_kept_after : FnScope ["plan", "deeds", "desk"] ["plan", "deeds"] (defScope st_kept_after) := ⟨rfl, rfl, rfl, by decide +kernel, rfl, by decide +kernel, by decide +kernel⟩
theorem bd_kept_after (kV doc pm : Value) (an : Option Addr) (cdv ct : Value) (us : List Value) (hl : us.length = [("plan" : Str), ("deeds" : Str)].length) : bindArgs (PySem.W.fnOf "kept_after" "kept_after" (defArgs st_kept_after) (defBody st_kept_after) (defScope st_kept_after) .none kV doc pm an cdv ct) ⟨us, []⟩ = pure ((["plan", "deeds"] : List Str).zip us) :=
  match us, hl with | [_, _], _ => rfl
abbrev st_missed : Stmt := top 24
theorem sc_missed : FnScope ["plan", "deeds"] ["plan", "deeds"] (defScope st_missed) := ⟨rfl, rfl, rfl, by decide +kernel, rfl, by decide +kernel, by decide +kernel⟩
theorem bd_missed (kV doc pm : Value) (an : Option Addr) (cdv ct : Value) (us : List Value) (hl : us.length = [("plan" : Str), ("deeds" : Str)].length) : bindArgs (PySem.W.fnOf "missed" "missed" (defArgs st_missed) (defBody st_missed) (defScope st_missed) .none kV doc pm an cdv ct) ⟨us, []⟩ = pure ((["plan", "deeds"] : List Str).zip us) :=
  match us, hl with | [_, _], _ => rfl
abbrev st_in_order : Stmt := top 25
theorem sc_in_order : FnScope ["plan", "events"] ["plan", "events"] (defScope st_in_order) := ⟨rfl, rfl, rfl, by decide +kernel, rfl, by decide +kernel, by decide +kernel⟩
theorem bd_in_order (kV doc pm : Value) (an : Option Addr) (cdv ct : Value) (us : List Value) (hl : us.length = [("plan" : Str), ("events" : Str)].length) : bindArgs (PySem.W.fnOf "in_order" "in_order" (defArgs st_in_order) (defBody st_in_order) (defScope st_in_order) .none kV doc pm an cdv ct) ⟨us, []⟩ = pure ((["plan", "events"] : List Str).zip us) :=
  match us, hl with | [_, _], _ => rfl
abbrev st_desk_behind : Stmt := top 26
theorem sc_desk_behind : FnScope ["plan", "deeds", "desk", "deed"] ["plan", "deeds"] (defScope st_desk_behind) := ⟨rfl, rfl, rfl, by decide +kernel, rfl, by decide +kernel, by decide +kernel⟩
theorem bd_desk_behind (kV doc pm : Value) (an : Option Addr) (cdv ct : Value) (us : List Value) (hl : us.length = [("plan" : Str), ("deeds" : Str)].length) : bindArgs (PySem.W.fnOf "desk_behind" "desk_behind" (defArgs st_desk_behind) (defBody st_desk_behind) (defScope st_desk_behind) .none kV doc pm an cdv ct) ⟨us, []⟩ = pure ((["plan", "deeds"] : List Str).zip us) :=
  match us, hl with | [_, _], _ => rfl
abbrev st__law_at : Stmt := top 28
theorem sc__law_at : FnScope ["_law_script", "_law_k"] ["_law_script", "_law_k"] (defScope st__law_at) := ⟨rfl, rfl, rfl, by decide +kernel, rfl, by decide +kernel, by decide +kernel⟩
theorem bd__law_at (kV doc pm : Value) (an : Option Addr) (cdv ct : Value) (us : List Value) (hl : us.length = [("_law_script" : Str), ("_law_k" : Str)].length) : bindArgs (PySem.W.fnOf "_law_at" "_law_at" (defArgs st__law_at) (defBody st__law_at) (defScope st__law_at) .none kV doc pm an cdv ct) ⟨us, []⟩ = pure ((["_law_script", "_law_k"] : List Str).zip us) :=
  match us, hl with | [_, _], _ => rfl
abbrev st__law_number : Stmt := top 29
theorem sc__law_number : FnScope ["_law_cell"] ["_law_cell"] (defScope st__law_number) := ⟨rfl, rfl, rfl, by decide +kernel, rfl, by decide +kernel, by decide +kernel⟩
theorem bd__law_number (kV doc pm : Value) (an : Option Addr) (cdv ct : Value) (us : List Value) (hl : us.length = [("_law_cell" : Str)].length) : bindArgs (PySem.W.fnOf "_law_number" "_law_number" (defArgs st__law_number) (defBody st__law_number) (defScope st__law_number) .none kV doc pm an cdv ct) ⟨us, []⟩ = pure ((["_law_cell"] : List Str).zip us) :=
  match us, hl with | [_], _ => rfl
abbrev st__law_refused : Stmt := top 30
theorem sc__law_refused : FnScope ["_law_which", "_law_plan"] ["_law_which", "_law_plan"] (defScope st__law_refused) := ⟨rfl, rfl, rfl, by decide +kernel, rfl, by decide +kernel, by decide +kernel⟩
theorem bd__law_refused (kV doc pm : Value) (an : Option Addr) (cdv ct : Value) (us : List Value) (hl : us.length = [("_law_which" : Str), ("_law_plan" : Str)].length) : bindArgs (PySem.W.fnOf "_law_refused" "_law_refused" (defArgs st__law_refused) (defBody st__law_refused) (defScope st__law_refused) .none kV doc pm an cdv ct) ⟨us, []⟩ = pure ((["_law_which", "_law_plan"] : List Str).zip us) :=
  match us, hl with | [_, _], _ => rfl
abbrev st__law_under_base : Stmt := top 31
theorem sc__law_under_base : FnScope ["_law_plan", "e", "_law_kinds"] ["_law_plan"] (defScope st__law_under_base) := ⟨rfl, rfl, rfl, by decide +kernel, rfl, by decide +kernel, by decide +kernel⟩
theorem bd__law_under_base (kV doc pm : Value) (an : Option Addr) (cdv ct : Value) (us : List Value) (hl : us.length = [("_law_plan" : Str)].length) : bindArgs (PySem.W.fnOf "_law_under_base" "_law_under_base" (defArgs st__law_under_base) (defBody st__law_under_base) (defScope st__law_under_base) .none kV doc pm an cdv ct) ⟨us, []⟩ = pure ((["_law_plan"] : List Str).zip us) :=
  match us, hl with | [_], _ => rfl
abbrev st_law : Stmt := top 32
theorem sc_law : FnScope ["_law_script", "_law_k", "_law_cell", "_law_one", "_law_two", "_law_grace", "_law_plan", "_law_bad", "_law_which"] ["_law_script"] (defScope st_law) := ⟨rfl, rfl, rfl, by decide +kernel, rfl, by decide +kernel, by decide +kernel⟩
theorem bd_law (kV doc pm : Value) (an : Option Addr) (cdv ct : Value) (us : List Value) (hl : us.length = [("_law_script" : Str)].length) : bindArgs (PySem.W.fnOf "law" "law" (defArgs st_law) (defBody st_law) (defScope st_law) .none kV doc pm an cdv ct) ⟨us, []⟩ = pure ((["_law_script"] : List Str).zip us) :=
  match us, hl with | [_], _ => rfl
abbrev st_Desk___init__ : Stmt := inClass (top 18) 0
theorem sc_Desk___init__ : FnScope ["self", "plan"] ["self", "plan"] (defScope st_Desk___init__) := ⟨rfl, rfl, rfl, by decide +kernel, rfl, by decide +kernel, by decide +kernel⟩
theorem bd_Desk___init__ (kV doc pm : Value) (an : Option Addr) (cdv ct : Value) (us : List Value) (hl : us.length = [("self" : Str), ("plan" : Str)].length) : bindArgs (PySem.W.fnOf "__init__" "Desk.__init__" (defArgs st_Desk___init__) (defBody st_Desk___init__) (defScope st_Desk___init__) .none kV doc pm an cdv ct) ⟨us, []⟩ = pure ((["self", "plan"] : List Str).zip us) :=
  match us, hl with | [_, _], _ => rfl
abbrev st_Desk_rows : Stmt := inClass (top 18) 1
theorem sc_Desk_rows : FnScope ["self"] ["self"] (defScope st_Desk_rows) := ⟨rfl, rfl, rfl, by decide +kernel, rfl, by decide +kernel, by decide +kernel⟩
theorem bd_Desk_rows (kV doc pm : Value) (an : Option Addr) (cdv ct : Value) (us : List Value) (hl : us.length = [("self" : Str)].length) : bindArgs (PySem.W.fnOf "rows" "Desk.rows" (defArgs st_Desk_rows) (defBody st_Desk_rows) (defScope st_Desk_rows) .none kV doc pm an cdv ct) ⟨us, []⟩ = pure ((["self"] : List Str).zip us) :=
  match us, hl with | [_], _ => rfl
abbrev st_Desk_is_closed : Stmt := inClass (top 18) 2
abbrev st_Desk_is_kept : Stmt := inClass (top 18) 3
abbrev st_Desk_is_too_late : Stmt := inClass (top 18) 4
abbrev st_Desk_do : Stmt := inClass (top 18) 5
abbrev st_Desk_take_mark : Stmt := inClass (top 18) 6
abbrev st_Desk_take_event : Stmt := inClass (top 18) 7
abbrev st_Desk_keys_met_by : Stmt := inClass (top 18) 8
abbrev st_Desk_move_tallies : Stmt := inClass (top 18) 9
abbrev st_Desk_add_tally : Stmt := inClass (top 18) 10
inductive Pl where
  | fixed (l g : Int) | sliding (l s g : Int) | pauses (l g : Int)
def Pl.row : Pl → List V
  | .fixed l g => [.str "fixed", .int l, .int g]
  | .sliding l s g => [.str "sliding", .int l, .int s, .int g]
  | .pauses l g => [.str "pauses", .int l, .int g]
def Pl.kind : Pl → Str
  | .fixed _ _ => "fixed"
  | .sliding _ _ _ => "sliding"
  | .pauses _ _ => "pauses"
def Pl.len : Pl → Int
  | .fixed l _ => l
  | .sliding l _ _ => l
  | .pauses l _ => l
def Pl.stp : Pl → Int
  | .fixed l _ => l
  | .sliding _ s _ => s
  | .pauses l _ => l
structure Pl.ok (p : Pl) : Prop where
  l1 : 1 ≤ p.len
  l2 : p.len < 10 ^ 45
  s1 : 1 ≤ p.stp
  s2 : p.stp < 10 ^ 45
  ls : p.len ≤ 100 * p.stp
theorem n_fs : ¬ (("fixed" : Str) = "sliding") := by decide +kernel
theorem n_ps : ¬ (("pauses" : Str) = "sliding") := by decide +kernel
theorem dstr {a b : Str} (h : decide (V.str a = V.str b) = true) : a = b := by
  have h' := of_decide_eq_true h
  injection h'
theorem row_0 (p : Pl) : atI p.row 0 = some (.str p.kind) := by cases p <;> rfl
theorem row_1 (p : Pl) : atI p.row 1 = some (.int p.len) := by cases p <;> rfl
def spKind (K : PySem.W.Frag) : Sp := fun vs H Q _ => ∃ (p : Addr) (pl : Pl), vs = [.ref p] ∧ SqT K H p pl.row ∧ Q (.str pl.kind) H
def spLen (K : PySem.W.Frag) : Sp := fun vs H Q _ => ∃ (p : Addr) (pl : Pl), vs = [.ref p] ∧ SqT K H p pl.row ∧ Q (.int pl.len) H
def spStp (K : PySem.W.Frag) : Sp := fun vs H Q _ => ∃ (p : Addr) (pl : Pl), vs = [.ref p] ∧ SqT K H p pl.row ∧ Q (.int pl.stp) H
def spLaw (K : PySem.W.Frag) : Sp := fun vs H Q _ => ∃ (a : Addr) (ns : List Int), vs = [.ref a] ∧ SqL K H a (ns.map V.int) ∧ ns.length ≤ 63 ∧ ∀ H', Q (.bl true) H'
structure Bi (K : PySem.W.Frag) : Prop where
  b_ValueError : PySem.W.nsIn K mainGlobals "ValueError" = some none
  b_isinstance : PySem.W.nsIn K mainGlobals "isinstance" = some none
  b_len : PySem.W.nsIn K mainGlobals "len" = some none
  b_min : PySem.W.nsIn K mainGlobals "min" = some none
  b_range : PySem.W.nsIn K mainGlobals "range" = some none
  b_sorted : PySem.W.nsIn K mainGlobals "sorted" = some none
section
variable {P : Program} {w : World} {K : PySem.W.Frag} {mg : Str → Option Value}
theorem f_kind (D : DefIn K "kind_of" st_kind_of) (M : MG K mg) : FnB P w K mg "kind_of" ["plan"] 1 (spKind K) := by
  refine D.fn M sc_kind_of bd_kind_of (fun vs H Q E h => ?_) (fun f base cdv A outer s H vs Q E hr h => ?_)
  · obtain ⟨p, pl, rfl, _⟩ := h
    rfl
  · obtain ⟨p, pl, rfl, hp, k⟩ := h
    refine ⟨_, (pss_one (ps_ret (pe_ix ix_tup (pv 0) pe_int (fun _ _ => rfl)))), ?_⟩
    exact ⟨_, rfl, p, _, 0, _, rfl, rfl, hp, row_0 pl, k⟩
theorem f_len (D : DefIn K "length_of" st_length_of) (M : MG K mg) : FnB P w K mg "length_of" ["plan"] 1 (spLen K) := by
  refine D.fn M sc_length_of bd_length_of (fun vs H Q E h => ?_) (fun f base cdv A outer s H vs Q E hr h => ?_)
  · obtain ⟨p, pl, rfl, _⟩ := h
    rfl
  · obtain ⟨p, pl, rfl, hp, k⟩ := h
    refine ⟨_, (pss_one (ps_ret (pe_ix ix_tup (pv 0) pe_int (fun _ _ => rfl)))), ?_⟩
    exact ⟨_, rfl, p, _, 1, _, rfl, rfl, hp, row_1 pl, k⟩
theorem f_stp (D : DefIn K "step_of" st_step_of) (M : MG K mg) (G_SLIDING : GlobIs K "SLIDING" (.str "sliding")) (F_kind_of : FnB P w K mg "kind_of" ["plan"] 1 (spKind K)) (F_length_of : FnB P w K mg "length_of" ["plan"] 1 (spLen K)) :
    FnB P w K mg "step_of" ["plan"] 2 (spStp K) := by
  refine D.fn M sc_step_of bd_step_of (fun vs H Q E h => ?_) (fun f base cdv A outer s H vs Q E hr h => ?_)
  · obtain ⟨p, pl, rfl, _⟩ := h
    rfl
  · obtain ⟨p, pl, rfl, hp, k⟩ := h
    refine ⟨_, (pss_cons (ps_if (pt_cmpR op_eq (pcallF F_kind_of (hr.mono (by decide)) rfl (pc (pv 0) pa_nil)) (pe_globC G_SLIDING M rfl) (nomark _)) (pss_one (ps_ret (pe_ix ix_tup (pv 0) pe_int (fun _ _ => rfl)))) pss_nil)
      (pss_one (ps_ret (pcallF F_length_of (hr.mono (by decide)) rfl (pc (pv 0) pa_nil))))), ?_⟩
    refine ⟨_, rfl, p, pl, rfl, hp, rfl, _, rfl, ?_⟩
    refine ite2 (fun h => ?_) (fun h => ?_)
    · have e := dstr h
      cases pl with
      | fixed l g => exact absurd e n_fs
      | pauses l g => exact absurd e n_ps
      | sliding l s g => exact ⟨_, rfl, p, _, 2, _, rfl, rfl, hp, rfl, k⟩
    · refine ⟨_, rfl, p, pl, rfl, hp, ?_⟩
      cases pl with
      | fixed l g => exact k
      | pauses l g => exact k
      | sliding l s g => exact absurd (decide_eq_true rfl) h
end
end K1
namespace K1
open PySem PySem.Spec PyProof.Rows L2
theorem at_int (ls : List Int) {i : Int} (h0 : 0 ≤ i) (h1 : i < ls.length) : atI (ls.map V.int) i = some (.int (ls.getD i.toNat 0)) := by
  obtain ⟨n, rfl⟩ : ∃ n : Nat, i = n := ⟨i.toNat, by omega⟩
  have hn : n < ls.length := by omega
  refine atI_nat ?_
  simp [List.getD, hn]
theorem mod_in (a b : Int) (h : 0 < b) : 0 ≤ a % b ∧ a % b < b := ⟨Int.emod_nonneg _ (by omega), Int.emod_lt_of_pos _ h⟩
def spAt2 (K : PySem.W.Frag) : Sp := fun vs H Q _ => ∃ (a : Addr) (ns : List Int) (k : Int), vs = [.ref a, .int k] ∧ SqL K H a (ns.map V.int) ∧ 0 ≤ k ∧ ∀ v : Int, Q (.int v) H
section
variable {P : Program} {w : World} {K : PySem.W.Frag} {mg : Str → Option Value}
theorem f_at2 (D : DefIn K "_law_at" st__law_at) (M : MG K mg) (B : Bi K) : FnB P w K mg "_law_at" ["_law_script", "_law_k"] 1 (spAt2 K) := by
  refine D.fn M sc__law_at bd__law_at (fun vs H Q E h => ?_) (fun f base cdv A outer s H vs Q E hr h => ?_)
  · obtain ⟨a, ns, i, rfl, _⟩ := h
    rfl
  · obtain ⟨a, ns, i, rfl, ha, h0, k⟩ := h
    refine ⟨_, (pss_cons (ps_if (pt_cmpR oLt (pv 1) (pcallB call_len_seq rfl (M.no _ B.b_len) bt_len (pc (pv 0) pa_nil)) (nomark _)) (pss_one (ps_ret (pe_ix ix_list (pv 0) (pv 1) (fun _ _ => rfl)))) pss_nil)
      (pss_one (ps_ret pe_int))), ?_⟩
    refine ⟨_, rfl, _, rfl, a, _, rfl, .inl ha, _, _, rfl, rfl, _, rfl, ?_⟩
    refine ite2 (fun h => ?_) (fun h => ?_)
    · have h' := of_decide_eq_true h
      rw [List.length_map] at h'
      exact ⟨_, rfl, _, rfl, a, _, _, _, rfl, rfl, ha, at_int ns h0 h', k _⟩
    · exact k 0
end
end K1
namespace K2
open PySem PySem.Spec PyProof.Rows L2 K1
def grace : Pl → Int
  | .fixed _ g => g
  | .sliding _ _ g => g
  | .pauses _ g => g
def bad (p : Pl) : Bool := decide (p.len < 1) || decide (p.stp < 1) || decide (grace p < 0) || decide (100 * p.stp < p.len)
theorem row_m1 (p : Pl) : atI p.row (-1) = some (.int (grace p)) := by cases p <;> rfl
theorem bad_no {p : Pl} (h : bad p = false) : ¬ p.len < 1 ∧ ¬ p.stp < 1 ∧ ¬ grace p < 0 ∧ ¬ 100 * p.stp < p.len := by
  unfold bad at h
  simp only [Bool.or_eq_false_iff, decide_eq_false_iff_not] at h
  exact ⟨h.1.1.1, h.1.1.2, h.1.2, h.2⟩
theorem bad_yes {p : Pl} (h : bad p = true) : p.len < 1 ∨ p.stp < 1 ∨ grace p < 0 ∨ 100 * p.stp < p.len := by
  unfold bad at h
  simp only [Bool.or_eq_true, decide_eq_true_eq, or_assoc] at h
  exact h
def flds (p : Addr) (mk : V) (d m : Addr) : List (Str × V) := [("plan", .ref p), ("mark", mk), ("windows", .ref d), ("missed", .ref m)]
structure DeskIn (K : PySem.W.Frag) (C : Addr) : Prop where
  cl : ClassIn K "Desk" C
  nP : NoAttr K C "plan"
  nM : NoAttr K C "mark"
  nW : NoAttr K C "windows"
  nS : NoAttr K C "missed"
theorem ne_pm : ¬ (("plan" : Str) = "mark") := by decide +kernel
theorem ne_pw : ¬ (("plan" : Str) = "windows") := by decide +kernel
theorem ne_ps : ¬ (("plan" : Str) = "missed") := by decide +kernel
theorem ne_mw : ¬ (("mark" : Str) = "windows") := by decide +kernel
theorem ne_ms : ¬ (("mark" : Str) = "missed") := by decide +kernel
theorem ne_ws : ¬ (("windows" : Str) = "missed") := by decide +kernel
theorem put0 (p : Addr) : putF "plan" (.ref p) [] = ([("plan", V.ref p)] : List (Str × V)) := rfl
theorem put1 (p : Addr) (v : V) : putF "mark" v [("plan", V.ref p)] = ([("plan", V.ref p), ("mark", v)] : List (Str × V)) := by
  simp only [putF, if_neg ne_pm]
theorem put2 (p d : Addr) (v : V) : putF "windows" (.ref d) [("plan", V.ref p), ("mark", v)] = ([("plan", V.ref p), ("mark", v), ("windows", V.ref d)] : List (Str × V)) := by
  simp only [putF, if_neg ne_pw, if_neg ne_mw]
theorem put3 (p d m : Addr) (v : V) : putF "missed" (.ref m) [("plan", V.ref p), ("mark", v), ("windows", V.ref d)] = flds p v d m := by
  simp only [putF, if_neg ne_ps, if_neg ne_ms, if_neg ne_ws, flds]
theorem fld_look (p d m : Addr) (v : V) (k : Str) : (flds p v d m).lookup k = if k = "plan" then some (.ref p) else if k = "mark" then some v else if k = "windows" then some (.ref d) else if k = "missed" then some (.ref m) else none := by
  unfold flds
  simp only [List.lookup]
  repeat' split
  all_goals simp_all
theorem fW (p d m : Addr) (v : V) : (flds p v d m).lookup ("windows" : Str) = some (.ref d) := by rw [fld_look, if_neg (Ne.symm ne_pw), if_neg (Ne.symm ne_mw), if_pos rfl]
theorem fS (p d m : Addr) (v : V) : (flds p v d m).lookup ("missed" : Str) = some (.ref m) := by rw [fld_look, if_neg (Ne.symm ne_ps), if_neg (Ne.symm ne_ms), if_neg (Ne.symm ne_ws), if_pos rfl]
theorem fNo (p d m : Addr) (v : V) {k : Str} (h1 : ¬ k = "plan") (h2 : ¬ k = "mark") (h3 : ¬ k = "windows") (h4 : ¬ k = "missed") : (flds p v d m).lookup k = none := by rw [fld_look, if_neg h1, if_neg h2, if_neg h3, if_neg h4]
def spGrace (K : PySem.W.Frag) : Sp := fun vs H Q _ => ∃ (p : Addr) (pl : Pl), vs = [.ref p] ∧ SqT K H p pl.row ∧ Q (.int (grace pl)) H
def spChk (K : PySem.W.Frag) : Sp := fun vs H Q _ => ∃ (p : Addr) (pl : Pl), vs = [.ref p] ∧ SqT K H p pl.row ∧ bad pl = false ∧ Q .non H
def spChkX (K : PySem.W.Frag) (B : Addr) : Sp := fun vs H _ E => ∃ (p : Addr) (pl : Pl), vs = [.ref p] ∧ SqT K H p pl.row ∧ bad pl = true ∧ E (.ref B) none H
def spInit (K : PySem.W.Frag) (C : Addr) : Sp := fun vs H Q _ => ∃ (x dx p : Addr) (pl : Pl), vs = [.ref x, .ref p] ∧ H x = some (.ins C dx []) ∧ SqT K H p pl.row ∧ bad pl = false ∧
  ∀ (d m : Addr) (H' : Hp), H d = none → H m = none → H' x = some (.ins C dx (flds p .non d m)) → H' d = some (.dT []) → H' m = some (.lst []) → (∀ b o, H b = some o → b ≠ x → H' b = some o) → Q .non H'
def spInitX (K : PySem.W.Frag) (C B : Addr) : Sp := fun vs H _ E => ∃ (x dx p : Addr) (pl : Pl), vs = [.ref x, .ref p] ∧ H x = some (.ins C dx []) ∧ SqT K H p pl.row ∧ bad pl = true ∧ E (.ref B) none H
section
variable {P : Program} {w : World} {K : PySem.W.Frag} {mg : Str → Option Value} {C B : Addr}
theorem f_grace (D : DefIn K "grace_of" st_grace_of) (M : MG K mg) : FnB P w K mg "grace_of" ["plan"] 1 (spGrace K) := by
  refine D.fn M sc_grace_of bd_grace_of (fun vs H Q E h => ?_) (fun f base cdv A outer s H vs Q E hr h => ?_)
  · obtain ⟨p, pl, rfl, _⟩ := h
    rfl
  · obtain ⟨p, pl, rfl, hp, k⟩ := h
    refine ⟨_, (pss_one (ps_ret (pe_ix ix_tup (pv 0) (pe_un uNeg pe_int) (fun _ _ => rfl)))), ?_⟩
    exact ⟨_, rfl, _, rfl, p, _, -1, _, rfl, rfl, hp, row_m1 pl, k⟩
theorem f_chk (D : DefIn K "check_plan" st_check_plan) (M : MG K mg) (G_MOST_STEPS : GlobIs K "MOST_STEPS" (.int 100)) (F_length_of : FnB P w K mg "length_of" ["plan"] 1 (spLen K)) (F_step_of : FnB P w K mg "step_of" ["plan"] 2 (spStp K))
    (F_grace_of : FnB P w K mg "grace_of" ["plan"] 1 (spGrace K)) : FnB P w K mg "check_plan" ["plan"] 3 (spChk K) := by
  refine D.fn M sc_check_plan bd_check_plan (fun vs H Q E h => ?_) (fun f base cdv A outer s H vs Q E hr h => ?_)
  · obtain ⟨p, pl, rfl, _⟩ := h
    rfl
  · obtain ⟨p, pl, rfl, hp, hb, k⟩ := h
    obtain ⟨b1, b2, b3, b4⟩ := bad_no hb
    refine ⟨_, (pss_cons (pset (i := 1) sc_check_plan.nd rfl (Or.inl rfl) (pcallF F_length_of (hr.mono (by decide)) rfl (pc (pv 0) pa_nil)))
      (pss_cons (pset (i := 2) sc_check_plan.nd rfl (Or.inl rfl) (pcallF F_step_of (hr.mono (by decide)) rfl (pc (pv 0) pa_nil)))
      (pss_cons (ps_if (pt_cmpR oLt (pv 1) pe_int (nomark _)) (pss_one ps_never) pss_nil)
      (pss_cons (ps_if (pt_cmpR oLt (pv 2) pe_int (nomark _)) (pss_one ps_never) pss_nil)
      (pss_cons (ps_if (pt_cmpR oLt (pcallF F_grace_of (hr.mono (by decide)) rfl (pc (pv 0) pa_nil)) pe_int (nomark _)) (pss_one ps_never) pss_nil)
      (pss_one (ps_if (pt_cmpR oGt (pv 1) (pe_op oMul (pe_globC G_MOST_STEPS M rfl) (pv 2)) (nomark _)) (pss_one ps_never) pss_nil))))))), ?_⟩
    refine ⟨_, rfl, p, pl, rfl, hp, _, rfl, p, pl, rfl, hp, ?_⟩
    refine ⟨_, rfl, _, _, rfl, rfl, _, rfl, ?_⟩
    refine ite2 (fun h => absurd (of_decide_eq_true h) b1) (fun _ => ?_)
    refine ⟨_, rfl, _, _, rfl, rfl, _, rfl, ?_⟩
    refine ite2 (fun h => absurd (of_decide_eq_true h) b2) (fun _ => ?_)
    refine ⟨_, rfl, p, pl, rfl, hp, _, _, rfl, rfl, _, rfl, ?_⟩
    refine ite2 (fun h => absurd (of_decide_eq_true h) b3) (fun _ => ?_)
    refine ⟨_, rfl, _, rfl, _, _, rfl, rfl, .inl ⟨by decide, by decide⟩, _, _, rfl, rfl, _, rfl, ?_⟩
    exact ite2 (fun h => absurd (of_decide_eq_true h) b4) (fun _ => k)
theorem f_init (D : MethIn K C "__init__" "Desk.__init__" st_Desk___init__) (T : DeskIn K C) (F_check_plan : FnB P w K mg "check_plan" ["plan"] 3 (spChk K)) : MethB P w K mg CX0 C "__init__" ["self", "plan"] 4 (spInit K C) := by
  refine D.fn sc_Desk___init__ bd_Desk___init__ (fun vs H Q E h => ?_) (fun f base cdv A outer s H vs Q E hr h => ?_)
  · obtain ⟨x, dx, p, pl, rfl, _⟩ := h
    rfl
  · obtain ⟨x, dx, p, pl, rfl, hx, hp, hb, k⟩ := h
    refine ⟨_, (pss_cons (pexpr (pcallF F_check_plan (hr.mono (by decide)) rfl (pc (pv 1) pa_nil)))
      (pss_cons (ps_fld (pv 0) (pv 1) rfl)
      (pss_cons (ps_fld (pv 0) pe_non rfl)
      (pss_cons (ps_fld (pv 0) pe_dnewT rfl)
      (pss_one (ps_fld (pv 0) (pe_lst pa_nil) rfl)))))), ?_⟩
    refine ⟨_, rfl, p, pl, rfl, hp, hb, ?_⟩
    refine ⟨_, rfl, _, rfl, x, C, dx, [], rfl, hx, T.cl.cl, T.nP, (by show 0 < 1000; decide), ?_⟩
    refine ⟨_, rfl, x, C, dx, _, rfl, upd_same, T.cl.cl, T.nM, (by show 1 < 1000; decide), ?_⟩
    intro d hd
    have nd : x ≠ d := ne_of_none upd_same hd
    have hd0 : H d = none := by rw [upd_ne nd.symm, upd_ne nd.symm] at hd; exact hd
    refine ⟨_, rfl, x, C, dx, _, rfl, (by rw [upd_ne nd]; exact upd_same), T.cl.cl, T.nW, (by rw [put0, put1]; show 2 < 1000; decide), ?_⟩
    refine ⟨(by show 0 ≤ sizeLine; decide), fun m hm => ?_⟩
    have nm : x ≠ m := ne_of_none upd_same hm
    have ndm : d ≠ m := by
      intro z; subst z
      rw [upd_ne nd.symm, upd_same] at hm; cases hm
    have hm0 : H m = none := by rw [upd_ne nm.symm, upd_ne ndm.symm, upd_ne nm.symm, upd_ne nm.symm] at hm; exact hm
    refine ⟨_, rfl, x, C, dx, _, rfl, (by rw [upd_ne nm]; exact upd_same), T.cl.cl, T.nS, (by rw [put0, put1, put2]; show 3 < 1000; decide), ?_⟩
    refine k d m _ hd0 hm0 (by rw [put0, put1, put2, put3]; exact upd_same) (by rw [upd_ne nd.symm, upd_ne ndm, upd_ne nd.symm, upd_same]) (by rw [upd_ne nm.symm, upd_same]) fun b o e hb => ?_
    rw [upd_ne hb, upd_ne (ne_of_none e hm0), upd_ne hb, upd_ne (ne_of_none e hd0), upd_ne hb, upd_ne hb]
    exact e
end
end K2
namespace K2
open PySem PySem.Spec PyProof.Rows L2 K1
section
variable {P : Program} {w : World} {K : PySem.W.Frag} {mg : Str → Option Value} {C B : Addr}
theorem x_chk (D : DefIn K "check_plan" st_check_plan) (M : MG K mg) (G_MOST_STEPS : GlobIs K "MOST_STEPS" (.int 100)) (E_BadPlan : ExcIn K "BadPlan" B) (F_length_of : FnB P w K mg "length_of" ["plan"] 1 (spLen K)) (F_step_of : FnB P w K mg "step_of" ["plan"] 2 (spStp K))
    (F_grace_of : FnB P w K mg "grace_of" ["plan"] 1 (spGrace K)) : FnX P w K mg "check_plan" ["plan"] 3 (spChkX K B) := by
  refine D.fnX M sc_check_plan bd_check_plan (fun vs H Q E h => ?_) (fun f base cdv A outer s H vs Q E hr h => ?_)
  · obtain ⟨p, pl, rfl, _⟩ := h
    rfl
  · obtain ⟨p, pl, rfl, hp, hb, k⟩ := h
    have hb' := bad_yes hb
    refine ⟨_, (pss_cons (pset (i := 1) sc_check_plan.nd rfl (Or.inl rfl) (pcallF F_length_of (hr.mono (by decide)) rfl (pc (pv 0) pa_nil)))
      (pss_cons (pset (i := 2) sc_check_plan.nd rfl (Or.inl rfl) (pcallF F_step_of (hr.mono (by decide)) rfl (pc (pv 0) pa_nil)))
      (pss_cons (ps_if (pt_cmpR oLt (pv 1) pe_int (nomark _)) (pss_one (ps_raise raisesX rfl rfl (M.is _ _ E_BadPlan.at_) E_BadPlan.exc PySem.F.excBase_ValueError (pc pe_str pa_nil))) pss_nil)
      (pss_cons (ps_if (pt_cmpR oLt (pv 2) pe_int (nomark _)) (pss_one (ps_raise raisesX rfl rfl (M.is _ _ E_BadPlan.at_) E_BadPlan.exc PySem.F.excBase_ValueError (pc pe_str pa_nil))) pss_nil)
      (pss_cons (ps_if (pt_cmpR oLt (pcallF F_grace_of (hr.mono (by decide)) rfl (pc (pv 0) pa_nil)) pe_int (nomark _)) (pss_one (ps_raise raisesX rfl rfl (M.is _ _ E_BadPlan.at_) E_BadPlan.exc PySem.F.excBase_ValueError (pc pe_str pa_nil))) pss_nil)
      (pss_one (ps_if (pt_cmpR oGt (pv 1) (pe_op oMul (pe_globC G_MOST_STEPS M rfl) (pv 2)) (nomark _)) (pss_one (ps_raise raisesX rfl rfl (M.is _ _ E_BadPlan.at_) E_BadPlan.exc PySem.F.excBase_ValueError (pc pe_str pa_nil))) pss_nil))))))), ?_⟩
    refine ⟨_, rfl, p, pl, rfl, hp, _, rfl, p, pl, rfl, hp, ?_⟩
    refine ⟨_, rfl, _, _, rfl, rfl, _, rfl, ?_⟩
    refine ite2 (fun h => ⟨by show 1 ≤ sizeLine; decide, k⟩) (fun h1 => ?_)
    refine ⟨_, rfl, _, _, rfl, rfl, _, rfl, ?_⟩
    refine ite2 (fun h => ⟨by show 1 ≤ sizeLine; decide, k⟩) (fun h2 => ?_)
    refine ⟨_, rfl, p, pl, rfl, hp, _, _, rfl, rfl, _, rfl, ?_⟩
    refine ite2 (fun h => ⟨by show 1 ≤ sizeLine; decide, k⟩) (fun h3 => ?_)
    refine ⟨_, rfl, _, rfl, _, _, rfl, rfl, .inl ⟨by decide, by decide⟩, _, _, rfl, rfl, _, rfl, ?_⟩
    refine ite2 (fun h => ⟨by show 1 ≤ sizeLine; decide, k⟩) (fun h4 => ?_)
    rw [decide_eq_true_iff] at h1 h2 h3 h4
    rcases hb' with z | z | z | z
    · exact absurd z h1
    · exact absurd z h2
    · exact absurd z h3
    · exact absurd z h4
theorem x_init (D : MethIn K C "__init__" "Desk.__init__" st_Desk___init__) (M : MG K mg) (X_check_plan : FnX P w K mg "check_plan" ["plan"] 3 (spChkX K B)) : MethB P w K mg (CXE P w) C "__init__" ["self", "plan"] 4 (spInitX K C B) := by
  refine D.fnX sc_Desk___init__ bd_Desk___init__ (fun vs H Q E h => ?_) (fun f base cdv A outer s H vs Q E hr h => ?_)
  · obtain ⟨x, dx, p, pl, rfl, _⟩ := h
    rfl
  · obtain ⟨x, dx, p, pl, rfl, hx, hp, hb, k⟩ := h
    refine ⟨_, (pss_cons (pexpr (pe_callX X_check_plan passX (hr.mono (by decide)) rfl (pc (pv 1) pa_nil))) pss_never), ?_⟩
    exact ⟨_, rfl, p, pl, rfl, hp, hb, k⟩
end
end K2
namespace K2
open PySem PySem.Spec PyProof.Rows L2 K1
def spRows0 (C : Addr) : Sp := fun vs H Q _ => ∃ (x dx p d m : Addr) (mk : V), vs = [.ref x] ∧ H x = some (.ins C dx (flds p mk d m)) ∧ H d = some (.dT []) ∧ ∀ (l : Addr) (H' : Hp), Same H H' → H' l = some (.lst []) → Q (.ref l) H'
def spMake0 (K : PySem.W.Frag) (C : Addr) : Sp := fun vs H Q _ => ∃ (p l : Addr) (pl : Pl), vs = [.ref p, .ref l] ∧ SqT K H p pl.row ∧ bad pl = false ∧ SqL K H l [] ∧
  ∀ (x dx d m : Addr) (H' : Hp), Same H H' → H' x = some (.ins C dx (flds p .non d m)) → H' d = some (.dT []) → H' m = some (.lst []) → Q (.ref x) H'
def spGood (K : PySem.W.Frag) : Sp := fun vs H Q _ => ∃ (p l : Addr) (pl : Pl), vs = [.ref p, .ref l] ∧ SqT K H p pl.row ∧ bad pl = false ∧ SqL K H l [] ∧ ∀ (v : V) (H' : Hp), Same H H' → Q v H'
def spBad (K : PySem.W.Frag) (B : Addr) : Sp := fun vs H _ E => ∃ (p l : Addr) (pl : Pl), vs = [.ref p, .ref l] ∧ SqT K H p pl.row ∧ bad pl = true ∧ SqL K H l [] ∧ ∀ H' : Hp, Same H H' → E (.ref B) none H'
theorem same_new2 {H : Hp} {x dx : Addr} {o u : HO} (nx : H x = none) (nd : H dx = none) : Same H (upd (upd H dx u) x o) := fun b v e => by
  rw [upd_ne (ne_of_none e nx), upd_ne (ne_of_none e nd)]
  exact e
theorem nm_rows (p d m : Addr) (v : V) : (flds p v d m).lookup ("rows" : Str) = none := fNo p d m v (by decide +kernel) (by decide +kernel) (by decide +kernel) (by decide +kernel)
section
variable {P : Program} {w : World} {K : PySem.W.Frag} {mg : Str → Option Value} {C B : Addr}
theorem f_rows0 (D : MethIn K C "rows" "Desk.rows" st_Desk_rows) (M : MG K mg) (Bi : K1.Bi K) (T : DeskIn K C) : MethB P w K mg CX0 C "rows" ["self"] 1 (spRows0 C) := by
  refine D.fn sc_Desk_rows bd_Desk_rows (fun vs H Q E h => ?_) (fun f base cdv A outer s H vs Q E hr h => ?_)
  · obtain ⟨x, dx, p, d, m, mk, rfl, _⟩ := h
    rfl
  · obtain ⟨x, dx, p, d, m, mk, rfl, hx, hd, k⟩ := h
    have hu : (A.deeper (envOfC "Desk.rows" (defScope st_Desk_rows) s.heap.objs.size f cdv)).units + 64 < cLine := hr.units
    have B := Bi
    refine ⟨_, (pss_one (ps_ret (pcallB (call_sorted hu) rfl (M.no _ B.b_sorted) bt_sorted (pc (pe_thaw (pe_comp (NY := ["key", "tally"]) (js := [none, none]) rfl rfl (by with_unfolding_all rfl) (by repeat first | exact ClIn.nil | refine ClIn.cons rfl ?_) (.own (.own .nil)) (pi_ditems (pe_bm0 PySem.F.plainAttrs_dict PySem.F.slot_dict_items PySem.F.type_dict_items mt_items (pe_fld (pv 0) rfl))) (fun _ _ _ _ _ => ⟨(pg_tupK (n := 2) (K := K) rfl rfl (pgs_cons (pg_name (i := 0) (show (["key", "tally"] : List Str).Nodup from by decide +kernel) rfl (Or.inl rfl)) (pgs_cons (pg_name (i := 1) (show (["key", "tally"] : List Str).Nodup from by decide +kernel) rfl (Or.inl rfl)) pgs_nil))), pif_nil, (pe_op (opK_catT (K := K) rfl) (pv 0) (pv 1))⟩))) pa_nil)))), ?_⟩
    refine ⟨d, .dT [], hd, True.intro, _, rfl, x, C, dx, _, _, rfl, hx, T.cl.cl, T.nW, fW p d m mk, .inr (.inr (.inl ⟨rfl, .inr ⟨[], hd⟩⟩)), d, [], rfl, rfl, hd, fun v hv => ⟨v, d, [], rfl, upd_same, (by rw [upd_ne (ne_of_none hd hv)]; exact hd), fun o => ?_⟩⟩
    intro l hl
    have ndv : d ≠ v := ne_of_none hd hv
    have ndl : d ≠ l := ne_of_none upd_same hl
    refine comp_it (n := 0) (fun i ys H' => i = 0 ∧ ys = [] ∧ H' = upd (upd (upd H v (.ext (isView v d))) d (.frz o (.dT []))) l (.lst [])) ⟨rfl, rfl, rfl⟩ ?_ ?_ ?_ ?_ ?_
    · rintro i ys H' ⟨_, rfl, rfl⟩
      exact upd_same
    · intro i ys H' hi
      exact absurd hi (Nat.not_lt_zero _)
    · rintro ys H' ⟨_, _, rfl⟩
      exact ⟨[], by rw [upd_ne ndl, upd_same], Nat.le_refl _⟩
    · intro i x ys H1 H2 hi
      exact absurd hi (Nat.not_lt_zero _)
    · rintro ys H' ⟨_, rfl, rfl⟩
      refine ⟨o, by rw [upd_ne ndl, upd_same], l, [], [], .int, rfl, SqL.of (by rw [upd_ne ndl.symm, upd_same]), .nil, (fun _ z => nomatch z), rfl, (by decide), Nat.zero_le _, fun l2 zs es hl2 dn pm _ => ?_⟩
      have e0 : es = [] := List.Perm.eq_nil pm
      subst e0
      cases dn
      refine k l2 _ (fun b u e => ?_) upd_same
      have hl0 : ∀ {c : Addr} {z : HO}, H c = some z → c ≠ l2 := fun {c z} e' q => by
        subst q
        by_cases hc : c = d
        · subst hc
          rw [upd_same] at hl2
          cases hl2
        · have nl : c ≠ l := by
            intro q; subst q
            rw [upd_ne hc, upd_ne (ne_of_none e' hv), e'] at hl
            cases hl
          rw [upd_ne hc, upd_ne nl, upd_ne hc, upd_ne (ne_of_none e' hv), e'] at hl2
          cases hl2
      rw [upd_ne (hl0 e)]
      by_cases hb : b = d
      · subst hb
        rw [upd_same]
        rw [hd] at e
        exact e
      · have nl : b ≠ l := by
          intro q; subst q
          rw [upd_ne hb, upd_ne (ne_of_none e hv), e] at hl
          cases hl
        rw [upd_ne hb, upd_ne nl, upd_ne hb, upd_ne (ne_of_none e hv)]
        exact e
/-- Desk(plan) and an empty list of deeds -/
theorem f_behind (D : DefIn K "desk_behind" st_desk_behind) (M : MG K mg) (T : DeskIn K C) (F_Desk___init__ : MethB P w K mg CX0 C "__init__" ["self", "plan"] 4 (spInit K C)) : FnB P w K mg "desk_behind" ["plan", "deeds"] 6 (spMake0 K C) := by
  have CL_Desk := T.cl
  refine D.fn M sc_desk_behind bd_desk_behind (fun vs H Q E h => ?_) (fun f base cdv A outer s H vs Q E hr h => ?_)
  · obtain ⟨p, l, pl, rfl, _⟩ := h
    rfl
  · obtain ⟨p, l, pl, rfl, hp, hb, hl, k⟩ := h
    refine ⟨_, (pss_cons (pset (i := 2) sc_desk_behind.nd rfl (Or.inl rfl) (pe_makeB CL_Desk M F_Desk___init__ pass0 (hr.mono (by decide)) rfl (pc (pv 0) pa_nil)))
      (pss_cons (ps_for PassesOwn.never rfl (pi_list (pv 1)) (pg_name (i := 3) sc_desk_behind.nd rfl (Or.inl rfl))
      (pss_one (pexpr pe_never)))
      (pss_one (ps_ret (pv 2))))), ?_⟩
    refine ⟨_, rfl, fun x dx nx ndx nex => ?_⟩
    have s0 := same_new2 (o := .ins C dx []) (u := .own x) nx ndx
    refine ⟨x, dx, p, pl, rfl, upd_same, s0.seqT hp, hb, fun d m H1 hd hm h1 h2 h3 kp => ⟨rfl, ?_⟩⟩
    have s1 : Same H H1 := fun b o e => kp b o (s0 b o e) (ne_of_none e nx)
    refine ⟨_, rfl, l, rfl, ⟨_, s1.seq hl⟩, for_list (K := K) (a := l) (xs := []) (fun i σ H2 => ∃ v, σ = [some (.ref p), some (.ref l), some (.ref x), v] ∧ H2 = H1) ⟨_, rfl, rfl⟩ (fun i σ H2 _ ⟨_, _, e⟩ => by rw [e]; exact s1.seq hl) (fun i y σ H2 hi => by simp at hi) ?_⟩
    rintro σ H2 ⟨v, rfl, rfl⟩
    exact ⟨_, rfl, k x dx d m _ s1 h1 h2 h3⟩
theorem x_behind (D : DefIn K "desk_behind" st_desk_behind) (M : MG K mg) (T : DeskIn K C) (X_Desk___init__ : MethB P w K mg (CXE P w) C "__init__" ["self", "plan"] 4 (spInitX K C B)) : FnX P w K mg "desk_behind" ["plan", "deeds"] 6 (spBad K B) := by
  have CL_Desk := T.cl
  refine D.fnX M sc_desk_behind bd_desk_behind (fun vs H Q E h => ?_) (fun f base cdv A outer s H vs Q E hr h => ?_)
  · obtain ⟨p, l, pl, rfl, _⟩ := h
    rfl
  · obtain ⟨p, l, pl, rfl, hp, hb, hl, k⟩ := h
    refine ⟨_, (pss_cons (pset (i := 2) sc_desk_behind.nd rfl (Or.inl rfl) (pe_makeB CL_Desk M X_Desk___init__ passX (hr.mono (by decide)) rfl (pc (pv 0) pa_nil))) pss_never), ?_⟩
    refine ⟨_, rfl, fun x dx nx ndx nex => ?_⟩
    have s0 := same_new2 (o := .ins C dx []) (u := .own x) nx ndx
    exact ⟨x, dx, p, pl, rfl, upd_same, s0.seqT hp, hb, k _ s0⟩
theorem f_answers (D : DefIn K "answers" st_answers) (M : MG K mg) (T : DeskIn K C) (F_Desk___init__ : MethB P w K mg CX0 C "__init__" ["self", "plan"] 4 (spInit K C)) : FnB P w K mg "answers" ["plan", "deeds"] 6 (spGood K) := by
  have CL_Desk := T.cl
  refine D.fn M sc_answers bd_answers (fun vs H Q E h => ?_) (fun f base cdv A outer s H vs Q E hr h => ?_)
  · obtain ⟨p, l, pl, rfl, _⟩ := h
    rfl
  · obtain ⟨p, l, pl, rfl, hp, hb, hl, k⟩ := h
    refine ⟨_, (pss_cons (pset (i := 2) sc_answers.nd rfl (Or.inr rfl) (pe_makeB CL_Desk M F_Desk___init__ pass0 (hr.mono (by decide)) rfl (pc (pv 0) pa_nil)))
      (pss_one (ps_ret (pe_comp (NY := ["deed", "desk"]) (js := [none, some 2]) rfl rfl (by with_unfolding_all rfl) (by repeat first | exact ClIn.nil | refine ClIn.cons rfl ?_) (.own (.out rfl rfl (.inl rfl) .nil)) (pi_list (pv 1)) (fun _ _ _ _ _ => ⟨(pg_name (i := 0) (show (["deed", "desk"] : List Str).Nodup from by decide +kernel) rfl (Or.inl rfl)), pif_nil, pe_never⟩))))), ?_⟩
    refine ⟨_, rfl, fun x dx nx ndx nex => ?_⟩
    have s0 := same_new2 (o := .ins C dx []) (u := .own x) nx ndx
    refine ⟨x, dx, p, pl, rfl, upd_same, s0.seqT hp, hb, fun d m H1 hd hm h1 h2 h3 kp => ⟨rfl, ?_⟩⟩
    have s1 : Same H H1 := fun b o e => kp b o (s0 b o e) (ne_of_none e nx)
    refine ⟨_, rfl, l, rfl, ⟨_, s1.seq hl⟩, fun r hr' => ?_⟩
    refine comp_lR (K := K) (a := l) (xs := []) (fun i ys H2 => ys = [] ∧ H2 = upd H1 r (.lst [])) ⟨rfl, rfl⟩ (by rintro i ys H2 ⟨rfl, rfl⟩; exact upd_same) (fun i ys H2 _ ⟨_, e⟩ => by rw [e]; exact (Same.new hr').seq (s1.seq hl)) (fun i y ys H2 hi => by simp at hi) ?_
    rintro ys H2 ⟨rfl, rfl⟩
    exact k _ _ (s1.trans (Same.new hr'))
theorem x_answers (D : DefIn K "answers" st_answers) (M : MG K mg) (T : DeskIn K C) (X_Desk___init__ : MethB P w K mg (CXE P w) C "__init__" ["self", "plan"] 4 (spInitX K C B)) : FnX P w K mg "answers" ["plan", "deeds"] 6 (spBad K B) := by
  have CL_Desk := T.cl
  refine D.fnX M sc_answers bd_answers (fun vs H Q E h => ?_) (fun f base cdv A outer s H vs Q E hr h => ?_)
  · obtain ⟨p, l, pl, rfl, _⟩ := h
    rfl
  · obtain ⟨p, l, pl, rfl, hp, hb, hl, k⟩ := h
    refine ⟨_, (pss_cons (pset (i := 2) sc_answers.nd rfl (Or.inr rfl) (pe_makeB CL_Desk M X_Desk___init__ passX (hr.mono (by decide)) rfl (pc (pv 0) pa_nil))) pss_never), ?_⟩
    refine ⟨_, rfl, fun x dx nx ndx nex => ?_⟩
    have s0 := same_new2 (o := .ins C dx []) (u := .own x) nx ndx
    exact ⟨x, dx, p, pl, rfl, upd_same, s0.seqT hp, hb, k _ s0⟩
theorem f_standing (D : DefIn K "standing" st_standing) (M : MG K mg) (T : DeskIn K C) (F_desk_behind : FnB P w K mg "desk_behind" ["plan", "deeds"] 6 (spMake0 K C)) (F_Desk_rows : MethB P w K mg CX0 C "rows" ["self"] 1 (spRows0 C)) : FnB P w K mg "standing" ["plan", "deeds"] 7 (spGood K) := by
  have CL_Desk := T.cl
  refine D.fn M sc_standing bd_standing (fun vs H Q E h => ?_) (fun f base cdv A outer s H vs Q E hr h => ?_)
  · obtain ⟨p, l, pl, rfl, _⟩ := h
    rfl
  · obtain ⟨p, l, pl, rfl, hp, hb, hl, k⟩ := h
    refine ⟨_, (pss_cons (pset (i := 2) sc_standing.nd rfl (Or.inr rfl) (pcallF F_desk_behind (hr.mono (by decide)) rfl (pc (pv 0) (pc (pv 1) pa_nil))))
      (pss_one (ps_ret (pe_comp (NY := ["row", "desk"]) (js := [none, some 2]) rfl rfl (by with_unfolding_all rfl) (by repeat first | exact ClIn.nil | refine ClIn.cons rfl ?_) (.own (.out rfl rfl (.inl rfl) .nil)) (pi_list (pe_methB0 (pv 2) CL_Desk.cl F_Desk_rows pass0 (hr.mono (by decide)))) (fun _ _ _ _ _ => ⟨(pg_name (i := 0) (show (["row", "desk"] : List Str).Nodup from by decide +kernel) rfl (Or.inl rfl)), (pif_one pt_never), (pv 0)⟩))))), ?_⟩
    refine ⟨_, rfl, _, rfl, p, l, pl, rfl, hp, hb, hl, fun x dx d m H1 s1 h1 h2 h3 => ?_⟩
    refine ⟨_, rfl, x, dx, _, rfl, h1, nm_rows p d m .non, x, dx, p, d, m, .non, rfl, h1, h2, fun l2 H2 s2 hl2 => ?_⟩
    refine ⟨l2, rfl, ⟨_, SqL.of hl2⟩, fun r hr' => ?_⟩
    refine comp_lR (K := K) (a := l2) (xs := []) (fun i ys H3 => ys = [] ∧ H3 = upd H2 r (.lst [])) ⟨rfl, rfl⟩ (by rintro i ys H2 ⟨rfl, rfl⟩; exact upd_same) (fun i ys H3 _ ⟨_, e⟩ => by rw [e]; exact (Same.new hr').seq (SqL.of hl2)) (fun i y ys H2 hi => by simp at hi) ?_
    rintro ys H3 ⟨rfl, rfl⟩
    exact k _ _ (s1.trans (s2.trans (Same.new hr')))
theorem f_kept (D : DefIn K "kept_after" st_kept_after) (M : MG K mg) (T : DeskIn K C) (F_desk_behind : FnB P w K mg "desk_behind" ["plan", "deeds"] 6 (spMake0 K C)) (F_Desk_rows : MethB P w K mg CX0 C "rows" ["self"] 1 (spRows0 C)) : FnB P w K mg "kept_after" ["plan", "deeds"] 7 (spGood K) := by
  have CL_Desk := T.cl
  refine D.fn M sc_kept_after bd_kept_after (fun vs H Q E h => ?_) (fun f base cdv A outer s H vs Q E hr h => ?_)
  · obtain ⟨p, l, pl, rfl, _⟩ := h
    rfl
  · obtain ⟨p, l, pl, rfl, hp, hb, hl, k⟩ := h
    refine ⟨_, (pss_cons (pset (i := 2) sc_kept_after.nd rfl (Or.inr rfl) (pcallF F_desk_behind (hr.mono (by decide)) rfl (pc (pv 0) (pc (pv 1) pa_nil))))
      (pss_one (ps_ret (pe_comp (NY := ["row", "desk"]) (js := [none, some 2]) rfl rfl (by with_unfolding_all rfl) (by repeat first | exact ClIn.nil | refine ClIn.cons rfl ?_) (.own (.out rfl rfl (.inl rfl) .nil)) (pi_list (pe_methB0 (pv 2) CL_Desk.cl F_Desk_rows pass0 (hr.mono (by decide)))) (fun _ _ _ _ _ => ⟨(pg_name (i := 0) (show (["row", "desk"] : List Str).Nodup from by decide +kernel) rfl (Or.inl rfl)), (pif_one pt_never), (pe_op (opK_catT (K := K) rfl) (pv 0) (pe_tup (pc pe_never pa_nil)))⟩))))), ?_⟩
    refine ⟨_, rfl, _, rfl, p, l, pl, rfl, hp, hb, hl, fun x dx d m H1 s1 h1 h2 h3 => ?_⟩
    refine ⟨_, rfl, x, dx, _, rfl, h1, nm_rows p d m .non, x, dx, p, d, m, .non, rfl, h1, h2, fun l2 H2 s2 hl2 => ?_⟩
    refine ⟨l2, rfl, ⟨_, SqL.of hl2⟩, fun r hr' => ?_⟩
    refine comp_lR (K := K) (a := l2) (xs := []) (fun i ys H3 => ys = [] ∧ H3 = upd H2 r (.lst [])) ⟨rfl, rfl⟩ (by rintro i ys H2 ⟨rfl, rfl⟩; exact upd_same) (fun i ys H3 _ ⟨_, e⟩ => by rw [e]; exact (Same.new hr').seq (SqL.of hl2)) (fun i y ys H2 hi => by simp at hi) ?_
    rintro ys H3 ⟨rfl, rfl⟩
    exact k _ _ (s1.trans (s2.trans (Same.new hr')))
theorem f_missed (D : DefIn K "missed" st_missed) (M : MG K mg) (T : DeskIn K C) (F_desk_behind : FnB P w K mg "desk_behind" ["plan", "deeds"] 6 (spMake0 K C)) : FnB P w K mg "missed" ["plan", "deeds"] 7 (spGood K) := by
  refine D.fn M sc_missed bd_missed (fun vs H Q E h => ?_) (fun f base cdv A outer s H vs Q E hr h => ?_)
  · obtain ⟨p, l, pl, rfl, _⟩ := h
    rfl
  · obtain ⟨p, l, pl, rfl, hp, hb, hl, k⟩ := h
    refine ⟨_, (pss_one (ps_ret (pe_fld (pcallF F_desk_behind (hr.mono (by decide)) rfl (pc (pv 0) (pc (pv 1) pa_nil))) rfl))), ?_⟩
    exact ⟨_, rfl, _, rfl, p, l, pl, rfl, hp, hb, hl, fun x dx d m H1 s1 h1 h2 h3 => ⟨x, C, dx, _, _, rfl, h1, T.cl.cl, T.nS, fS p d m .non, k _ _ s1⟩⟩
theorem f_inorder (D : DefIn K "in_order" st_in_order) (M : MG K mg) (T : DeskIn K C) (G_EVENT : GlobIs K "EVENT" (.str "event")) (F_desk_behind : FnB P w K mg "desk_behind" ["plan", "deeds"] 6 (spMake0 K C)) (F_Desk_rows : MethB P w K mg CX0 C "rows" ["self"] 1 (spRows0 C)) : FnB P w K mg "in_order" ["plan", "events"] 7 (spGood K) := by
  have CL_Desk := T.cl
  refine D.fn M sc_in_order bd_in_order (fun vs H Q E h => ?_) (fun f base cdv A outer s H vs Q E hr h => ?_)
  · obtain ⟨p, l, pl, rfl, _⟩ := h
    rfl
  · obtain ⟨p, l, pl, rfl, hp, hb, hl, k⟩ := h
    refine ⟨_, (pss_one (ps_ret (pe_methB0 (pcallF F_desk_behind (hr.mono (by decide)) rfl (pc (pv 0) (pc (pe_comp (NY := ["event"]) (js := [none]) rfl rfl (by with_unfolding_all rfl) (by repeat first | exact ClIn.nil | refine ClIn.cons rfl ?_) (.own .nil) (pi_list (pv 1)) (fun _ _ _ _ _ => ⟨(pg_name (i := 0) (show (["event"] : List Str).Nodup from by decide +kernel) rfl (Or.inl rfl)), pif_nil, (pe_op (opK_catT (K := K) rfl) (pe_tup (pc (pe_globC G_EVENT M rfl) pa_nil)) (pv 0))⟩)) pa_nil))) CL_Desk.cl F_Desk_rows pass0 (hr.mono (by decide))))), ?_⟩
    refine ⟨_, rfl, _, rfl, l, rfl, ⟨_, hl⟩, fun r hr' => ?_⟩
    refine comp_lR (K := K) (a := l) (xs := []) (fun i ys H3 => ys = [] ∧ H3 = upd H r (.lst [])) ⟨rfl, rfl⟩ (by rintro i ys H2 ⟨rfl, rfl⟩; exact upd_same) (fun i ys H3 _ ⟨_, e⟩ => by rw [e]; exact (Same.new hr').seq hl) (fun i y ys H2 hi => by simp at hi) ?_
    rintro ys H3 ⟨rfl, rfl⟩
    refine ⟨p, r, pl, rfl, (Same.new hr').seqT hp, hb, SqL.of upd_same, fun x dx d m H1 s1 h1 h2 h3 => ?_⟩
    exact ⟨x, dx, _, rfl, h1, nm_rows p d m .non, x, dx, p, d, m, .non, rfl, h1, h2, fun l2 H2 s2 hl2 => k _ _ ((Same.new hr').trans (s1.trans s2))⟩
theorem x_standing (D : DefIn K "standing" st_standing) (M : MG K mg) (X_desk_behind : FnX P w K mg "desk_behind" ["plan", "deeds"] 6 (spBad K B)) : FnX P w K mg "standing" ["plan", "deeds"] 7 (spBad K B) := by
  refine D.fnX M sc_standing bd_standing (fun vs H Q E h => ?_) (fun f base cdv A outer s H vs Q E hr h => ?_)
  · obtain ⟨p, l, pl, rfl, _⟩ := h
    rfl
  · obtain ⟨p, l, pl, rfl, hp, hb, hl, k⟩ := h
    exact ⟨_, (pss_cons (pset (i := 2) sc_standing.nd rfl (Or.inr rfl) (pe_callX X_desk_behind passX (hr.mono (by decide)) rfl (pc (pv 0) (pc (pv 1) pa_nil)))) pss_never), _, rfl, _, rfl, p, l, pl, rfl, hp, hb, hl, k⟩
theorem x_kept (D : DefIn K "kept_after" st_kept_after) (M : MG K mg) (X_desk_behind : FnX P w K mg "desk_behind" ["plan", "deeds"] 6 (spBad K B)) : FnX P w K mg "kept_after" ["plan", "deeds"] 7 (spBad K B) := by
  refine D.fnX M sc_kept_after bd_kept_after (fun vs H Q E h => ?_) (fun f base cdv A outer s H vs Q E hr h => ?_)
  · obtain ⟨p, l, pl, rfl, _⟩ := h
    rfl
  · obtain ⟨p, l, pl, rfl, hp, hb, hl, k⟩ := h
    exact ⟨_, (pss_cons (pset (i := 2) sc_kept_after.nd rfl (Or.inr rfl) (pe_callX X_desk_behind passX (hr.mono (by decide)) rfl (pc (pv 0) (pc (pv 1) pa_nil)))) pss_never), _, rfl, _, rfl, p, l, pl, rfl, hp, hb, hl, k⟩
theorem x_missed (D : DefIn K "missed" st_missed) (M : MG K mg) (X_desk_behind : FnX P w K mg "desk_behind" ["plan", "deeds"] 6 (spBad K B)) : FnX P w K mg "missed" ["plan", "deeds"] 7 (spBad K B) := by
  refine D.fnX M sc_missed bd_missed (fun vs H Q E h => ?_) (fun f base cdv A outer s H vs Q E hr h => ?_)
  · obtain ⟨p, l, pl, rfl, _⟩ := h
    rfl
  · obtain ⟨p, l, pl, rfl, hp, hb, hl, k⟩ := h
    exact ⟨_, (pss_one (ps_ret (pe_fld (pe_callX X_desk_behind passX (hr.mono (by decide)) rfl (pc (pv 0) (pc (pv 1) pa_nil))) rfl))), _, rfl, _, rfl, p, l, pl, rfl, hp, hb, hl, k⟩
theorem x_inorder (D : DefIn K "in_order" st_in_order) (M : MG K mg) (T : DeskIn K C) (G_EVENT : GlobIs K "EVENT" (.str "event")) (X_desk_behind : FnX P w K mg "desk_behind" ["plan", "deeds"] 6 (spBad K B)) (F_Desk_rows : MethB P w K mg CX0 C "rows" ["self"] 1 (spRows0 C)) : FnX P w K mg "in_order" ["plan", "events"] 7 (spBad K B) := by
  have CL_Desk := T.cl
  refine D.fnX M sc_in_order bd_in_order (fun vs H Q E h => ?_) (fun f base cdv A outer s H vs Q E hr h => ?_)
  · obtain ⟨p, l, pl, rfl, _⟩ := h
    rfl
  · obtain ⟨p, l, pl, rfl, hp, hb, hl, k⟩ := h
    refine ⟨_, (pss_one (ps_ret (pe_methB0 (pe_callX X_desk_behind passX (hr.mono (by decide)) rfl (pc (pv 0) (pc (pe_comp (NY := ["event"]) (js := [none]) rfl rfl (by with_unfolding_all rfl) (by repeat first | exact ClIn.nil | refine ClIn.cons rfl ?_) (.own .nil) (pi_list (pv 1)) (fun _ _ _ _ _ => ⟨(pg_name (i := 0) (show (["event"] : List Str).Nodup from by decide +kernel) rfl (Or.inl rfl)), pif_nil, (pe_op (opK_catT (K := K) rfl) (pe_tup (pc (pe_globC G_EVENT M rfl) pa_nil)) (pv 0))⟩)) pa_nil))) CL_Desk.cl F_Desk_rows pass0 (hr.mono (by decide))))), ?_⟩
    refine ⟨_, rfl, _, rfl, l, rfl, ⟨_, hl⟩, fun r hr' => ?_⟩
    refine comp_lR (K := K) (a := l) (xs := []) (fun i ys H3 => ys = [] ∧ H3 = upd H r (.lst [])) ⟨rfl, rfl⟩ (by rintro i ys H2 ⟨rfl, rfl⟩; exact upd_same) (fun i ys H3 _ ⟨_, e⟩ => by rw [e]; exact (Same.new hr').seq hl) (fun i y ys H2 hi => by simp at hi) ?_
    rintro ys H3 ⟨rfl, rfl⟩
    exact ⟨p, r, pl, rfl, (Same.new hr').seqT hp, hb, SqL.of upd_same, fun H' s' => k _ ((Same.new hr').trans s')⟩
end
end K2
namespace K2
open PySem PySem.Spec PyProof.Rows L2 K1
def spNum : Sp := fun vs H Q _ => ∃ c : Int, vs = [.int c] ∧ ∀ (v : Int) (H' : Hp), Same H H' → Q (.int v) H'
def spRef (K : PySem.W.Frag) : Sp := fun vs H Q _ => ∃ (i : Int) (p : Addr) (pl : Pl), vs = [.int i, .ref p] ∧ SqT K H p pl.row ∧ ∀ H', Same H H' → Q (.bl (bad pl)) H'
def spUnder (K : PySem.W.Frag) : Sp := fun vs H Q _ => ∃ (p : Addr) (pl : Pl), vs = [.ref p] ∧ SqT K H p pl.row ∧ ∀ H', Same H H' → Q (.bl (bad pl)) H'
section
variable {P : Program} {w : World} {K : PySem.W.Frag} {mg : Str → Option Value} {C B G N : Addr}
theorem f_num (D : DefIn K "_law_number" st__law_number) (M : MG K mg) : FnB P w K mg "_law_number" ["_law_cell"] 1 spNum := by
  refine D.fn M sc__law_number bd__law_number (fun vs H Q E h => ?_) (fun f base cdv A outer s H vs Q E hr h => ?_)
  · obtain ⟨c, rfl, _⟩ := h
    rfl
  · obtain ⟨c, rfl, k⟩ := h
    refine ⟨_, (pss_one (ps_ret (pe_ix ix_list (pe_lst (pc pe_int (pc (pe_un uNeg pe_int) (pc pe_int (pc pe_int (pc pe_int (pc pe_int (pc (pe_un uNeg pe_int) pa_nil)))))))) (pe_op oMod (pe_op oMod (pe_op oMul (pv 0) pe_int) pe_int) pe_int) (fun _ _ => rfl)))), ?_⟩
    refine ⟨_, rfl, _, rfl, (by show 7 ≤ sizeLine; decide), fun l e => ?_⟩
    refine ⟨_, rfl, _, _, rfl, rfl, .inr ⟨by decide, by decide⟩, _, _, rfl, rfl, (by show (0 : Int) < _; decide), _, _, rfl, rfl, (by show (0 : Int) < _; decide), ?_⟩
    have b1 := mod_in (c * 48271 % 1009) 7 (by decide)
    exact ⟨l, ([0, -1, 1, 2, 100, 1000000, -1000000] : List Int).map V.int, _, _, rfl, rfl, SqL.of upd_same, at_int _ b1.1 (by show _ < 7; omega), k _ _ (Same.new e)⟩
theorem f_ref (D : DefIn K "_law_refused" st__law_refused) (M : MG K mg) (E_BadPlan : ExcIn K "BadPlan" B) (hx : PySem.W.exmOne K (.ref B) (.ref B) = some true)
    (F_check_plan : FnB P w K mg "check_plan" ["plan"] 3 (spChk K)) (F_answers : FnB P w K mg "answers" ["plan", "deeds"] 6 (spGood K)) (F_in_order : FnB P w K mg "in_order" ["plan", "events"] 7 (spGood K)) (F_standing : FnB P w K mg "standing" ["plan", "deeds"] 7 (spGood K))
    (F_kept_after : FnB P w K mg "kept_after" ["plan", "deeds"] 7 (spGood K)) (F_missed : FnB P w K mg "missed" ["plan", "deeds"] 7 (spGood K))
    (X_check_plan : FnX P w K mg "check_plan" ["plan"] 3 (spChkX K B)) (X_answers : FnX P w K mg "answers" ["plan", "deeds"] 6 (spBad K B)) (X_in_order : FnX P w K mg "in_order" ["plan", "events"] 7 (spBad K B)) (X_standing : FnX P w K mg "standing" ["plan", "deeds"] 7 (spBad K B))
    (X_kept_after : FnX P w K mg "kept_after" ["plan", "deeds"] 7 (spBad K B)) (X_missed : FnX P w K mg "missed" ["plan", "deeds"] 7 (spBad K B)) : FnB P w K mg "_law_refused" ["_law_which", "_law_plan"] 8 (spRef K) := by
  refine D.fn M sc__law_refused bd__law_refused (fun vs H Q E h => ?_) (fun f base cdv A outer s H vs Q E hr h => ?_)
  · obtain ⟨i, p, pl, rfl, _⟩ := h
    rfl
  · obtain ⟨i, p, pl, rfl, hp, k⟩ := h
    cases hb : bad pl with
    | false =>
      rw [hb] at k
      refine ⟨_, (pss_cons (ps_tryOk (pss_one (ps_if (pt_cmpR op_eq (pv 0) pe_int (nomark _)) (pss_one (pexpr (pcallF F_check_plan (hr.mono (by decide)) rfl (pc (pv 1) pa_nil)))) (pss_one (ps_if (pt_cmpR op_eq (pv 0) pe_int (nomark _)) (pss_one (pexpr (pcallF F_answers (hr.mono (by decide)) rfl (pc (pv 1) (pc (pe_lst pa_nil) pa_nil))))) (pss_one (ps_if (pt_cmpR op_eq (pv 0) pe_int (nomark _)) (pss_one (pexpr (pcallF F_in_order (hr.mono (by decide)) rfl (pc (pv 1) (pc (pe_lst pa_nil) pa_nil))))) (pss_one (ps_if (pt_cmpR op_eq (pv 0) pe_int (nomark _)) (pss_one (pexpr (pcallF F_standing (hr.mono (by decide)) rfl (pc (pv 1) (pc (pe_lst pa_nil) pa_nil))))) (pss_one (ps_if (pt_cmpR op_eq (pv 0) pe_int (nomark _)) (pss_one (pexpr (pcallF F_kept_after (hr.mono (by decide)) rfl (pc (pv 1) (pc (pe_lst pa_nil) pa_nil))))) (pss_one (pexpr (pcallF F_missed (hr.mono (by decide)) rfl (pc (pv 1) (pc (pe_lst pa_nil) pa_nil))))))))))))))))
      (pss_one (ps_ret pe_bl))), ?_⟩
      refine ⟨_, rfl, rfl, _, rfl, ?_⟩
      refine ite2 (fun _ => ⟨_, rfl, p, pl, rfl, hp, hb, k _ (Same.refl _)⟩) (fun _ => ?_)
      refine ⟨_, rfl, rfl, _, rfl, ?_⟩
      refine ite2 (fun _ => ⟨_, rfl, (by show 0 ≤ sizeLine; decide), fun l hl => ⟨p, l, pl, rfl, (Same.new hl).seqT hp, hb, SqL.of upd_same, fun v H' s' => k _ ((Same.new hl).trans s')⟩⟩) (fun _ => ?_)
      refine ⟨_, rfl, rfl, _, rfl, ?_⟩
      refine ite2 (fun _ => ⟨_, rfl, (by show 0 ≤ sizeLine; decide), fun l hl => ⟨p, l, pl, rfl, (Same.new hl).seqT hp, hb, SqL.of upd_same, fun v H' s' => k _ ((Same.new hl).trans s')⟩⟩) (fun _ => ?_)
      refine ⟨_, rfl, rfl, _, rfl, ?_⟩
      refine ite2 (fun _ => ⟨_, rfl, (by show 0 ≤ sizeLine; decide), fun l hl => ⟨p, l, pl, rfl, (Same.new hl).seqT hp, hb, SqL.of upd_same, fun v H' s' => k _ ((Same.new hl).trans s')⟩⟩) (fun _ => ?_)
      refine ⟨_, rfl, rfl, _, rfl, ?_⟩
      refine ite2 (fun _ => ⟨_, rfl, (by show 0 ≤ sizeLine; decide), fun l hl => ⟨p, l, pl, rfl, (Same.new hl).seqT hp, hb, SqL.of upd_same, fun v H' s' => k _ ((Same.new hl).trans s')⟩⟩) (fun _ => ?_)
      exact ⟨_, rfl, (by show 0 ≤ sizeLine; decide), fun l hl => ⟨p, l, pl, rfl, (Same.new hl).seqT hp, hb, SqL.of upd_same, fun v H' s' => k _ ((Same.new hl).trans s')⟩⟩
    | true =>
      rw [hb] at k
      refine ⟨_, (pss_cons (ps_try rfl rfl rfl (M.is _ _ E_BadPlan.at_) (fun pins E => (pss_one (ps_if (pt_cmpR op_eq (pv 0) pe_int (nomark _)) (pss_one (pexpr (pe_callX X_check_plan passT (hr.mono (by decide)) rfl (pc (pv 1) pa_nil)))) (pss_one (ps_if (pt_cmpR op_eq (pv 0) pe_int (nomark _)) (pss_one (pexpr (pe_callX X_answers passT (hr.mono (by decide)) rfl (pc (pv 1) (pc (pe_lst pa_nil) pa_nil))))) (pss_one (ps_if (pt_cmpR op_eq (pv 0) pe_int (nomark _)) (pss_one (pexpr (pe_callX X_in_order passT (hr.mono (by decide)) rfl (pc (pv 1) (pc (pe_lst pa_nil) pa_nil))))) (pss_one (ps_if (pt_cmpR op_eq (pv 0) pe_int (nomark _)) (pss_one (pexpr (pe_callX X_standing passT (hr.mono (by decide)) rfl (pc (pv 1) (pc (pe_lst pa_nil) pa_nil))))) (pss_one (ps_if (pt_cmpR op_eq (pv 0) pe_int (nomark _)) (pss_one (pexpr (pe_callX X_kept_after passT (hr.mono (by decide)) rfl (pc (pv 1) (pc (pe_lst pa_nil) pa_nil))))) (pss_one (pexpr (pe_callX X_missed passT (hr.mono (by decide)) rfl (pc (pv 1) (pc (pe_lst pa_nil) pa_nil)))))))))))))))) (fun a => (pss_one (ps_ret pe_bl))))
      (pss_one (ps_ret pe_bl))), ?_⟩
      refine ⟨_, rfl, rfl, _, rfl, ?_⟩
      refine ite2 (fun _ => ⟨_, rfl, p, pl, rfl, hp, hb, hx, k _ (Same.refl _)⟩) (fun _ => ?_)
      refine ⟨_, rfl, rfl, _, rfl, ?_⟩
      refine ite2 (fun _ => ⟨_, rfl, (by show 0 ≤ sizeLine; decide), fun l hl => ⟨p, l, pl, rfl, (Same.new hl).seqT hp, hb, SqL.of upd_same, fun H' s' => ⟨hx, k _ ((Same.new hl).trans s')⟩⟩⟩) (fun _ => ?_)
      refine ⟨_, rfl, rfl, _, rfl, ?_⟩
      refine ite2 (fun _ => ⟨_, rfl, (by show 0 ≤ sizeLine; decide), fun l hl => ⟨p, l, pl, rfl, (Same.new hl).seqT hp, hb, SqL.of upd_same, fun H' s' => ⟨hx, k _ ((Same.new hl).trans s')⟩⟩⟩) (fun _ => ?_)
      refine ⟨_, rfl, rfl, _, rfl, ?_⟩
      refine ite2 (fun _ => ⟨_, rfl, (by show 0 ≤ sizeLine; decide), fun l hl => ⟨p, l, pl, rfl, (Same.new hl).seqT hp, hb, SqL.of upd_same, fun H' s' => ⟨hx, k _ ((Same.new hl).trans s')⟩⟩⟩) (fun _ => ?_)
      refine ⟨_, rfl, rfl, _, rfl, ?_⟩
      refine ite2 (fun _ => ⟨_, rfl, (by show 0 ≤ sizeLine; decide), fun l hl => ⟨p, l, pl, rfl, (Same.new hl).seqT hp, hb, SqL.of upd_same, fun H' s' => ⟨hx, k _ ((Same.new hl).trans s')⟩⟩⟩) (fun _ => ?_)
      exact ⟨_, rfl, (by show 0 ≤ sizeLine; decide), fun l hl => ⟨p, l, pl, rfl, (Same.new hl).seqT hp, hb, SqL.of upd_same, fun H' s' => ⟨hx, k _ ((Same.new hl).trans s')⟩⟩⟩
theorem f_under (D : DefIn K "_law_under_base" st__law_under_base) (M : MG K mg) (Bi : K1.Bi K) (E_BadPlan : ExcIn K "BadPlan" B) (E_GaugeError : ExcIn K "GaugeError" G) (E_NoLine : ExcIn K "NoLine" N) (hx : PySem.W.exmOne K (.ref B) (.ref G) = some true)
    (i1 : PySem.W.kitOne K (.ref B) (.ref B) = some true) (i2 : PySem.W.kitOne K (.ref B) (.ref N) = some false) (i3 : PySem.W.kitOne K (.ref B) (.type "ValueError") = some true)
    (F_check_plan : FnB P w K mg "check_plan" ["plan"] 3 (spChk K)) (X_check_plan : FnX P w K mg "check_plan" ["plan"] 3 (spChkX K B)) : FnB P w K mg "_law_under_base" ["_law_plan"] 4 (spUnder K) := by
  have B := Bi
  refine D.fn M sc__law_under_base bd__law_under_base (fun vs H Q E h => ?_) (fun f base cdv A outer s H vs Q E hr h => ?_)
  · obtain ⟨p, pl, rfl, _⟩ := h
    rfl
  · obtain ⟨p, pl, rfl, hp, k⟩ := h
    cases hb : bad pl with
    | false =>
      rw [hb] at k
      refine ⟨_, (pss_cons (ps_tryOk (pss_one (pexpr (pcallF F_check_plan (hr.mono (by decide)) rfl (pc (pv 0) pa_nil)))))
      (pss_one (ps_ret pe_bl))), ?_⟩
      exact ⟨_, rfl, p, pl, rfl, hp, hb, k _ (Same.refl _)⟩
    | true =>
      rw [hb] at k
      refine ⟨_, (pss_cons (ps_tryAs (i := 1) rfl rfl rfl rfl (M.is _ _ E_GaugeError.at_) sc__law_under_base.nd rfl rfl (fun pins E => (pss_one (pexpr (pe_callX X_check_plan passT (hr.mono (by decide)) rfl (pc (pv 0) pa_nil))))) (fun a => (pss_cons (pset (i := 2) sc__law_under_base.nd rfl (Or.inl rfl) (pe_lst (pc (pcallB (callK_isinstX (K := K) rfl) rfl (M.no _ B.b_isinstance) bt_isinstance (pc (pv 1) (pc (pe_glob rfl (M.is _ _ E_BadPlan.at_) (show RelV (.ref _) (.ref _) from rfl)) pa_nil))) (pc (pcallB (callK_isinstX (K := K) rfl) rfl (M.no _ B.b_isinstance) bt_isinstance (pc (pv 1) (pc (pe_glob rfl (M.is _ _ E_NoLine.at_) (show RelV (.ref _) (.ref _) from rfl)) pa_nil))) pa_nil))))
      (pss_one (ps_ret (pe_and (pcallB (callK_isinstX (K := K) rfl) rfl (M.no _ B.b_isinstance) bt_isinstance (pc (pv 1) (pc (pe_bltn (v := .ty "ValueError") rfl (M.no _ B.b_ValueError) bt_ValueError rfl) pa_nil))) (pe_one (pe_cmpR op_eq (pe_bmK (K := K) rfl PySem.F.plainAttrs_list PySem.F.slot_list_count PySem.F.type_list_count mt_count (pv 2) (pc pe_bl pa_nil)) pe_int (nomark _)))))))))
      (pss_one (ps_ret pe_bl))), ?_⟩
      refine ⟨_, rfl, p, pl, rfl, hp, hb, hx, fun a ha => ?_⟩
      refine ⟨_, rfl, a, _, _, true, rfl, upd_same, ⟨_, E_BadPlan⟩, .inl ⟨_, rfl, i1⟩, ?_⟩
      refine ⟨_, rfl, a, _, _, false, rfl, upd_same, ⟨_, E_BadPlan⟩, .inl ⟨_, rfl, i2⟩, ?_⟩
      refine ⟨(by show 2 ≤ sizeLine; decide), fun l hl => ?_⟩
      have hal : a ≠ l := ne_of_none upd_same hl
      refine ⟨_, rfl, a, _, _, true, rfl, (by rw [upd_ne hal, upd_same]), ⟨_, E_BadPlan⟩, .inr ⟨_, rfl, i3⟩, true, rfl, ?_⟩
      refine ⟨_, rfl, .inl ⟨rfl, _, SqL.of upd_same⟩, l, [true, false], true, rfl, rfl, upd_same, rfl, ?_⟩
      exact k _ ((Same.new ha).trans (Same.new hl))
end
end K2
namespace K2
open PySem PySem.Spec PyProof.Rows L2 K1
theorem at2 {r : Int} (h : 0 ≤ r ∧ r < 2) : atI [V.str "fixed", V.str "pauses"] r = some (.str (if r = 0 then "fixed" else "pauses")) := by
  have : r = 0 ∨ r = 1 := by omega
  rcases this with rfl | rfl <;> rfl
def pl0 (r o g : Int) : Pl := if r = 0 then .fixed o g else .pauses o g
theorem pl0_row (r o g : Int) : [V.str (if r = 0 then "fixed" else "pauses"), .int o, .int g] = (pl0 r o g).row := by
  unfold pl0
  by_cases h : r = 0
  · rw [if_pos h, if_pos h]; rfl
  · rw [if_neg h, if_neg h]; rfl
theorem pl0_bad (r o g : Int) : bad (pl0 r o g) = (decide (o < 1) || decide (g < 0)) := by
  have key : ∀ p : Pl, p.len = o → p.stp = o → grace p = g → bad p = (decide (o < 1) || decide (g < 0)) := fun p h1 h2 h3 => by
    unfold bad
    rw [h1, h2, h3]
    by_cases h : o < 1
    · simp [h]
    · have : ¬ 100 * o < o := by omega
      simp [h, this]
  unfold pl0
  by_cases h : r = 0
  · rw [if_pos h]; exact key _ rfl rfl rfl
  · rw [if_neg h]; exact key _ rfl rfl rfl
section
variable {P : Program} {w : World} {K : PySem.W.Frag} {mg : Str → Option Value}
theorem f_law (D : DefIn K "law" st_law) (M : MG K mg) (B : Bi K) (F__law_at : FnB P w K mg "_law_at" ["_law_script", "_law_k"] 1 (spAt2 K)) (F__law_number : FnB P w K mg "_law_number" ["_law_cell"] 1 spNum)
    (F__law_refused : FnB P w K mg "_law_refused" ["_law_which", "_law_plan"] 8 (spRef K)) (F__law_under_base : FnB P w K mg "_law_under_base" ["_law_plan"] 4 (spUnder K)) : FnB P w K mg "law" ["_law_script"] 9 (spLaw K) := by
  refine D.fn M sc_law bd_law (fun vs H Q E h => ?_) (fun f base cdv A outer s H vs Q E hr h => ?_)
  · obtain ⟨a, ns, rfl, _⟩ := h
    rfl
  · obtain ⟨a, ns, rfl, hS, hlen, k⟩ := h
    refine ⟨_, (pss_cons (ps_for PassesOwn.never rfl (pi_range1 rfl (M.no _ B.b_range) (pc (pcallB (call_min2 rfl) rfl (M.no _ B.b_min) bt_min (pc pe_int (pc (pe_op oAdd (pcallB call_len_seq rfl (M.no _ B.b_len) bt_len (pc (pv 0) pa_nil)) pe_int) pa_nil))) pa_nil)) (pg_name (i := 1) sc_law.nd rfl (Or.inl rfl))
      (pss_cons (pset (i := 2) sc_law.nd rfl (Or.inl rfl) (pe_op oAdd (pcallF F__law_at (hr.mono (by decide)) rfl (pc (pv 0) (pc (pv 1) pa_nil))) (pe_op oMul pe_int (pv 1))))
      (pss_cons (pset (i := 3) sc_law.nd rfl (Or.inl rfl) (pcallF F__law_number (hr.mono (by decide)) rfl (pc (pe_op oFdiv (pv 2) pe_int) pa_nil)))
      (pss_cons (pset (i := 4) sc_law.nd rfl (Or.inl rfl) (pcallF F__law_number (hr.mono (by decide)) rfl (pc (pe_op oFdiv (pv 2) pe_int) pa_nil)))
      (pss_cons (pset (i := 5) sc_law.nd rfl (Or.inl rfl) (pcallF F__law_number (hr.mono (by decide)) rfl (pc (pe_op oFdiv (pv 2) pe_int) pa_nil)))
      (pss_cons (pset (i := 6) sc_law.nd rfl (Or.inl rfl) (pe_tup (pc (pe_ix ix_list (pe_lst (pc pe_str (pc pe_str pa_nil))) (pe_op oMod (pe_op oMod (pe_op oMul (pv 2) pe_int) pe_int) pe_int) (fun _ _ => rfl)) (pc (pv 3) (pc (pv 5) pa_nil)))))
      (pss_consJ (pset (i := 7) sc_law.nd rfl (Or.inl rfl) (pe_or (pe_cmpR oLt (pv 3) pe_int (nomark _)) (pe_one (pe_cmpR oLt (pv 5) pe_int (nomark _)))))
      (pss_consJ (ps_if (pt_cmpR op_eq (pe_op oMod (pe_op oMod (pe_op oMul (pv 2) pe_int) pe_int) pe_int) pe_int (nomark _)) (pss_cons (pset (i := 3) sc_law.nd rfl (Or.inl rfl) (pe_ix ix_list (pe_lst (pc (pe_op oMul pe_int (pv 4)) (pc (pe_op oAdd (pe_op oMul pe_int (pv 4)) pe_int) (pc (pv 3) (pc (pe_op oSub (pe_op oMul pe_int (pv 4)) pe_int) pa_nil))))) (pe_op oMod (pe_op oMod (pe_op oMul (pv 2) pe_int) pe_int) pe_int) (fun _ _ => rfl)))
      (pss_cons (pset (i := 6) sc_law.nd rfl (Or.inl rfl) (pe_tup (pc pe_str (pc (pv 3) (pc (pv 4) (pc (pv 5) pa_nil))))))
      (pss_one (pset (i := 7) sc_law.nd rfl (Or.inl rfl) (pe_or (pe_cmpR oLt (pv 3) pe_int (nomark _)) (pe_or (pe_cmpR oLt (pv 4) pe_int (nomark _)) (pe_or (pe_cmpR oLt (pv 5) pe_int (nomark _)) (pe_one (pe_cmpR oGt (pv 3) (pe_op oMul pe_int (pv 4)) (nomark _)))))))))) pss_nil)
      (pss_cons (ps_for PassesOwn.never rfl (pi_range1 rfl (M.no _ B.b_range) (pc pe_int pa_nil)) (pg_name (i := 8) sc_law.nd rfl (Or.inl rfl))
      (pss_one (ps_if (pt_cmpR op_ne (pcallF F__law_refused (hr.mono (by decide)) rfl (pc (pv 8) (pc (pv 6) pa_nil))) (pv 7) (nomark _)) (pss_one (ps_ret pe_bl)) pss_nil)))
      (pss_one (ps_if (pt_cmpR op_ne (pcallF F__law_under_base (hr.mono (by decide)) rfl (pc (pv 6) pa_nil)) (pv 7) (nomark _)) (pss_one (ps_ret pe_bl)) pss_nil)))))))))))
      (pss_one (ps_ret pe_bl))), ?_⟩
    refine ⟨_, rfl, a, _, rfl, .inl hS, _, _, rfl, rfl, _, _, rfl, ?_⟩
    generalize hmn : (if ((ns.map V.int).length : Int) + 1 < 150 then ((ns.map V.int).length : Int) + 1 else 150) = mn
    have hm : 0 ≤ mn ∧ mn ≤ 64 := by
      rw [← hmn, List.length_map]
      split <;> omega
    refine ⟨_, rfl, by omega, by omega, ?_⟩
    refine for_range (fun i σ3 H3 => ∃ (vk vc v1 v2 vg vp vb vw : Option V), σ3 = [some (.ref a), vk, vc, v1, v2, vg, vp, vb, vw] ∧ Same H H3) ⟨_, _, _, _, _, _, _, _, rfl, Same.refl _⟩ ?_ ?_
    · rintro i σ3 H3 hi ⟨vk, vc, v1, v2, vg, vp, vb, vw, rfl, s3⟩
      -- cell
      refine ⟨_, rfl, _, rfl, a, ns, _, rfl, s3.seq hS, by omega, fun v => ⟨_, rfl, _, _, rfl, rfl, .inl ⟨by decide, by decide⟩, _, _, rfl, rfl, ?_⟩⟩
      generalize v + 5 * (0 + (i : Int)) = c
      -- one, two, grace
      refine ⟨_, rfl, _, _, rfl, rfl, ⟨by decide, by decide, by decide⟩, _, rfl, fun one H4 s4 => ?_⟩
      refine ⟨_, rfl, _, _, rfl, rfl, ⟨by decide, by decide, by decide⟩, _, rfl, fun two H5 s5 => ?_⟩
      refine ⟨_, rfl, _, _, rfl, rfl, ⟨by decide, by decide, by decide⟩, _, rfl, fun gr H6 s6 => ?_⟩
      -- plan
      refine ⟨(by show 2 ≤ sizeLine; decide), fun l e => ?_⟩
      have b1 := mod_in (c * 48271 % 1019) 2 (by decide)
      refine ⟨_, rfl, _, _, rfl, rfl, .inr ⟨by decide, by decide⟩, _, _, rfl, rfl, (by show (0 : Int) < _; decide), _, _, rfl, rfl, (by show (0 : Int) < _; decide), l, [V.str "fixed", V.str "pauses"], _, _, rfl, rfl, SqL.of upd_same, at2 b1, _, rfl, _, rfl, (by show 3 ≤ sizeLine; decide), fun p hp => ?_⟩
      generalize c * 48271 % 1019 % 2 = r at *
      have sl := Same.new (o := .lst [V.str "fixed", V.str "pauses"]) e
      have sp := Same.new (o := .tup [V.str (if r = 0 then "fixed" else "pauses"), .int one, .int gr]) hp
      have s7 := s3.trans (s4.trans (s5.trans (s6.trans (sl.trans sp))))
      have hp7 : upd (upd H6 l (.lst [V.str "fixed", V.str "pauses"])) p (.tup [V.str (if r = 0 then "fixed" else "pauses"), .int one, .int gr]) p = some (.tup (pl0 r one gr).row) := by rw [← pl0_row]; exact upd_same
      generalize upd (upd H6 l (.lst [V.str "fixed", V.str "pauses"])) p (.tup [V.str (if r = 0 then "fixed" else "pauses"), .int one, .int gr]) = H7 at *
      -- bad
      refine ⟨fun σ' H' => σ' = [some (.ref a), some (.int (0 + (i : Int))), some (.int c), some (.int one), some (.int two), some (.int gr), some (.ref p), some (.bl (bad (pl0 r one gr))), vw] ∧ H' = H7, ?_, ?_⟩
      · rw [pl0_bad]
        refine ⟨_, rfl, _, _, rfl, rfl, _, rfl, ?_⟩
        refine ite2 (fun h => ?_) (fun h => ?_)
        · rw [h]; exact ⟨rfl, rfl⟩
        · have h' : decide (one < 1) = false := by simpa using h
          refine ⟨_, rfl, _, _, rfl, rfl, ?_⟩
          rw [h']; exact ⟨rfl, rfl⟩
      · rintro σ' H' ⟨rfl, rfl⟩
        -- sliding
        refine ⟨fun σ' H' => ∃ (o2 : Int) (p2 : Addr) (pl : Pl), σ' = [some (.ref a), some (.int (0 + (i : Int))), some (.int c), some (.int o2), some (.int two), some (.int gr), some (.ref p2), some (.bl (bad pl)), vw] ∧ Same H H' ∧ H' p2 = some (.tup pl.row), ?_, ?_⟩
        · refine ⟨_, rfl, _, _, rfl, rfl, .inr ⟨by decide, by decide⟩, _, _, rfl, rfl, (by show (0 : Int) < _; decide), _, _, rfl, rfl, (by show (0 : Int) < _; decide), rfl, _, rfl, ?_⟩
          refine ite2 (fun _ => ?_) (fun _ => ⟨one, p, _, rfl, s7, hp7⟩)
          refine ⟨_, rfl, _, _, rfl, rfl, .inl ⟨by decide, by decide⟩, _, rfl, _, _, rfl, rfl, .inl ⟨by decide, by decide⟩, _, _, rfl, rfl, _, rfl, _, rfl, _, _, rfl, rfl, .inl ⟨by decide, by decide⟩, _, _, rfl, rfl, (by show 4 ≤ sizeLine; decide), fun l2 e2 => ?_⟩
          have b2 := mod_in (c * 48271 % 1021) 4 (by decide)
          refine ⟨_, rfl, _, _, rfl, rfl, .inr ⟨by decide, by decide⟩, _, _, rfl, rfl, (by show (0 : Int) < _; decide), _, _, rfl, rfl, (by show (0 : Int) < _; decide), l2, ([100 * two, 100 * two + 1, one, 100 * two - 1] : List Int).map V.int, _, _, rfl, rfl, SqL.of upd_same, at_int _ b2.1 (by show _ < 4; omega), ?_⟩
          generalize ([100 * two, 100 * two + 1, one, 100 * two - 1] : List Int).getD (c * 48271 % 1021 % 4).toNat 0 = o2
          refine ⟨_, rfl, _, rfl, _, rfl, (by show 4 ≤ sizeLine; decide), fun p2 hp2 => ?_⟩
          have sA := s7.trans ((Same.new (o := .lst (([100 * two, 100 * two + 1, one, 100 * two - 1] : List Int).map V.int)) e2).trans (Same.new (o := .tup [V.str "sliding", .int o2, .int two, .int gr]) hp2))
          refine ⟨_, rfl, _, _, rfl, rfl, _, rfl, ?_⟩
          have eb : bad (.sliding o2 two gr) = (decide (o2 < 1) || (decide (two < 1) || (decide (gr < 0) || decide (100 * two < o2)))) := by
            show ((decide (o2 < 1) || decide (two < 1) || decide (gr < 0) || decide (100 * two < o2)) : Bool) = _
            simp only [Bool.or_assoc]
          refine ite2 (fun h => ⟨o2, p2, .sliding o2 two gr, by rw [eb, h]; rfl, sA, upd_same⟩) (fun h => ?_)
          have h1 : decide (o2 < 1) = false := by simpa using h
          refine ⟨_, rfl, _, _, rfl, rfl, _, rfl, ?_⟩
          refine ite2 (fun h => ⟨o2, p2, .sliding o2 two gr, by rw [eb, h1, h]; rfl, sA, upd_same⟩) (fun h => ?_)
          have h2 : decide (two < 1) = false := by simpa using h
          refine ⟨_, rfl, _, _, rfl, rfl, _, rfl, ?_⟩
          refine ite2 (fun h => ⟨o2, p2, .sliding o2 two gr, by rw [eb, h1, h2, h]; rfl, sA, upd_same⟩) (fun h => ?_)
          have h3 : decide (gr < 0) = false := by simpa using h
          exact ⟨_, rfl, _, rfl, _, _, rfl, rfl, .inl ⟨by decide, by decide⟩, _, _, rfl, rfl, o2, p2, .sliding o2 two gr, by rw [eb, h1, h2, h3]; rfl, sA, upd_same⟩
        · rintro σ' H' ⟨o2, p2, pl, rfl, sA, hpl⟩
          refine ⟨6, rfl, by decide, by decide, ?_⟩
          refine for_range (n := 6) (fun j σ8 H8 => ∃ vw, σ8 = [some (.ref a), some (.int (0 + (i : Int))), some (.int c), some (.int o2), some (.int two), some (.int gr), some (.ref p2), some (.bl (bad pl)), vw] ∧ Same H' H8) ⟨_, rfl, Same.refl _⟩ ?_ ?_
          · rintro j σ8 H8 hj ⟨vw8, rfl, s8⟩
            refine ⟨_, rfl, _, rfl, _, p2, pl, rfl, SqT.of (s8 _ _ hpl), fun H9 s9 => ⟨_, rfl, rfl, _, rfl, ?_⟩⟩
            refine iteNS rfl ?_
            exact ⟨_, rfl, s8.trans s9⟩
          · rintro σ8 H8 ⟨vw8, rfl, s8⟩
            refine ⟨_, rfl, p2, pl, rfl, SqT.of (s8 _ _ hpl), fun H9 s9 => ⟨_, rfl, rfl, _, rfl, ?_⟩⟩
            refine iteNS rfl ?_
            exact ⟨_, _, _, _, _, _, _, _, rfl, sA.trans (s8.trans s9)⟩
    · rintro σ3 H3 _
      exact k H3
end
end K2
open PySem PySem.W PyProof.Rows
set_option maxRecDepth 100000 in
set_option maxHeartbeats 0 in
theorem PySem.Challenge.cw_weirgauge_k02_plans_refused_holds : PySem.Challenge.rw_weirgauge_k02_plans_refused.Holds := by
  w_on; o_law; k_head; (case hw => w_witness2)
  k_fill
  refine L2.walkB (l := PySem.Challenge.rw_weirgauge_k02_plans_refused) (x := "_law_script") 9 ⟨rfl, by decide, by decide⟩ rfl rfl (fun w h Y => PySem.W.km_in_of Y) K1.spLaw (fun K H a ns hl hS => ⟨a, ns, rfl, hS, hl, fun _ => rfl⟩) ?F
  case F =>
    intro w mg M
    have D_kind_of : L2.DefIn (L2.KOfM M) "kind_of" K1.st_kind_of := by
      dsimp only [L2.KOfM]
      refine' L2.DefIn.mk' ?a ?l ?c ?k
      (case a => k_is); (case l => k_is); (case c => k_is); (case k => k_is)
    have D_length_of : L2.DefIn (L2.KOfM M) "length_of" K1.st_length_of := by
      dsimp only [L2.KOfM]
      refine' L2.DefIn.mk' ?a ?l ?c ?k
      (case a => k_is); (case l => k_is); (case c => k_is); (case k => k_is)
    have D_step_of : L2.DefIn (L2.KOfM M) "step_of" K1.st_step_of := by
      dsimp only [L2.KOfM]
      refine' L2.DefIn.mk' ?a ?l ?c ?k
      (case a => k_is); (case l => k_is); (case c => k_is); (case k => k_is)
    have D_grace_of : L2.DefIn (L2.KOfM M) "grace_of" K1.st_grace_of := by
      dsimp only [L2.KOfM]
      refine' L2.DefIn.mk' ?a ?l ?c ?k
      (case a => k_is); (case l => k_is); (case c => k_is); (case k => k_is)
    have D_check_plan : L2.DefIn (L2.KOfM M) "check_plan" K1.st_check_plan := by
      dsimp only [L2.KOfM]
      refine' L2.DefIn.mk' ?a ?l ?c ?k
      (case a => k_is); (case l => k_is); (case c => k_is); (case k => k_is)
    have D_spans_at : L2.DefIn (L2.KOfM M) "spans_at" K1.st_spans_at := by
      dsimp only [L2.KOfM]
      refine' L2.DefIn.mk' ?a ?l ?c ?k
      (case a => k_is); (case l => k_is); (case c => k_is); (case k => k_is)
    have D_joined : L2.DefIn (L2.KOfM M) "joined" K1.st_joined := by
      dsimp only [L2.KOfM]
      refine' L2.DefIn.mk' ?a ?l ?c ?k
      (case a => k_is); (case l => k_is); (case c => k_is); (case k => k_is)
    have D_answers : L2.DefIn (L2.KOfM M) "answers" K1.st_answers := by
      dsimp only [L2.KOfM]
      refine' L2.DefIn.mk' ?a ?l ?c ?k
      (case a => k_is); (case l => k_is); (case c => k_is); (case k => k_is)
    have D_standing : L2.DefIn (L2.KOfM M) "standing" K1.st_standing := by
      dsimp only [L2.KOfM]
      refine' L2.DefIn.mk' ?a ?l ?c ?k
      (case a => k_is); (case l => k_is); (case c => k_is); (case k => k_is)
    have D_kept_after : L2.DefIn (L2.KOfM M) "kept_after" K1.st_kept_after := by
      dsimp only [L2.KOfM]
      refine' L2.DefIn.mk' ?a ?l ?c ?k
      (case a => k_is); (case l => k_is); (case c => k_is); (case k => k_is)
    have D_missed : L2.DefIn (L2.KOfM M) "missed" K1.st_missed := by
      dsimp only [L2.KOfM]
      refine' L2.DefIn.mk' ?a ?l ?c ?k
      (case a => k_is); (case l => k_is); (case c => k_is); (case k => k_is)
    have D_in_order : L2.DefIn (L2.KOfM M) "in_order" K1.st_in_order := by
      dsimp only [L2.KOfM]
      refine' L2.DefIn.mk' ?a ?l ?c ?k
      (case a => k_is); (case l => k_is); (case c => k_is); (case k => k_is)
    have D_desk_behind : L2.DefIn (L2.KOfM M) "desk_behind" K1.st_desk_behind := by
      dsimp only [L2.KOfM]
      refine' L2.DefIn.mk' ?a ?l ?c ?k
      (case a => k_is); (case l => k_is); (case c => k_is); (case k => k_is)
    have D__law_at : L2.DefIn (L2.KOfM M) "_law_at" K1.st__law_at := by
      dsimp only [L2.KOfM]
      refine' L2.DefIn.mk' ?a ?l ?c ?k
      (case a => k_is); (case l => k_is); (case c => k_is); (case k => k_is)
    have D__law_number : L2.DefIn (L2.KOfM M) "_law_number" K1.st__law_number := by
      dsimp only [L2.KOfM]
      refine' L2.DefIn.mk' ?a ?l ?c ?k
      (case a => k_is); (case l => k_is); (case c => k_is); (case k => k_is)
    have D__law_refused : L2.DefIn (L2.KOfM M) "_law_refused" K1.st__law_refused := by
      dsimp only [L2.KOfM]
      refine' L2.DefIn.mk' ?a ?l ?c ?k
      (case a => k_is); (case l => k_is); (case c => k_is); (case k => k_is)
    have D__law_under_base : L2.DefIn (L2.KOfM M) "_law_under_base" K1.st__law_under_base := by
      dsimp only [L2.KOfM]
      refine' L2.DefIn.mk' ?a ?l ?c ?k
      (case a => k_is); (case l => k_is); (case c => k_is); (case k => k_is)
    have D_law : L2.DefIn (L2.KOfM M) "law" K1.st_law := by
      dsimp only [L2.KOfM]
      refine' L2.DefIn.mk' ?a ?l ?c ?k
      (case a => k_is); (case l => k_is); (case c => k_is); (case k => k_is)
    have G_EVENT : L2.GlobIs (L2.KOfM M) "EVENT" (.str "event") := by
      dsimp only [L2.KOfM]
      refine' L2.GlobIs.ofStr ?a
      (case a => k_is)
    have G_MARK : L2.GlobIs (L2.KOfM M) "MARK" (.str "mark") := by
      dsimp only [L2.KOfM]
      refine' L2.GlobIs.ofStr ?a
      (case a => k_is)
    have G_MOST_STEPS : L2.GlobIs (L2.KOfM M) "MOST_STEPS" (.int 100) := by
      dsimp only [L2.KOfM]
      refine' L2.GlobIs.ofInt ?a
      (case a => k_is)
    have G_PAUSES : L2.GlobIs (L2.KOfM M) "PAUSES" (.str "pauses") := by
      dsimp only [L2.KOfM]
      refine' L2.GlobIs.ofStr ?a
      (case a => k_is)
    have G_SLIDING : L2.GlobIs (L2.KOfM M) "SLIDING" (.str "sliding") := by
      dsimp only [L2.KOfM]
      refine' L2.GlobIs.ofStr ?a
      (case a => k_is)
    obtain ⟨C_Desk, C_GaugeError, C_BadPlan, C_NoLine, CI_Desk, N_Desk_plan, N_Desk_mark, N_Desk_windows, N_Desk_missed, D_Desk___init__, D_Desk_rows, D_Desk_is_closed, D_Desk_is_kept, D_Desk_is_too_late, D_Desk_do, D_Desk_take_mark, D_Desk_take_event, D_Desk_keys_met_by, D_Desk_move_tallies, D_Desk_add_tally, E_GaugeError, E_BadPlan, E_NoLine, x0, x1, x2, x3, x4⟩ : ∃ C_Desk C_GaugeError C_BadPlan C_NoLine : PySem.Addr, L2.ClassIn (L2.KOfM M) "Desk" C_Desk ∧ L2.NoAttr (L2.KOfM M) C_Desk "plan" ∧ L2.NoAttr (L2.KOfM M) C_Desk "mark" ∧ L2.NoAttr (L2.KOfM M) C_Desk "windows" ∧ L2.NoAttr (L2.KOfM M) C_Desk "missed" ∧ L2.MethIn (L2.KOfM M) C_Desk "__init__" "Desk.__init__" K1.st_Desk___init__ ∧ L2.MethIn (L2.KOfM M) C_Desk "rows" "Desk.rows" K1.st_Desk_rows ∧ L2.MethIn (L2.KOfM M) C_Desk "is_closed" "Desk.is_closed" K1.st_Desk_is_closed ∧ L2.MethIn (L2.KOfM M) C_Desk "is_kept" "Desk.is_kept" K1.st_Desk_is_kept ∧ L2.MethIn (L2.KOfM M) C_Desk "is_too_late" "Desk.is_too_late" K1.st_Desk_is_too_late ∧ L2.MethIn (L2.KOfM M) C_Desk "do" "Desk.do" K1.st_Desk_do ∧ L2.MethIn (L2.KOfM M) C_Desk "take_mark" "Desk.take_mark" K1.st_Desk_take_mark ∧ L2.MethIn (L2.KOfM M) C_Desk "take_event" "Desk.take_event" K1.st_Desk_take_event ∧ L2.MethIn (L2.KOfM M) C_Desk "keys_met_by" "Desk.keys_met_by" K1.st_Desk_keys_met_by ∧ L2.MethIn (L2.KOfM M) C_Desk "move_tallies" "Desk.move_tallies" K1.st_Desk_move_tallies ∧ L2.MethIn (L2.KOfM M) C_Desk "add_tally" "Desk.add_tally" K1.st_Desk_add_tally ∧ L2.ExcIn (L2.KOfM M) "GaugeError" C_GaugeError ∧ L2.ExcIn (L2.KOfM M) "BadPlan" C_BadPlan ∧ L2.ExcIn (L2.KOfM M) "NoLine" C_NoLine ∧ PySem.W.exmOne (L2.KOfM M) (.ref C_BadPlan) (.ref C_BadPlan) = some true ∧ PySem.W.exmOne (L2.KOfM M) (.ref C_BadPlan) (.ref C_GaugeError) = some true ∧ PySem.W.kitOne (L2.KOfM M) (.ref C_BadPlan) (.ref C_BadPlan) = some true ∧ PySem.W.kitOne (L2.KOfM M) (.ref C_BadPlan) (.ref C_NoLine) = some false ∧ PySem.W.kitOne (L2.KOfM M) (.ref C_BadPlan) (.type "ValueError") = some true := by
      dsimp only [L2.KOfM, L2.NoAttr]
      refine' ⟨_, _, _, _, ⟨?aDesk, ⟨?pgDesk, ?hdDesk, ?poDesk, ?saDesk⟩, ?mkDesk, ?kpDesk⟩, ?nDeskplan, ?nDeskmark, ?nDeskwindows, ?nDeskmissed, L2.MethIn.mk' ?maDesk___init__ ?miDesk___init__ ?mlDesk___init__ ?mcDesk___init__ ?mkDesk___init__, L2.MethIn.mk' ?maDesk_rows ?miDesk_rows ?mlDesk_rows ?mcDesk_rows ?mkDesk_rows, L2.MethIn.mk' ?maDesk_is_closed ?miDesk_is_closed ?mlDesk_is_closed ?mcDesk_is_closed ?mkDesk_is_closed, L2.MethIn.mk' ?maDesk_is_kept ?miDesk_is_kept ?mlDesk_is_kept ?mcDesk_is_kept ?mkDesk_is_kept, L2.MethIn.mk' ?maDesk_is_too_late ?miDesk_is_too_late ?mlDesk_is_too_late ?mcDesk_is_too_late ?mkDesk_is_too_late, L2.MethIn.mk' ?maDesk_do ?miDesk_do ?mlDesk_do ?mcDesk_do ?mkDesk_do, L2.MethIn.mk' ?maDesk_take_mark ?miDesk_take_mark ?mlDesk_take_mark ?mcDesk_take_mark ?mkDesk_take_mark, L2.MethIn.mk' ?maDesk_take_event ?miDesk_take_event ?mlDesk_take_event ?mcDesk_take_event ?mkDesk_take_event, L2.MethIn.mk' ?maDesk_keys_met_by ?miDesk_keys_met_by ?mlDesk_keys_met_by ?mcDesk_keys_met_by ?mkDesk_keys_met_by, L2.MethIn.mk' ?maDesk_move_tallies ?miDesk_move_tallies ?mlDesk_move_tallies ?mcDesk_move_tallies ?mkDesk_move_tallies, L2.MethIn.mk' ?maDesk_add_tally ?miDesk_add_tally ?mlDesk_add_tally ?mcDesk_add_tally ?mkDesk_add_tally, ⟨?aGaugeError, ?xGaugeError, ?gGaugeError, ?tGaugeError, ?cGaugeError, ?sGaugeError, ?oGaugeError, ?kGaugeError⟩, ⟨?aBadPlan, ?xBadPlan, ?gBadPlan, ?tBadPlan, ?cBadPlan, ?sBadPlan, ?oBadPlan, ?kBadPlan⟩, ⟨?aNoLine, ?xNoLine, ?gNoLine, ?tNoLine, ?cNoLine, ?sNoLine, ?oNoLine, ?kNoLine⟩, ?x0, ?x1, ?x2, ?x3, ?x4⟩
      (case aDesk => k_is)
      (case pgDesk => k_is)
      (case hdDesk => k_is)
      (case poDesk => k_is)
      (case saDesk => k_is)
      (case mkDesk => k_is)
      (case kpDesk => k_is)
      (case nDeskplan => k_is)
      (case nDeskmark => k_is)
      (case nDeskwindows => k_is)
      (case nDeskmissed => k_is)
      (case maDesk___init__ => k_is)
      (case miDesk___init__ => k_is)
      (case mlDesk___init__ => k_is)
      (case mcDesk___init__ => k_is)
      (case mkDesk___init__ => k_is)
      (case maDesk_rows => k_is)
      (case miDesk_rows => k_is)
      (case mlDesk_rows => k_is)
      (case mcDesk_rows => k_is)
      (case mkDesk_rows => k_is)
      (case maDesk_is_closed => k_is)
      (case miDesk_is_closed => k_is)
      (case mlDesk_is_closed => k_is)
      (case mcDesk_is_closed => k_is)
      (case mkDesk_is_closed => k_is)
      (case maDesk_is_kept => k_is)
      (case miDesk_is_kept => k_is)
      (case mlDesk_is_kept => k_is)
      (case mcDesk_is_kept => k_is)
      (case mkDesk_is_kept => k_is)
      (case maDesk_is_too_late => k_is)
      (case miDesk_is_too_late => k_is)
      (case mlDesk_is_too_late => k_is)
      (case mcDesk_is_too_late => k_is)
      (case mkDesk_is_too_late => k_is)
      (case maDesk_do => k_is)
      (case miDesk_do => k_is)
      (case mlDesk_do => k_is)
      (case mcDesk_do => k_is)
      (case mkDesk_do => k_is)
      (case maDesk_take_mark => k_is)
      (case miDesk_take_mark => k_is)
      (case mlDesk_take_mark => k_is)
      (case mcDesk_take_mark => k_is)
      (case mkDesk_take_mark => k_is)
      (case maDesk_take_event => k_is)
      (case miDesk_take_event => k_is)
      (case mlDesk_take_event => k_is)
      (case mcDesk_take_event => k_is)
      (case mkDesk_take_event => k_is)
      (case maDesk_keys_met_by => k_is)
      (case miDesk_keys_met_by => k_is)
      (case mlDesk_keys_met_by => k_is)
      (case mcDesk_keys_met_by => k_is)
      (case mkDesk_keys_met_by => k_is)
      (case maDesk_move_tallies => k_is)
      (case miDesk_move_tallies => k_is)
      (case mlDesk_move_tallies => k_is)
      (case mcDesk_move_tallies => k_is)
      (case mkDesk_move_tallies => k_is)
      (case maDesk_add_tally => k_is)
      (case miDesk_add_tally => k_is)
      (case mlDesk_add_tally => k_is)
      (case mcDesk_add_tally => k_is)
      (case mkDesk_add_tally => k_is)
      (case aGaugeError => k_is)
      (case xGaugeError => k_exc)
      (case gGaugeError => k_is)
      (case tGaugeError => k_is)
      (case cGaugeError => k_is)
      (case sGaugeError => k_is)
      (case oGaugeError => k_is)
      (case kGaugeError => k_is)
      (case aBadPlan => k_is)
      (case xBadPlan => k_exc)
      (case gBadPlan => k_is)
      (case tBadPlan => k_is)
      (case cBadPlan => k_is)
      (case sBadPlan => k_is)
      (case oBadPlan => k_is)
      (case kBadPlan => k_is)
      (case aNoLine => k_is)
      (case xNoLine => k_exc)
      (case gNoLine => k_is)
      (case tNoLine => k_is)
      (case cNoLine => k_is)
      (case sNoLine => k_is)
      (case oNoLine => k_is)
      (case kNoLine => k_is)
      (case x0 => kts_exm)
      (case x1 => kts_exm)
      (case x2 => kit_is)
      (case x3 => kit_is)
      (case x4 => kit_is)
    have B : K1.Bi (L2.KOfM M) := by
      dsimp only [L2.KOfM]
      refine' ⟨?b0, ?b1, ?b2, ?b3, ?b4, ?b5⟩
      (case b0 => k_is); (case b1 => k_is); (case b2 => k_is); (case b3 => k_is); (case b4 => k_is); (case b5 => k_is)
    have T : K2.DeskIn (L2.KOfM M) C_Desk := ⟨CI_Desk, N_Desk_plan, N_Desk_mark, N_Desk_windows, N_Desk_missed⟩
    have Fk := K1.f_kind (P := PySem.Challenge.rw_weirgauge_k02_plans_refused.prog) (w := w) D_kind_of M
    have Fl := K1.f_len (P := PySem.Challenge.rw_weirgauge_k02_plans_refused.prog) (w := w) D_length_of M
    have Fs := K1.f_stp D_step_of M G_SLIDING Fk Fl
    have Fg := K2.f_grace (P := PySem.Challenge.rw_weirgauge_k02_plans_refused.prog) (w := w) D_grace_of M
    have Fc := K2.f_chk D_check_plan M G_MOST_STEPS Fl Fs Fg
    have Xc := K2.x_chk D_check_plan M G_MOST_STEPS E_BadPlan Fl Fs Fg
    have Fi := K2.f_init D_Desk___init__ T Fc
    have Xi := K2.x_init (C := C_Desk) D_Desk___init__ M Xc
    have Fr := K2.f_rows0 (P := PySem.Challenge.rw_weirgauge_k02_plans_refused.prog) (w := w) D_Desk_rows M B T
    have Fb := K2.f_behind D_desk_behind M T Fi
    have Xb := K2.x_behind D_desk_behind M T Xi
    have R := K2.f_ref D__law_refused M E_BadPlan x0 Fc (K2.f_answers D_answers M T Fi) (K2.f_inorder D_in_order M T G_EVENT Fb Fr) (K2.f_standing D_standing M T Fb Fr) (K2.f_kept D_kept_after M T Fb Fr) (K2.f_missed D_missed M T Fb) Xc (K2.x_answers D_answers M T Xi) (K2.x_inorder D_in_order M T G_EVENT Xb Fr) (K2.x_standing D_standing M Xb) (K2.x_kept D_kept_after M Xb) (K2.x_missed D_missed M Xb)
    exact K2.f_law D_law M B (K1.f_at2 D__law_at M B) (K2.f_num D__law_number M) R (K2.f_under D__law_under_base M B E_BadPlan E_GaugeError E_NoLine x1 x2 x3 x4 Fc Xc)
