import PyProof.Rows.All
import Wide.All
import OpenK.AllK
import Wide.FinOn
import Lean
import PyProof.EqAt
import PyProof.EqKinds
import PyProof.TupleCall
import PyProof.ZipIter
import PyProof.AttrMissHeap
import KE.KDictOf
import PyProof.Rows.FactsT1
import PyProof.Rows.FactsT2
import PyProof.Rows.MinMaxN
import PyProof.AutoSeq1
import PySem.Challenge.RW_topslip_k06_whole_spans
set_option Elab.async false
set_option linter.all false
set_option maxRecDepth 100000
/-! THE HAND LAYER, for ints, bools, texts, own classes, LISTS and tuples (index, slices, in, append, pop ..), calls, loops. Paste it whole ahead of your own text; what your proof does not reach may be deleted. -/
namespace L2
open PySem PySem.Spec PyProof.Rows
/-- a key: an int or a str -/
abbrev Key := Sum Int Str
def keyIs : Key → Value → Bool
  | .inl k, v => Value.isInt k v
  | .inr x, v => Value.isStrOf x v
def keyH (w : World) : Key → Int
  | .inl k => hashInt k
  | .inr x => hashStr w x
theorem keyIs_shape : ∀ {k : Key} {v : Value}, keyIs k v = true → (∃ i t, k = Sum.inl i ∧ v = Value.int i t) ∨ (∃ x t, k = Sum.inr x ∧ v = Value.str x t)
  | .inl i, v, h => by
    obtain ⟨t, e⟩ := Value.isInt_shape (k := i) (v := v) h
    exact .inl ⟨i, t, rfl, e⟩
  | .inr x, v, h => by
    obtain ⟨t, e⟩ := Value.isStrOf_shape (x := x) (v := v) h
    exact .inr ⟨x, t, rfl, e⟩
theorem keyIs_int (i : Int) (t : Tok) : keyIs (.inl i) (.int i t) = true := by simp [keyIs, Value.isInt]
theorem keyIs_str (x : Str) (t : Tok) : keyIs (.inr x) (.str x t) = true := by simp [keyIs, Value.isStrOf]
theorem key_ll (a b : Int) : decide ((Sum.inl a : Key) = Sum.inl b) = (a == b) := by
  by_cases e : a = b
  · subst e; simp
  · have h : ¬ (Sum.inl a : Key) = Sum.inl b := fun q => e (Sum.inl.inj q)
    rw [decide_eq_false h]
    exact (beq_eq_false_iff_ne.mpr e).symm
theorem key_rr (a b : Str) : decide ((Sum.inr a : Key) = Sum.inr b) = decide (a = b) := by
  by_cases e : a = b
  · subst e; simp
  · have h : ¬ (Sum.inr a : Key) = Sum.inr b := fun q => e (Sum.inr.inj q)
    rw [decide_eq_false h, decide_eq_false e]
theorem key_lr (a : Int) (b : Str) : decide ((Sum.inl a : Key) = Sum.inr b) = false := decide_eq_false (fun q => nomatch q)
theorem key_rl (a : Str) (b : Int) : decide ((Sum.inr a : Key) = Sum.inl b) = false := decide_eq_false (fun q => nomatch q)
def mixKind (prog : Program) (w : World) : PySem.KeyKind prog w Key where
  is := keyIs
  hash := keyH w
  inj := fun v a b ha hb => by
    rcases keyIs_shape ha with ⟨i, t, rfl, rfl⟩ | ⟨x, t, rfl, rfl⟩
    · rcases keyIs_shape hb with ⟨j, u, rfl, e⟩ | ⟨y, u, rfl, e⟩
      · injection e with e1 _; rw [e1]
      · exact nomatch e
    · rcases keyIs_shape hb with ⟨j, u, rfl, e⟩ | ⟨y, u, rfl, e⟩
      · exact nomatch e
      · injection e with e1 _; rw [e1]
  byValue := fun k v h => by
    rcases keyIs_shape h with ⟨i, t, rfl, rfl⟩ | ⟨x, t, rfl, rfl⟩ <;> rfl
  pyHash := fun hv h => by
    rcases keyIs_shape hv with ⟨i, t, rfl, rfl⟩ | ⟨x, t, rfl, rfl⟩
    · exact wpAny_pyHash_int h
    · exact wpAny_pyHash_str h
  eqBool := fun hu hv h => by
    rcases keyIs_shape hu with ⟨i, t, rfl, rfl⟩ | ⟨x, t, rfl, rfl⟩
    · rcases keyIs_shape hv with ⟨j, u, rfl, rfl⟩ | ⟨y, u, rfl, rfl⟩
      · rw [key_ll] at h; exact wpAny_eqBool_int h
      · rw [key_lr] at h; exact SeqAt.EqAt.int_str i t y u _ _ _ _ h
    · rcases keyIs_shape hv with ⟨j, u, rfl, rfl⟩ | ⟨y, u, rfl, rfl⟩
      · rw [key_rl] at h; exact SeqAt.EqAt.str_int x t j u _ _ _ _ h
      · rw [key_rr] at h; exact wpAny_eqBool_str h
  «strs» := fun k x t v h => by
    rcases keyIs_shape h with ⟨i, u, rfl, e⟩ | ⟨y, u, rfl, e⟩
    · exact nomatch e
    · injection e with e1 _
      subst e1
      cases v <;> rfl
theorem mixKind_int (prog : Program) (w : World) (i : Int) (t : Tok) : (mixKind prog w).is (.inl i) (.int i t) = true := keyIs_int i t
theorem mixKind_str (prog : Program) (w : World) (x : Str) (t : Tok) : (mixKind prog w).is (.inr x) (.str x t) = true := keyIs_str x t
end L2
namespace L2
open PySem PySem.Spec PyProof.Rows
/-- a value, without the heap -/
inductive V where
  | non | bl (b : Bool) | int (i : Int) | str (x : Str) | byt (b : Array UInt8) | flt (b : UInt64) | ref (a : Addr) | ty (n : String)
  deriving DecidableEq
def RelV : V → Value → Prop
  | .non, u => u = Value.none
  | .bl b, u => u = Value.bool b
  | .int i, u => ∃ t, u = Value.int i t
  | .str x, u => ∃ t, u = Value.str x t
  | .byt b, u => ∃ t, u = Value.bytes b t
  | .flt b, u => ∃ t, u = Value.float b t
  | .ref a, u => u = Value.ref a
  | .ty n, u => u = Value.type n
abbrev Vals : List V → List Value → Prop := Paired RelV
theorem Vals.length {xs : List V} {us : List Value} (r : Vals xs us) : xs.length = us.length := Paired.length r
theorem Vals.get : ∀ {xs : List V} {us : List Value} {i : Nat} {x : V}, Vals xs us → xs[i]? = some x → ∃ u, us[i]? = some u ∧ RelV x u
  | _, _, _, _, .nil, e => by simp at e
  | _, _, 0, _, .cons r _, e => by simp at e; subst e; exact ⟨_, rfl, r⟩
  | _, _, i + 1, x, .cons _ t, e => by
    obtain ⟨u, h1, h2⟩ := Vals.get (i := i) (x := x) t (by simpa using e)
    exact ⟨u, by simpa using h1, h2⟩
theorem Vals.set {x : V} {u : Value} (r : RelV x u) : ∀ {xs : List V} {us : List Value} (i : Nat), Vals xs us → Vals (xs.set i x) (us.set i u)
  | _, _, _, .nil => .nil
  | _, _, 0, .cons _ t => .cons r t
  | _, _, i + 1, .cons q t => .cons q (Vals.set r i t)
theorem Vals.append : ∀ {xs ys : List V} {us ws : List Value}, Vals xs us → Vals ys ws → Vals (xs ++ ys) (us ++ ws)
  | _, _, _, _, .nil, s => s
  | _, _, _, _, .cons r t, s => .cons r (Vals.append t s)
theorem Vals.take : ∀ {xs : List V} {us : List Value} (n : Nat), Vals xs us → Vals (xs.take n) (us.take n)
  | _, _, 0, _ => .nil
  | _, _, _ + 1, .nil => .nil
  | _, _, n + 1, .cons r t => .cons r (Vals.take n t)
theorem Vals.drop : ∀ {xs : List V} {us : List Value} (n : Nat), Vals xs us → Vals (xs.drop n) (us.drop n)
  | _, _, 0, r => r
  | _, _, _ + 1, .nil => .nil
  | _, _, n + 1, .cons _ t => Vals.drop n t
def RelO : Option V → Option Value → Prop
  | some v, some u => RelV v u
  | none, none => True
  | _, _ => False
def KV {κ : Type} : List (κ × V) → List (κ × Value) → Prop := Paired fun (p : κ × V) (q : κ × Value) => p.1 = q.1 ∧ RelV p.2 q.2
/-- a key of a dict (00_mix): an int or a text -/
def kV : Key → V
  | .inl i => .int i
  | .inr x => .str x
/-- what stands at a tracked address -/
inductive HO where
  /-- a list -/
  | lst (xs : List V)
  /-- a tuple (never changes) -/
  | tup (xs : List V)
  /-- a dict whose keys are ints and texts; one whose keys are tuples of ints and texts (the empty one is both) -/
  | dK (kvs : List (Key × V)) | dT (kvs : List (List Key × V))
  /-- a set of ints: its members, its size -/
  | set (S : Int → Bool) (n : Nat)
  /-- an instance of the class at C, its dict at dx, its attributes -/
  | ins (C dx : Addr) (fs : List (Str × V))
  /-- the dict of the instance at x -/
  | own (x : Addr)
  /-- the dict of an exception -/
  | xd (fs : List (Str × V))
  /-- a bound method, f of x -/
  | met (f x : Addr)
  /-- a range object lo, lo + 1, .. below hi -/
  | rng (lo hi : Int)
  /-- a thing that is known to the object (the script; a dict while a loop walks it): read, never written while it is so -/
  | frz (o : Obj) (u : HO)
  /-- a code object's table -/
  | tbl (ps : Array Value)
  /-- any other thing, by what is true of its one object (a def of one's own: SetO a S n := HO.ext fun h => ..) -/
  | ext (φ : Heap → Prop)
abbrev Hp := Addr → Option HO
def upd (H : Hp) (a : Addr) (o : HO) : Hp := fun b => if b = a then some o else H b
theorem upd_same {H : Hp} {a : Addr} {o : HO} : upd H a o a = some o := by unfold upd; rw [if_pos rfl]
theorem upd_ne {H : Hp} {a b : Addr} {o : HO} (h : b ≠ a) : upd H a o b = H b := by unfold upd; rw [if_neg h]
/-- two objects of different content stand apart -/
theorem ne_of {H : Hp} {a b : Addr} {o u : HO} (h : H a = some o) (h' : H b = some u) (d : o ≠ u) : a ≠ b := by
  intro e; subst e; rw [h] at h'; exact d (Option.some.inj h')
theorem ne_of_none {H : Hp} {a b : Addr} {o : HO} (h : H a = some o) (h' : H b = none) : a ≠ b := by
  intro e; subst e; rw [h] at h'; cases h'
section
variable (P : Program) (w : World)
def ObjOk (H : Hp) (h : Heap) (a : Addr) : HO → Prop
  | .lst xs => xs.length ≤ sizeLine ∧ ∃ (its : List Value) (n : Nat), Vals xs its ∧ h.get? a = some { cls := .type "list", data := .seq its.toArray n }
  | .tup xs => xs.length ≤ sizeLine ∧ ∃ its : List Value, Vals xs its ∧ IsTup h a its.toArray
  | .dK kvs => kvs.length ≤ sizeLine ∧ (a == sysModules) = false ∧ ∃ vs, KV kvs vs ∧ h.DictOf (mixKind P w) a vs
  | .dT kvs => kvs.length ≤ sizeLine ∧ (a == sysModules) = false ∧ ∃ xs : List (List Key × Addr × Value),
      Paired (fun (p : List Key × V) (q : List Key × Addr × Value) => p.1 = q.1 ∧ H q.2.1 = some (.tup (p.1.map kV)) ∧ RelV p.2 q.2.2) kvs xs ∧
      ∃ o es ep, h.get? a = some o ∧ o.ExactDict ∧ o.data = .dict es ep ∧ es.toList = xs.map (entryOfKey (tupleKind (mixKind P w))) ∧ (xs.map (·.1)).Nodup
  | .set S n => h.SetOf (intKind P w) a S n
  | .ins C dx fs => H dx = some (.own a) ∧ fs.length ≤ 1000 ∧ dx ≠ a ∧ h.get? a = some (PySem.W.instObj C dx) ∧
      ∃ mA, h.Ns1 dx mA ∧ (∀ f, RelO (fs.lookup f) (mA f)) ∧ PySem.Within mA (fs.map (·.1))
  | .own _ => ∃ o, h.get? a = some o
  | .xd fs => ∃ mA, h.Ns1 a mA ∧ ∀ f, RelO (fs.lookup f) (mA f)
  | .rng lo hi => ∃ t u v, h.get? a = some { cls := .type "range", data := .fields #[.int lo t, .int hi u, .int 1 v] }
  | .frz o u => h.get? a = some o ∧ ObjOk H h a u
  | .tbl ps => h.get? a = some { cls := .none, data := .fields ps }
  | .met f x => h.get? a = some (PySem.W.methodObj (.ref f) (.ref x))
  | .ext φ => φ h ∧ (∃ o, h.get? a = some o) ∧ ∀ h1 h2 : Heap, φ h1 → (∀ o, h1.get? a = some o → h2.get? a = some o) → φ h2
/-- the abstract heap is held -/
def HOk (H : Hp) (h : Heap) : Prop := ∀ a o, H a = some o → ObjOk P w H h a o
end
section
variable {P : Program} {w : World} {H H' : Hp} {h h' : Heap} {a : Addr} {o : HO}
theorem ObjOk.lt (x : ObjOk P w H h a o) : a < h.objs.size := by
  cases o with
  | lst xs => obtain ⟨_, _, _, _, e⟩ := x; exact Heap.lt_size e
  | tup xs => obtain ⟨_, _, _, p⟩ := x; exact p.lt
  | dK kvs => obtain ⟨_, _, _, _, o, _, _, e, _⟩ := x; exact Heap.lt_size e
  | dT kvs => obtain ⟨_, _, _, _, o, _, _, e, _⟩ := x; exact Heap.lt_size e
  | set S n => obtain ⟨o, _, _, _, e, _⟩ := x; exact Heap.lt_size e
  | ins C dx fs => obtain ⟨_, _, _, e, _⟩ := x; exact Heap.lt_size e
  | own y => obtain ⟨_, e⟩ := x; exact Heap.lt_size e
  | xd fs => obtain ⟨_, ⟨_, _, _, e, _⟩, _⟩ := x; exact Heap.lt_size e
  | rng lo hi => obtain ⟨_, _, _, e⟩ := x; exact Heap.lt_size e
  | frz ob u => obtain ⟨e, _⟩ := x; exact Heap.lt_size e
  | tbl ps => exact Heap.lt_size (show h.get? a = some _ from x)
  | met f y => exact Heap.lt_size (show h.get? a = some _ from x)
  | ext φ => obtain ⟨_, ⟨_, e⟩, _⟩ := x; exact Heap.lt_size e
theorem Paired.mapP {α β : Type} {F G : α → β → Prop} : ∀ {l₁ : List α} {l₂ : List β}, Paired F l₁ l₂ → (∀ a b, F a b → G a b) → Paired G l₁ l₂
  | _, _, .nil, _ => .nil
  | _, _, .cons r t, f => .cons (f _ _ r) (Paired.mapP t f)
/-- what an object's description leans on: its own object, its own dict, the tuples -/
theorem ObjOk.stay (x : ObjOk P w H h a o) (k : ∀ b u, (b = a ∨ H b = some (.own a)) → h.get? b = some u → h'.get? b = some u)
    (ho : ∀ b, H b = some (.own a) → H' b = some (.own a)) (ht : ∀ b xs, H b = some (.tup xs) → H' b = some (.tup xs)) : ObjOk P w H' h' a o := by
  induction o with
  | lst xs => obtain ⟨z, its, n, r, e⟩ := x; exact ⟨z, its, n, r, k _ _ (.inl rfl) e⟩
  | tup xs => obtain ⟨z, its, r, ob, e, c⟩ := x; exact ⟨z, its, r, ob, k _ _ (.inl rfl) e, c⟩
  | dK kvs => obtain ⟨z, y, vs, r, ob, es, ep, e, c⟩ := x; exact ⟨z, y, vs, r, ob, es, ep, k _ _ (.inl rfl) e, c⟩
  | dT kvs =>
    obtain ⟨z, y, xs, r, ob, es, ep, e, c⟩ := x
    exact ⟨z, y, xs, Paired.mapP r fun p q z => ⟨z.1, ht _ _ z.2.1, z.2.2⟩, ob, es, ep, k _ _ (.inl rfl) e, c⟩
  | set S n => obtain ⟨ob, es, ep, t, e, c⟩ := x; exact ⟨ob, es, ep, t, k _ _ (.inl rfl) e, c⟩
  | ins C dx fs =>
    obtain ⟨d, z, ne, e, mA, ⟨od, es, ep, e2, c⟩, r⟩ := x
    exact ⟨ho _ d, z, ne, k _ _ (.inl rfl) e, mA, ⟨od, es, ep, k _ _ (.inr d) e2, c⟩, r⟩
  | own y => obtain ⟨ob, e⟩ := x; exact ⟨ob, k _ _ (.inl rfl) e⟩
  | xd fs => obtain ⟨mA, ⟨od, es, ep, e, c⟩, r⟩ := x; exact ⟨mA, ⟨od, es, ep, k _ _ (.inl rfl) e, c⟩, r⟩
  | rng lo hi => obtain ⟨t, u, v, e⟩ := x; exact ⟨t, u, v, k _ _ (.inl rfl) e⟩
  | frz ob u ih => obtain ⟨e, q⟩ := x; exact ⟨k _ _ (.inl rfl) e, ih q⟩
  | tbl ps =>
    have e : h.get? a = some { cls := .none, data := .fields ps } := x
    show h'.get? a = some { cls := .none, data := .fields ps }
    exact k a _ (.inl rfl) e
  | met f y =>
    have e : h.get? a = some (PySem.W.methodObj (.ref f) (.ref y)) := x
    show h'.get? a = some (PySem.W.methodObj (.ref f) (.ref y))
    exact k a _ (.inl rfl) e
  | ext φ => obtain ⟨p, ⟨o, e⟩, st⟩ := x; exact ⟨st _ _ p fun o q => k _ _ (.inl rfl) q, ⟨o, k _ _ (.inl rfl) e⟩, st⟩
theorem HOk.lt (x : HOk P w H h) (e : H a = some o) : a < h.objs.size := (x a o e).lt
theorem HOk.fresh (x : HOk P w H h) (e : h.objs.size ≤ a) : H a = none := by
  cases q : H a with
  | none => rfl
  | some u => exact absurd (Nat.lt_of_lt_of_le (x.lt q) e) (Nat.lt_irrefl _)
/-- every object of the heap is kept -/
theorem HOk.kept (x : HOk P w H h) (k : ∀ b u, h.get? b = some u → h'.get? b = some u) : HOk P w H h' := fun a o e =>
  (x a o e).stay (fun b u _ q => k b u q) (fun _ q => q) fun _ _ q => q
/-- a new object is laid and tracked -/
theorem HOk.laid (x : HOk P w H h) (k : ∀ b u, h.get? b = some u → h'.get? b = some u) (hp : h.objs.size ≤ a) (new : ObjOk P w (upd H a o) h' a o) : HOk P w (upd H a o) h' := fun b u e => by
  have hn := x.fresh hp
  by_cases hb : b = a
  · subst hb; rw [upd_same] at e; cases e; exact new
  · rw [upd_ne hb] at e
    exact (x b u e).stay (fun c v _ q => k c v q) (fun c q => by rw [upd_ne (ne_of_none q hn)]; exact q) fun c xs q => by rw [upd_ne (ne_of_none q hn)]; exact q
end
/-- what may be read as u: it is u, or a known u -/
def Rd (H : Hp) (a : Addr) (u : HO) : Prop := H a = some u ∨ ∃ o, H a = some (.frz o u)
theorem Rd.of {H : Hp} {a : Addr} {u : HO} (h : H a = some u) : Rd H a u := .inl h
theorem Rd.ok {P : Program} {w : World} {H : Hp} {h : Heap} {a : Addr} {u : HO} (r : Rd H a u) (x : HOk P w H h) : ObjOk P w H h a u := by
  rcases r with r | ⟨o, r⟩
  · exact x a u r
  · obtain ⟨_, q⟩ := x a _ r
    exact q
/-- what may be written -/
def Mut : Option HO → Prop
  | some (.lst _) => True
  | some (.dK _) => True
  | some (.dT _) => True
  | some (.set _ _) => True
  | some (.ins _ _ _) => True
  | some (.ext _) => True
  | _ => False
section
variable {P : Program} {w : World} {H : Hp} {h h' : Heap} {x e : Addr} {o' : HO}
/-- the object at e is changed: x itself, or the dict of the instance x -/
theorem HOk.write (ok : HOk P w H h) (mu : Mut (H x)) (he : e = x ∨ H e = some (.own x)) (k : ∀ b u, b ≠ e → h.get? b = some u → h'.get? b = some u) (heo : ∃ u, h'.get? e = some u)
    (new : ObjOk P w (upd H x o') h' x o') : HOk P w (upd H x o') h' := fun b u q => by
  have nown : ∀ c y, H c = some (.own y) → c ≠ x := fun c y r z => by subst z; rw [r] at mu; exact mu
  have ntup : ∀ c xs, H c = some (.tup xs) → c ≠ x := fun c xs r z => by subst z; rw [r] at mu; exact mu
  by_cases hb : b = x
  · subst hb; rw [upd_same] at q; cases q; exact new
  · rw [upd_ne hb] at q
    by_cases hbe : b = e
    · have q' : H b = some (.own x) := by
        rcases he with z | z
        · exact absurd (hbe.trans z) hb
        · rw [hbe]; exact z
      rw [q] at q'; cases q'
      obtain ⟨v, hv⟩ := heo
      exact ⟨v, by rw [hbe]; exact hv⟩
    · refine (ok b u q).stay (fun c v hc r => k c v ?_ r) (fun c r => by rw [upd_ne (nown c b r)]; exact r) fun c xs r => by rw [upd_ne (ntup c xs r)]; exact r
      rcases hc with rfl | hc
      · exact hbe
      · rintro rfl
        rcases he with z | z
        · exact nown c b hc z
        · rw [hc] at z; cases z; exact hb rfl
end
/-! ### kept unless tracked; of the frames at fs (the callers') the slots may change (an exception that passes writes there); of the records at ex (iterators) nothing is said -/
structure Un (fs ex : List Addr) (H H' : Hp) (h h' : Heap) : Prop where
  keep : ∀ b o, h.get? b = some o → H b = none → b ∉ fs → b ∉ ex → h'.get? b = some o
  slot : ∀ b o, h.get? b = some o → H b = none → b ∈ fs → b ∉ ex → ∃ sl, h'.get? b = some { o with slots := sl }
  free : ∀ b o, h.get? b = some o → H b = none → b ∉ ex → H' b = none
  there : ∀ b o, h.get? b = some o → b ∉ ex → ∃ o', h'.get? b = some o'
  tups : ∀ b xs, H b = some (.tup xs) → H' b = some (.tup xs)
  frzs : ∀ b o u, H b = some (.frz o u) → H' b = some (.frz o u)
  tbls : ∀ b ps, H b = some (.tbl ps) → ∃ more, H' b = some (.tbl (ps ++ more))
section
variable {fs fs' ex ex' : List Addr} {H H1 H2 : Hp} {h h1 h2 h' : Heap} {a x e : Addr} {o : HO}
theorem Un.any (u : Un fs ex H H1 h h1) {b : Addr} {ob : Obj} (q : h.get? b = some ob) (n : H b = none) (hx : b ∉ ex) : ∃ sl, h1.get? b = some { ob with slots := sl } := by
  by_cases hb : b ∈ fs
  · exact u.slot b ob q n hb hx
  · exact ⟨ob.slots, u.keep b ob q n hb hx⟩
theorem Un.trans (a : Un fs ex H H1 h h1) (b : Un fs ex H1 H2 h1 h2) : Un fs ex H H2 h h2 where
  keep := fun c ob q n hc hx => b.keep c ob (a.keep c ob q n hc hx) (a.free c ob q n hx) hc hx
  slot := fun c ob q n hc hx => by
    obtain ⟨sl, e1⟩ := a.slot c ob q n hc hx
    obtain ⟨sl', e2⟩ := b.slot c _ e1 (a.free c ob q n hx) hc hx
    exact ⟨sl', e2⟩
  free := fun c ob q n hx => by
    obtain ⟨o', e1⟩ := a.there c ob q hx
    exact b.free c o' e1 (a.free c ob q n hx) hx
  there := fun c ob q hx => by
    obtain ⟨o', e1⟩ := a.there c ob q hx
    exact b.there c o' e1 hx
  tups := fun c xs q => b.tups c xs (a.tups c xs q)
  frzs := fun c ob xs q => b.frzs c ob xs (a.frzs c ob xs q)
  tbls := fun c ps q => by
    obtain ⟨m1, e1⟩ := a.tbls c ps q
    obtain ⟨m2, e2⟩ := b.tbls c _ e1
    exact ⟨m1 ++ m2, by rw [e2, Array.append_assoc]⟩
theorem Un.kept (k : ∀ b u, h.get? b = some u → h'.get? b = some u) : Un fs ex H H h h' :=
  ⟨fun b ob q _ _ _ => k b ob q, fun b ob q _ _ _ => ⟨ob.slots, k b ob q⟩, fun _ _ _ n _ => n, fun b ob q _ => ⟨ob, k b ob q⟩, fun _ _ q => q, fun _ _ _ q => q, fun _ ps q => ⟨#[], by rw [q]; simp⟩⟩
theorem Un.refl : Un fs ex H H h h := Un.kept fun _ _ q => q
theorem Un.laid (k : ∀ b u, h.get? b = some u → h'.get? b = some u) (hp : h.objs.size ≤ a) (hn : H a = none) : Un fs ex H (upd H a o) h h' where
  keep := fun b u q _ _ _ => k b u q
  slot := fun b u q _ _ _ => ⟨u.slots, k b u q⟩
  free := fun b u q n _ => by rw [upd_ne (Nat.ne_of_lt (Nat.lt_of_lt_of_le (Heap.lt_size q) hp))]; exact n
  there := fun b u q _ => ⟨u, k b u q⟩
  tups := fun b xs q => by rw [upd_ne (ne_of_none q hn)]; exact q
  frzs := fun b u xs q => by rw [upd_ne (ne_of_none q hn)]; exact q
  tbls := fun b ps q => ⟨#[], by rw [upd_ne (ne_of_none q hn), q]; simp⟩
theorem Un.write (mu : Mut (H x)) (he : e = x ∨ H e = some (.own x)) (k : ∀ b u, b ≠ e → h.get? b = some u → h'.get? b = some u) (heo : ∃ u, h'.get? e = some u) : Un fs ex H (upd H x o) h h' := by
  have hx : ∀ b, H b = none → b ≠ x := fun b n z => by subst z; rw [n] at mu; exact mu
  have hb : ∀ b, H b = none → b ≠ e := fun b n z => by
    subst z
    rcases he with r | r
    · exact hx b n r
    · rw [n] at r; cases r
  have hm : ∀ b u, H b = some u → ¬ Mut (some u) → b ≠ x := fun b u q nm z => by subst z; rw [q] at mu; exact nm mu
  refine ⟨fun b u q n _ _ => k b u (hb b n) q, fun b u q n _ _ => ⟨u.slots, k b u (hb b n) q⟩, fun b u q n _ => by rw [upd_ne (hx b n)]; exact n, fun b u q _ => ?_,
    fun b xs q => by rw [upd_ne (hm b _ q fun z => z)]; exact q, fun b u xs q => by rw [upd_ne (hm b _ q fun z => z)]; exact q, fun b ps q => ⟨#[], by rw [upd_ne (hm b _ q fun z => z), q]; simp⟩⟩
  by_cases hbe : b = e
  · subst hbe; exact heo
  · exact ⟨u, k b u hbe q⟩
theorem Un.mono (u : Un fs ex H H1 h h1) (hs : ∀ b ∈ fs, b ∈ fs') (hx : ∀ b ∈ ex, b ∈ ex') : Un fs' ex' H H1 h h1 :=
  ⟨fun b ob q n hb he => u.keep b ob q n (fun z => hb (hs b z)) fun z => he (hx b z), fun _ _ q n _ he => u.any q n fun z => he (hx _ z), fun b ob q n he => u.free b ob q n fun z => he (hx b z), fun b ob q he => u.there b ob q fun z => he (hx b z), u.tups, u.frzs, u.tbls⟩
end
/-! ### the heap without what is tracked -/
def trk (h : Heap) (H : Hp) : List Addr := (List.range h.objs.size).filter fun a => (H a).isSome
def hidT (h : Heap) (H : Hp) : Heap := PySem.W.hideAll h (trk h H)
theorem hidT_size (h : Heap) (H : Hp) : (hidT h H).objs.size = h.objs.size := PySem.W.hideAll_size _ _
theorem hidT_get {h : Heap} {H : Hp} {b : Addr} {o : Obj} (e : h.get? b = some o) (n : H b = none) : (hidT h H).get? b = some o :=
  PySem.W.hideAll_get _ e fun hm => by
    have q : (H b).isSome = true := (List.mem_filter.mp hm).2
    rw [n] at q; simp at q
theorem of_hidT {h : Heap} {H : Hp} {b : Addr} {o : Obj} (e : (hidT h H).get? b = some o) : h.get? b = some o ∧ H b = none := by
  have e' : h.get? b = some o := PySem.W.of_hideAll (trk h H) e
  refine ⟨e', ?_⟩
  cases q : H b with
  | none => rfl
  | some x =>
    have hm : b ∈ trk h H := List.mem_filter.mpr ⟨List.mem_range.mpr (Heap.lt_size e'), by simp [q]⟩
    have z : (hidT h H).get? b = none := PySem.W.hideAll_none (trk h H) hm
    rw [z] at e; cases e
/-! ### OpenK's ledger, filled with every new object but one -/
def allNews (g h : Heap) (L : Addr) : List (Addr × Obj) := (List.range h.objs.size).filterMap fun a => if a = L ∨ (g.get? a).isSome = true then none else (h.get? a).map fun o => (a, o)
theorem mem_allNews {g h : Heap} {L a : Addr} {o : Obj} (h1 : a ≠ L) (h2 : g.get? a = none) (h3 : h.get? a = some o) : (a, o) ∈ allNews g h L :=
  List.mem_filterMap.mpr ⟨a, List.mem_range.mpr (Heap.lt_size h3), by simp [h1, h2, h3]⟩
theorem of_mem_allNews {g h : Heap} {L : Addr} {p : Addr × Obj} (hp : p ∈ allNews g h L) : p.1 ≠ L ∧ g.get? p.1 = none ∧ h.get? p.1 = some p.2 := by
  obtain ⟨b, _, e⟩ := List.mem_filterMap.mp hp
  split at e
  · cases e
  · rename_i hn
    cases q : h.get? b with
    | none => rw [q] at e; simp at e
    | some u =>
      rw [q] at e
      simp only [Option.map_some, Option.some.injEq] at e
      subst e
      refine ⟨fun z => hn (.inl z), ?_, q⟩
      show g.get? b = none
      cases r : g.get? b with
      | none => rfl
      | some v => exact (hn (.inr (by simp [r]))).elim
def rest (g h : Heap) (L d : Addr) : List (Addr × Obj) := (allNews g h L).filter fun p => decide (p.1 ≠ d)
theorem news_all {g h : Heap} {L : Addr} : News g L h (allNews g h L) := fun p hp => let ⟨a, b, c⟩ := of_mem_allNews hp; ⟨c, a, b⟩
end L2
namespace L2
open PySem PySem.Spec PyProof.Rows
/-- the module's facts, over the base: the heap at the law's entry without what is tracked there -/
structure Mod (K : PySem.W.Frag) (mg : Str → Option Value) (base : Heap) : Prop where
  kin : K.In base
  glob : base.Ns mainGlobals mg
  blt : ∃ mb, base.Ns builtinsNs mb ∧ ∀ x : Str, x ≠ "__name__" → mb x = bootBuiltins x
  nolimit : base.NoLimit
/-- the context: a def's body (or a comprehension's block) running. base: fixed through the whole law; s₀, H₀: the entry; outer: the frames whose slots others may change (a def's callers); stack: all frames that run;
   ex: iterators that were made ahead of the entry and are walked here (a comprehension's); fn: the names whose cells were made at the entry (a def: all; a comprehension's block: its own); calm: not within an except suite; pn: pins that every state bears; xe: what is wanted of an exception that leaves the code -/
structure Cx where
  prog : Program
  w : World
  K : PySem.W.Frag
  mg : Str → Option Value
  base : Heap
  A : Around
  N : List Str
  s₀ : Shared
  H₀ : Hp
  env : Env
  outer : List Env
  stack : List Env
  ex : List Addr
  fn : Str → Bool
  calm : Bool
  pn : List (Addr × Obj)
  xe : Value → Shared → Prop
/-- the callers' frames -/
def frs (l : List Env) : List Addr := l.filterMap (·.frame)
abbrev Cx.fs (X : Cx) : List Addr := frs X.outer
def Vis (sc : Scope) (x : Str) : Prop := sc.names.lookup x = some .local ∨ sc.names.lookup x = some .cell ∨ sc.names.lookup x = some .free
def Loc (sc : Scope) (x : Str) : Prop := sc.names.lookup x = some .local ∨ sc.names.lookup x = some .cell
def Look (env : Env) (h : Heap) (m : Str → Option Value) (x : Str) (u : Value) : Prop :=
  (env.kindOf x = some .local ∧ m x = some u) ∨ ((env.kindOf x = some .cell ∨ env.kindOf x = some .free) ∧ ∃ c, env.cells.lookup x = some c ∧ h.IsCell c (some u))
structure Cx.Ok (X : Cx) : Prop where
  mod : Mod X.K X.mg X.base
  kind : X.env.scope.kind = .function
  glob : X.env.globals = mainGlobals
  blt : X.env.builtins = builtinsNs
  above : X.s₀.heap.objs.size ≤ X.env.locals
  inj : ∀ x y c, X.env.cells.lookup x = some c → X.env.cells.lookup y = some c → x = y
  has : ∀ x, (X.env.kindOf x = some .cell ∨ X.env.kindOf x = some .free) → ∃ c, X.env.cells.lookup x = some c
  cab : ∀ x c, X.fn x = true → X.env.cells.lookup x = some c → X.s₀.heap.objs.size ≤ c
  hd : X.calm = true → X.A.handled = none
  frames : X.A.frames = some X.stack
  stk : X.stack = X.outer ∨ (X.stack = X.env :: X.outer ∧ X.env.frame = some X.env.locals)
  exf : ∀ b ∈ X.ex, b ≠ X.env.locals ∧ ∀ x c, X.env.cells.lookup x = some c → c ≠ b
  bs : ∀ b o, X.base.get? b = some o → X.s₀.heap.get? b = some o ∧ X.H₀ b = none
  bsz : X.base.objs.size ≤ X.s₀.heap.objs.size
  noex : ∀ b o, X.base.get? b = some o → b ∉ X.ex
  exfs : ∀ b ∈ X.ex, b ∉ X.fs
  funs : X.s₀.heap.FunFrames X.base X.outer
  frf : ∀ b ∈ X.fs, X.H₀ b = none
structure Inv (X : Cx) (pins : List (Addr × Obj)) (σ : List (Option V)) (H : Hp) (s : Shared) : Prop where
  ok : X.Ok
  os : s.os = X.s₀.os
  bare : AllBare s.gens
  base : Un X.fs X.ex X.H₀ H X.s₀.heap s.heap
  loc : ∃ m, s.heap.Ns X.env.locals m ∧ ∀ (i : Nat) (x : Str) (v : V), X.N[i]? = some x → σ[i]? = some (some v) → Vis X.env.scope x → ∃ u, RelV v u ∧ Look X.env s.heap m x u
  cell : ∀ x c, X.env.cells.lookup x = some c → ∃ v, s.heap.IsCell c v
  free : H X.env.locals = none
  freeC : ∀ x c, X.env.cells.lookup x = some c → H c = none
  pin : ∀ p ∈ X.pn ++ pins, s.heap.get? p.1 = some p.2 ∧ H p.1 = none ∧ p.1 ≠ X.env.locals ∧ p.1 ∉ X.fs ∧ ∀ v, p.2.data ≠ .cell v
  hok : HOk X.prog X.w H s.heap
  len : σ.length = X.N.length
section
variable {X : Cx} {pins : List (Addr × Obj)} {σ : List (Option V)} {H H' : Hp} {s : Shared} {h' : Heap}
theorem Cx.Ok.nofr (ok : X.Ok) {b : Addr} {o : Obj} (e : X.base.get? b = some o) : b ∉ X.fs := fun hb => by
  have := (ok.funs.mem hb).1
  rw [e] at this; cases this
theorem Inv.bs (I : Inv X pins σ H s) : ∀ b o, X.base.get? b = some o → s.heap.get? b = some o ∧ H b = none := fun b o e =>
  ⟨I.base.keep b o (I.ok.bs b o e).1 (I.ok.bs b o e).2 (I.ok.nofr e) (I.ok.noex b o e), I.base.free b o (I.ok.bs b o e).1 (I.ok.bs b o e).2 (I.ok.noex b o e)⟩
theorem Inv.bk (I : Inv X pins σ H s) : ∀ b o, X.base.get? b = some o → s.heap.get? b = some o := fun b o e => (I.bs b o e).1
theorem Inv.mod (I : Inv X pins σ H s) : Mod X.K X.mg X.base := I.ok.mod
theorem Inv.kIn (I : Inv X pins σ H s) : X.K.In s.heap := I.ok.mod.kin.keeps I.bk
theorem Inv.nolimit (I : Inv X pins σ H s) : s.heap.NoLimit := I.ok.mod.nolimit.keeps I.bk
/-- the frame over the base: for OpenK's rules (K.In X.base is I.mod.kin) -/
theorem Inv.fr (I : Inv X pins σ H s) : ∃ m, Fr X.base X.env.locals s.heap m :=
  let ⟨m, hn, _⟩ := I.loc
  ⟨m, hn, I.bk, Nat.le_trans I.ok.bsz I.ok.above⟩
theorem Inv.lt (I : Inv X pins σ H s) : X.env.locals < s.heap.objs.size := let ⟨_, hn, _⟩ := I.loc; hn.lt
theorem Inv.sz (I : Inv X pins σ H s) : X.s₀.heap.objs.size ≤ s.heap.objs.size := Nat.le_trans I.ok.above (Nat.le_of_lt I.lt)
theorem Inv.nofs (I : Inv X pins σ H s) {a : Addr} (h : s.heap.objs.size ≤ a) : a ∉ X.fs := fun hb => by
  obtain ⟨_, o, ho, _⟩ := I.ok.funs.mem hb
  exact absurd (Nat.lt_of_lt_of_le (Heap.lt_size ho) (Nat.le_trans I.sz h)) (Nat.lt_irrefl _)
theorem Inv.cne (I : Inv X pins σ H s) : ∀ x c, X.env.cells.lookup x = some c → c ≠ X.env.locals := fun x c e z => by
  obtain ⟨v, o, ho, hd⟩ := I.cell x c e
  obtain ⟨m, ⟨o', es, ep, ho', hd', _⟩, _⟩ := I.loc
  rw [z, ho'] at ho; cases ho; rw [hd'] at hd; cases hd
theorem Inv.funs (I : Inv X pins σ H s) : s.heap.FunFrames X.base X.outer := by
  have all : ∀ (l : List Env), (∀ b ∈ frs l, b ∈ X.fs) → X.s₀.heap.FunFrames X.base l → s.heap.FunFrames X.base l := by
    intro l
    induction l with
    | nil => intro _ _; trivial
    | cons env r ih =>
      intro hs hl
      obtain ⟨hk, ⟨L, o, hf, hn, ho, hd⟩, hr⟩ := hl
      have hL : L ∈ X.fs := hs L (by unfold frs; rw [List.filterMap_cons, hf]; exact List.mem_cons_self)
      obtain ⟨sl, e⟩ := I.base.slot L o ho (I.ok.frf L hL) hL fun z => I.ok.exfs L z hL
      exact ⟨hk, ⟨L, _, hf, hn, e, hd⟩, ih (fun b hb => hs b (by unfold frs; rw [List.filterMap_cons, hf]; exact List.mem_cons_of_mem _ hb)) hr⟩
  exact all X.outer (fun _ hb => hb) I.ok.funs
/-- the frames that run, for a call -/
theorem Inv.stack (I : Inv X pins σ H s) : s.heap.FunFrames X.base X.stack := by
  rcases I.ok.stk with e | ⟨e, hf⟩
  · rw [e]; exact I.funs
  · rw [e]
    obtain ⟨m, hn, _⟩ := I.loc
    refine .cons (by rw [I.ok.kind]; decide) hf hn ?_ I.funs
    exact Heap.get?_none_of_le (Nat.le_trans I.ok.bsz I.ok.above)
theorem Inv.stkSub (I : Inv X pins σ H s) : ∀ b ∈ frs X.stack, b ∈ X.env.locals :: X.fs := fun b hb => by
  rcases I.ok.stk with e | ⟨e, hf⟩
  · rw [e] at hb; exact List.mem_cons_of_mem _ hb
  · rw [e] at hb
    unfold frs at hb
    rw [List.filterMap_cons, hf] at hb
    exact hb
theorem Inv.stkFree (I : Inv X pins σ H s) : ∀ b ∈ frs X.stack, H b = none := fun b hb => by
  rcases List.mem_cons.mp (I.stkSub b hb) with e | hb
  · rw [e]; exact I.free
  · obtain ⟨_, o, ho, _⟩ := I.ok.funs.mem hb
    exact I.base.free b o ho (I.ok.frf b hb) fun z => I.ok.exfs b z hb
/-- THE STEP: the untracked objects but the frame and the records at ch are kept (the callers' frames up to slots), the frame's map is kept, the new abstract heap is held -/
theorem Inv.step {g' : Array GenState} {t' : Nat} {d' : Drawn} {ch : List Addr} (I : Inv X pins σ H s)
    (hch : ∀ b ∈ ch, (b ∈ X.ex ∨ X.s₀.heap.objs.size ≤ b) ∧ b ≠ X.env.locals ∧ (∀ x c, X.env.cells.lookup x = some c → c ≠ b) ∧ ∀ p ∈ X.pn ++ pins, p.1 ≠ b)
    (keep : ∀ b o, b ≠ X.env.locals → b ∉ X.fs → b ∉ ch → s.heap.get? b = some o → H b = none → h'.get? b = some o)
    (slot : ∀ b o, b ≠ X.env.locals → b ∈ X.fs → b ∉ ch → s.heap.get? b = some o → H b = none → ∃ sl, h'.get? b = some { o with slots := sl }) (free : ∀ b o, b ∉ ch → s.heap.get? b = some o → H b = none → H' b = none)
    (there : ∀ b o, b ∉ ch → s.heap.get? b = some o → ∃ o', h'.get? b = some o')
    (tups : ∀ b xs, H b = some (.tup xs) → H' b = some (.tup xs)) (frzs : ∀ b o u, H b = some (.frz o u) → H' b = some (.frz o u)) (tbls : ∀ b ps, H b = some (.tbl ps) → ∃ more, H' b = some (.tbl (ps ++ more)))
    (ns : ∀ m, s.heap.Ns X.env.locals m → h'.Ns X.env.locals m) (hok : HOk X.prog X.w H' h') (hg : AllBare g') :
    Inv X pins σ H' { s with heap := h', gens := g', drawn := d', toks := t' } := by
  have neL : ∀ b o, X.s₀.heap.get? b = some o → b ≠ X.env.locals := fun b o e => Nat.ne_of_lt (Nat.lt_of_lt_of_le (Heap.lt_size e) I.ok.above)
  have neC : ∀ b o, X.s₀.heap.get? b = some o → b ∉ X.ex → b ∉ ch := fun b o e hx hb => by
    rcases (hch b hb).1 with z | z
    · exact hx z
    · exact absurd (Nat.lt_of_lt_of_le (Heap.lt_size e) z) (Nat.lt_irrefl _)
  have cellK : ∀ x c, X.env.cells.lookup x = some c → ∀ v, s.heap.IsCell c v → h'.IsCell c v := fun x c e v ⟨o, ho, hd⟩ => by
    have nch : c ∉ ch := fun z => (hch c z).2.2.1 x c e rfl
    by_cases hc : c ∈ X.fs
    · obtain ⟨sl, q⟩ := slot c o (I.cne x c e) hc nch ho (I.freeC x c e)
      exact ⟨_, q, hd⟩
    · exact ⟨o, keep c o (I.cne x c e) hc nch ho (I.freeC x c e), hd⟩
  refine ⟨I.ok, I.os, hg, ⟨fun b o e n hb hx => ?_, fun b o e n hb hx => ?_, fun b o e n hx => ?_, fun b o e hx => ?_, fun b xs e => tups b xs (I.base.tups b xs e), fun b o xs e => frzs b o xs (I.base.frzs b o xs e), fun b ps e => ?_⟩, ?_, fun x c e => ?_, ?_, fun x c e => ?_, fun p hp => ?_, hok, I.len⟩
  · exact keep b o (neL b o e) hb (neC b o e hx) (I.base.keep b o e n hb hx) (I.base.free b o e n hx)
  · obtain ⟨sl, e1⟩ := I.base.slot b o e n hb hx
    obtain ⟨sl', e2⟩ := slot b _ (neL b o e) hb (neC b o e hx) e1 (I.base.free b o e n hx)
    exact ⟨sl', e2⟩
  · obtain ⟨o', e1⟩ := I.base.there b o e hx
    exact free b o' (neC b o e hx) e1 (I.base.free b o e n hx)
  · obtain ⟨o', e1⟩ := I.base.there b o e hx
    exact there b o' (neC b o e hx) e1
  · obtain ⟨m1, e1⟩ := I.base.tbls b ps e
    obtain ⟨m2, e2⟩ := tbls b _ e1
    exact ⟨m1 ++ m2, by rw [e2, Array.append_assoc]⟩
  · obtain ⟨m, hn, hl⟩ := I.loc
    refine ⟨m, ns m hn, fun i x v e1 e2 e3 => ?_⟩
    obtain ⟨u, r, l⟩ := hl i x v e1 e2 e3
    refine ⟨u, r, ?_⟩
    rcases l with l | ⟨k, c, e, z⟩
    · exact .inl l
    · exact .inr ⟨k, c, e, cellK x c e _ z⟩
  · obtain ⟨v, z⟩ := I.cell x c e
    exact ⟨v, cellK x c e v z⟩
  · obtain ⟨m, ⟨o, _, _, ho, _⟩, _⟩ := I.loc
    exact free _ o (fun z => (hch _ z).2.1 rfl) ho I.free
  · obtain ⟨v, o, ho, hd⟩ := I.cell x c e
    exact free c o (fun z => (hch c z).2.2.1 x c e rfl) ho (I.freeC x c e)
  · obtain ⟨e, n, ne, nf, d⟩ := I.pin p hp
    have nch : p.1 ∉ ch := fun z => (hch p.1 z).2.2.2 p hp rfl
    exact ⟨keep p.1 p.2 ne nf nch e n, free p.1 p.2 nch e n, ne, nf, d⟩
/-- .. where the frame's own object is kept too -/
theorem Inv.un {t' : Nat} (I : Inv X pins σ H s) (u : Un X.fs [] H H' s.heap h') (hok : HOk X.prog X.w H' h') : Inv X pins σ H' { s with heap := h', toks := t' } := by
  obtain ⟨m, ⟨o, es, ep, ho, r⟩, _⟩ := id I.loc
  obtain ⟨sl, hL⟩ := u.any ho I.free (by simp)
  exact I.step (g' := s.gens) (d' := s.drawn) (ch := []) (fun _ z => nomatch z) (fun b o _ hb _ e n => u.keep b o e n hb (by simp)) (fun b o _ hb _ e n => u.slot b o e n hb (by simp)) (fun b o _ e n => u.free b o e n (by simp)) (fun b o _ e => u.there b o e (by simp)) u.tups u.frzs u.tbls (fun m' hm => by
    obtain ⟨o', es', ep', ho', r'⟩ := hm
    rw [ho] at ho'; cases ho'
    exact ⟨_, es', ep', hL, r'⟩) hok I.bare
/-- behind a call (or a comprehension's block): the slots of this frame may have changed too, the records at ch may have turned -/
theorem Inv.call {g' : Array GenState} {t' : Nat} {d' : Drawn} {ch : List Addr} (I : Inv X pins σ H s) (u : Un (frs X.stack) ch H H' s.heap h') (hok : HOk X.prog X.w H' h') (hg : AllBare g')
    (hch : ∀ b ∈ ch, (b ∈ X.ex ∨ X.s₀.heap.objs.size ≤ b) ∧ b ≠ X.env.locals ∧ (∀ x c, X.env.cells.lookup x = some c → c ≠ b) ∧ ∀ p ∈ X.pn ++ pins, p.1 ≠ b) :
    Inv X pins σ H' { s with heap := h', gens := g', drawn := d', toks := t' } := by
  obtain ⟨m, ⟨o, es, ep, ho, r⟩, _⟩ := id I.loc
  obtain ⟨sl, hL⟩ := u.any ho I.free fun z => (hch _ z).2.1 rfl
  exact I.step (ch := ch) hch (fun b o hL hb hc e n => u.keep b o e n (fun z => (List.mem_cons.mp (I.stkSub b z)).elim hL hb) hc) (fun b o _ _ hc e n => u.any e n hc) (fun b o hc e n => u.free b o e n hc) (fun b o hc e => u.there b o e hc) u.tups u.frzs u.tbls (fun m' hm => by
    obtain ⟨o', es', ep', ho', r'⟩ := hm
    rw [ho] at ho'; cases ho'
    exact ⟨_, es', ep', hL, r'⟩) hok hg
/-- an untracked record of ours (an iterator) has turned -/
theorem Inv.turned {t' : Nat} {it : Addr} (I : Inv X pins σ H s) (k : ∀ b o, b ≠ it → s.heap.get? b = some o → h'.get? b = some o) (hn : H it = none) (hL : it ≠ X.env.locals)
    (h1 : it ∈ X.ex ∨ X.s₀.heap.objs.size ≤ it) (h2 : ∀ x c, X.env.cells.lookup x = some c → c ≠ it) (h3 : ∀ p ∈ X.pn ++ pins, p.1 ≠ it) : Inv X pins σ H { s with heap := h', toks := t' } := by
  have nit : ∀ b u, H b = some u → b ≠ it := fun b u e z => by rw [z, hn] at e; cases e
  refine I.step (g' := s.gens) (d' := s.drawn) (ch := [it]) (fun b hb => ?_) (fun b o _ _ hc e _ => k b o (fun z => hc (by simp [z])) e) (fun b o _ _ hc e _ => ⟨o.slots, k b o (fun z => hc (by simp [z])) e⟩) (fun _ _ _ _ n => n)
    (fun b o hc e => ⟨o, k b o (fun z => hc (by simp [z])) e⟩) (fun _ _ e => e) (fun _ _ _ e => e) (fun b ps e => ⟨#[], by rw [e]; simp⟩) (fun m hm => ?_) (fun b u e => ?_) I.bare
  · have e : b = it := by simpa using hb
    subst e
    exact ⟨h1, hL, h2, h3⟩
  · obtain ⟨o, es, ep, ho, r⟩ := hm
    exact ⟨o, es, ep, k _ o (Ne.symm hL) ho, r⟩
  · refine (I.hok b u e).stay (fun c v hc q => k c v ?_ q) (fun _ q => q) fun _ _ q => q
    rcases hc with z | z
    · rw [z]; exact nit b u e
    · exact nit c _ z
theorem Inv.tok (I : Inv X pins σ H s) (t : Nat) : Inv X pins σ H { s with toks := t } := I.un (h' := s.heap) (t' := t) Un.refl I.hok
/-- all objects kept -/
theorem Inv.kept {t' : Nat} (I : Inv X pins σ H s) (k : ∀ b u, s.heap.get? b = some u → h'.get? b = some u) : Inv X pins σ H { s with heap := h', toks := t' } := I.un (Un.kept k) (I.hok.kept k)
/-- a new object laid and tracked -/
theorem Inv.laid {a : Addr} {o : HO} {t' : Nat} (I : Inv X pins σ H s) (k : ∀ b u, s.heap.get? b = some u → h'.get? b = some u) (hp : s.heap.objs.size ≤ a) (new : ObjOk X.prog X.w (upd H a o) h' a o) :
    Inv X pins σ (upd H a o) { s with heap := h', toks := t' } := I.un (Un.laid k hp (I.hok.fresh hp)) (I.hok.laid k hp new)
/-- an object written -/
theorem Inv.write {x e : Addr} {o : HO} {t' : Nat} (I : Inv X pins σ H s) (mu : Mut (H x)) (he : e = x ∨ H e = some (.own x)) (k : ∀ b u, b ≠ e → s.heap.get? b = some u → h'.get? b = some u) (heo : ∃ u, h'.get? e = some u)
    (new : ObjOk X.prog X.w (upd H x o) h' x o) : Inv X pins σ (upd H x o) { s with heap := h', toks := t' } := I.un (Un.write mu he k heo) (I.hok.write mu he k heo new)
theorem Inv.pins_of {pins' : List (Addr × Obj)} (I : Inv X pins σ H s) (h : ∀ p ∈ pins', s.heap.get? p.1 = some p.2 ∧ H p.1 = none ∧ p.1 ≠ X.env.locals ∧ p.1 ∉ X.fs ∧ ∀ v, p.2.data ≠ .cell v) : Inv X pins' σ H s :=
  ⟨I.ok, I.os, I.bare, I.base, I.loc, I.cell, I.free, I.freeC, fun p hp => (List.mem_append.mp hp).elim (fun z => I.pin p (List.mem_append_left _ z)) (h p), I.hok, I.len⟩
theorem nodup_ix {N : List Str} (hN : N.Nodup) {i j : Nat} {x : Str} (a : N[i]? = some x) (b : N[j]? = some x) : i = j := by
  obtain ⟨h1, e1⟩ := List.getElem?_eq_some_iff.mp a
  obtain ⟨h2, e2⟩ := List.getElem?_eq_some_iff.mp b
  exact (List.getElem_inj hN).mp (e1.trans e2.symm)
/-- a name is stored; what changed -/
theorem store_ok2 {M : Model} {A : Around} {E : Value → Shared → Prop} {i : Nat} {x : Str} {v : V} {u : Value} {Q : Unit → Shared → Prop} (I : Inv X pins σ H s) (hN : X.N.Nodup) (hi : X.N[i]? = some x) (hx : Loc X.env.scope x) (r : RelV v u)
    (h : ∀ s', Inv X pins (σ.set i (some v)) H s' → (∃ a, Heap.SameBut a s.heap s'.heap ∧ (a = X.env.locals ∨ X.env.cells.lookup x = some a)) → Q () s') (hf : X.fn x = true ∨ X.env.scope.names.lookup x = some .local := by first | exact .inl rfl | exact .inr rfl | assumption) : wpAny M A (storeName X.env x u) Q E s := by
  obtain ⟨m, hn, hl⟩ := id I.loc
  have hcls : (X.env.scope.kind == .class || (X.env.scope.kind == .module && X.env.locals != X.env.globals)) = false := by rw [I.ok.kind]; rfl
  have hiσ : i < σ.length := by rw [I.len]; exact (List.getElem?_eq_some_iff.mp hi).1
  have cne := I.cne
  have tracked : ∀ {a : Addr} {h' : Heap}, (∃ o, s.heap.get? a = some o ∧ H a = none) → Heap.SameBut a s.heap h' → HOk X.prog X.w H h' := fun {a h'} ha hs b ob e => by
    obtain ⟨_, _, hfree⟩ := ha
    refine (I.hok b ob e).stay (fun c w' hc q => (hs.2 c ?_).trans q) (fun _ q => q) fun _ _ q => q
    rintro rfl
    rcases hc with rfl | hc
    · rw [hfree] at e; cases e
    · rw [hfree] at hc; cases hc
  rcases hx with hk | hk
  · refine wpAny_storeName_local hk hn (fun h' hn' hs => ?_) hcls
    obtain ⟨oL, _, _, hoL, _⟩ := id hn
    refine h _ ⟨I.ok, I.os, I.bare, ⟨fun b o e n hb hx => ?_, fun b o e n hb hx => ?_, I.base.free, fun b o e hx => ?_, I.base.tups, I.base.frzs, I.base.tbls⟩, ⟨_, hn', fun j y v' e1 e2 e3 => ?_⟩, fun y c e => ?_, I.free, I.freeC, fun p hp => ?_, tracked ⟨oL, hoL, I.free⟩ hs, by simpa using I.len⟩ ⟨_, hs, .inl rfl⟩
    · exact (hs.2 b (Nat.ne_of_lt (Nat.lt_of_lt_of_le (Heap.lt_size e) I.ok.above))).trans (I.base.keep b o e n hb hx)
    · obtain ⟨sl, e1⟩ := I.base.slot b o e n hb hx
      exact ⟨sl, (hs.2 b (Nat.ne_of_lt (Nat.lt_of_lt_of_le (Heap.lt_size e) I.ok.above))).trans e1⟩
    · obtain ⟨o', e1⟩ := I.base.there b o e hx
      exact ⟨o', (hs.2 b (Nat.ne_of_lt (Nat.lt_of_lt_of_le (Heap.lt_size e) I.ok.above))).trans e1⟩
    · by_cases hj : j = i
      · subst hj
        rw [hi] at e1; cases e1
        rw [List.getElem?_set_self hiσ] at e2
        cases e2
        exact ⟨u, r, .inl ⟨hk, by simp⟩⟩
      · rw [List.getElem?_set_ne (Ne.symm hj)] at e2
        obtain ⟨u', r', q⟩ := hl j y v' e1 e2 e3
        refine ⟨u', r', ?_⟩
        rcases q with ⟨k, e⟩ | ⟨k, c, e, z⟩
        · refine .inl ⟨k, ?_⟩
          have : y ≠ x := fun e => hj (nodup_ix hN e1 (e ▸ hi))
          simp [this, e]
        · exact .inr ⟨k, c, e, z.sameBut hs (cne y c e)⟩
    · obtain ⟨w', z⟩ := I.cell y c e
      exact ⟨w', z.sameBut hs (cne y c e)⟩
    · obtain ⟨e, n, ne, nf, d⟩ := I.pin p hp
      exact ⟨(hs.2 p.1 ne).trans e, n, ne, nf, d⟩
  · have hfn : X.fn x = true := by
      rcases hf with z | z
      · exact z
      · rw [z] at hk; cases hk
    obtain ⟨c, hc⟩ := I.ok.has x (.inl hk)
    obtain ⟨w', z⟩ := I.cell x c hc
    refine wpAny_storeName_cell I.ok.kind hk hc z (fun h' hc' hs => ?_)
    obtain ⟨oc, hoc, hocd⟩ := id z
    refine h { s with heap := h' } ⟨I.ok, I.os, I.bare, ⟨fun b o e n hb hx => ?_, fun b o e n hb hx => ?_, I.base.free, fun b o e hx => ?_, I.base.tups, I.base.frzs, I.base.tbls⟩, ⟨m, hn.sameBut hs (Ne.symm (cne x c hc)), fun j y v' e1 e2 e3 => ?_⟩, fun y c' e => ?_, I.free, I.freeC, fun p hp => ?_, tracked ⟨oc, hoc, I.freeC x c hc⟩ hs, by simpa using I.len⟩ ⟨c, hs, .inr hc⟩
    · exact (hs.2 b (Nat.ne_of_lt (Nat.lt_of_lt_of_le (Heap.lt_size e) (I.ok.cab x c hfn hc)))).trans (I.base.keep b o e n hb hx)
    · obtain ⟨sl, e1⟩ := I.base.slot b o e n hb hx
      exact ⟨sl, (hs.2 b (Nat.ne_of_lt (Nat.lt_of_lt_of_le (Heap.lt_size e) (I.ok.cab x c hfn hc)))).trans e1⟩
    · obtain ⟨o', e1⟩ := I.base.there b o e hx
      exact ⟨o', (hs.2 b (Nat.ne_of_lt (Nat.lt_of_lt_of_le (Heap.lt_size e) (I.ok.cab x c hfn hc)))).trans e1⟩
    · by_cases hj : j = i
      · subst hj
        rw [hi] at e1; cases e1
        rw [List.getElem?_set_self hiσ] at e2
        cases e2
        exact ⟨u, r, .inr ⟨.inl hk, c, hc, hc'⟩⟩
      · rw [List.getElem?_set_ne (Ne.symm hj)] at e2
        obtain ⟨u', r', q⟩ := hl j y v' e1 e2 e3
        refine ⟨u', r', ?_⟩
        rcases q with q | ⟨k, c', e, z'⟩
        · exact .inl q
        · refine .inr ⟨k, c', e, z'.sameBut hs ?_⟩
          rintro rfl
          exact hj (nodup_ix hN e1 (I.ok.inj _ _ _ e hc ▸ hi))
    · by_cases hcc : c' = c
      · subst hcc; exact ⟨_, hc'⟩
      · obtain ⟨w2, z2⟩ := I.cell y c' e
        exact ⟨w2, z2.sameBut hs hcc⟩
    · obtain ⟨e, n, ne, nf, d⟩ := I.pin p hp
      refine ⟨(hs.2 p.1 ?_).trans e, n, ne, nf, d⟩
      intro q
      rw [q, hoc] at e
      have q' : oc = p.2 := Option.some.inj e
      exact d w' (by rw [← q']; exact hocd)
theorem store_ok {M : Model} {A : Around} {E : Value → Shared → Prop} {i : Nat} {x : Str} {v : V} {u : Value} {Q : Unit → Shared → Prop} (I : Inv X pins σ H s) (hN : X.N.Nodup) (hi : X.N[i]? = some x) (hx : Loc X.env.scope x) (r : RelV v u)
    (h : ∀ s', Inv X pins (σ.set i (some v)) H s' → Q () s') (hf : X.fn x = true ∨ X.env.scope.names.lookup x = some .local := by first | exact .inl rfl | exact .inr rfl | assumption) : wpAny M A (storeName X.env x u) Q E s :=
  store_ok2 I hN hi hx r (fun s' I' _ => h s' I') hf
/-- behind a call or a block, the state as it is -/
theorem Inv.call' {s' : Shared} {ch : List Addr} (I : Inv X pins σ H s) (ho : s'.os = s.os) (u : Un (frs X.stack) ch H H' s.heap s'.heap) (hok : HOk X.prog X.w H' s'.heap) (hg : AllBare s'.gens)
    (hch : ∀ b ∈ ch, (b ∈ X.ex ∨ X.s₀.heap.objs.size ≤ b) ∧ b ≠ X.env.locals ∧ (∀ x c, X.env.cells.lookup x = some c → c ≠ b) ∧ ∀ p ∈ X.pn ++ pins, p.1 ≠ b) : Inv X pins σ H' s' := by
  obtain ⟨h', g', d', t', o'⟩ := s'
  have e : o' = s.os := ho
  subst e
  exact I.call (g' := g') (t' := t') (d' := d') u hok hg hch
end
/-! ### the judgements -/
/-- an exception: its class, its own dict's address (where it has one), the abstract heap behind it -/
abbrev XK := Value → Option Addr → Hp → Prop
abbrev St := List (Option V)
abbrev VK := V → Hp → Prop
/-- an expression's reading; a test's; an argument list's -/
abbrev TE := St → Hp → VK → Prop
abbrev TT := St → Hp → (Bool → Hp → Prop) → Prop
abbrev TA := St → Hp → (List V → Hp → Prop) → Prop
/-- what is wanted behind a statement -/
structure Ends where
  nx : St → Hp → Prop
  rt : VK
  bk : St → Hp → Prop := fun _ _ => False
  ct : St → Hp → Prop := fun _ _ => False
abbrev TS := Ends → St → Hp → Prop
def EP (X : Cx) (pins : List (Addr × Obj)) (σ : St) (Q : VK) (u : Value) (s' : Shared) : Prop := ∃ v H', Inv X pins σ H' s' ∧ RelV v u ∧ Q v H'
def TP (X : Cx) (pins : List (Addr × Obj)) (σ : St) (Q : Bool → Hp → Prop) (b : Bool) (s' : Shared) : Prop := ∃ H', Inv X pins σ H' s' ∧ Q b H'
def AP (X : Cx) (pins : List (Addr × Obj)) (σ : St) (Q : List V → Hp → Prop) (us : List Value) (s' : Shared) : Prop := ∃ vs H', Inv X pins σ H' s' ∧ Vals vs us ∧ Q vs H'
def SP (X : Cx) (pins : List (Addr × Obj)) (D : Ends) (f : Flow) (s' : Shared) : Prop :=
  match f with
  | .next => ∃ σ' H', Inv X pins σ' H' s' ∧ D.nx σ' H'
  | .brk => ∃ σ' H', Inv X pins σ' H' s' ∧ D.bk σ' H'
  | .cont => ∃ σ' H', Inv X pins σ' H' s' ∧ D.ct σ' H'
  | .ret u => ∃ v σ' H', Inv X pins σ' H' s' ∧ RelV v u ∧ D.rt v H'
def PE (X : Cx) (e : Expr) (t : TE) : Prop :=
  ∀ (pins : List (Addr × Obj)) (s : Shared) (σ : St) (H : Hp) (Q : VK), Inv X pins σ H s → t σ H Q → wpAny (model X.prog X.w) X.A (eval e X.env) (EP X pins σ Q) X.xe s
def PT (X : Cx) (e : Expr) (t : TT) : Prop :=
  ∀ (pins : List (Addr × Obj)) (s : Shared) (σ : St) (H : Hp) (Q : Bool → Hp → Prop), Inv X pins σ H s → t σ H Q → wpAny (model X.prog X.w) X.A (isTrue e X.env (eval e X.env)) (TP X pins σ Q) X.xe s
/-- a test whatever its 'whole' is (and, or) -/
def PW (X : Cx) (e : Expr) (t : TT) : Prop :=
  ∀ (whole : Sem Value) (pins : List (Addr × Obj)) (s : Shared) (σ : St) (H : Hp) (Q : Bool → Hp → Prop), Inv X pins σ H s → t σ H Q → wpAny (model X.prog X.w) X.A (isTrue e X.env whole) (TP X pins σ Q) X.xe s
theorem PW.pt {X : Cx} {e : Expr} {t : TT} (h : PW X e t) : PT X e t := h _
/-- an argument list (no star), from the left -/
def PA (X : Cx) (es : List Expr) (t : TA) : Prop :=
  ∀ (pos : Pos) (pins : List (Addr × Obj)) (s : Shared) (σ : St) (H : Hp) (Q : List V → Hp → Prop), Inv X pins σ H s → t σ H Q → wpAny (model X.prog X.w) X.A (spliced (backTo pos (starEach es X.env))) (AP X pins σ Q) X.xe s
def PS (X : Cx) (st : Stmt) (t : TS) : Prop :=
  ∀ (pins : List (Addr × Obj)) (s : Shared) (σ : St) (H : Hp) (D : Ends), Inv X pins σ H s → t D σ H → wpAny (model X.prog X.w) X.A (exec st X.env) (SP X pins D) X.xe s
def PSs (X : Cx) (st : List Stmt) (t : TS) : Prop :=
  ∀ (pins : List (Addr × Obj)) (s : Shared) (σ : St) (H : Hp) (D : Ends), Inv X pins σ H s → t D σ H → wpAny (model X.prog X.w) X.A (execs st X.env) (SP X pins D) X.xe s
/-- weaken the end -/
theorem thn {α : Type} {t : Sem α} {Q Q' : α → Shared → Prop} {M : Model} {A : Around} {E : Value → Shared → Prop} {s : Shared} (h : wpAny M A t Q E s) (hQ : ∀ a s, Q a s → Q' a s) : wpAny M A t Q' E s := wpAny_mono h hQ fun _ _ x => x
end L2
namespace L2
open PySem PySem.Spec PyProof.Rows
section
variable {X : Cx}
/-! ### names and constants -/
def tVar (i : Nat) : TE := fun σ H Q => ∃ v, σ[i]? = some (some v) ∧ Q v H
def tC (v : V) : TE := fun _ H Q => Q v H
theorem pe_var {i : Nat} {x : Str} {pos : Pos} (hN : X.N[i]? = some x) (hv : Vis X.env.scope x) (hd : (x == ("__debug__" : Str)) = false := by decide) (hcd : (x == ("__classdict__" : Str)) = false := by decide) : PE X (.Name x pos) (tVar i) := by
  intro pins s σ H Q I h
  obtain ⟨v, e, h⟩ := h
  obtain ⟨m, hn, hl⟩ := I.loc
  obtain ⟨u, r, l⟩ := hl i x v hN e hv
  have fin : EP X pins σ Q u s := ⟨v, H, I, r, h⟩
  rcases l with ⟨hk, hm⟩ | ⟨hk, c, hc, hcell⟩
  · exact wpAny_Name (wpAny_loadName_local I.ok.kind hk hn hm fin) hd
  · rcases hk with hk | hk
    · exact wpAny_Name (wpAny_loadName_cell I.ok.kind hk hc hcell fin) hd
    · exact wpAny_Name (wpAny_loadName_free I.ok.kind hk hc hcell fin hcd) hd
theorem pe_int {i j pos} : PE X (.Constant (.int i) j pos) (tC (.int i)) := fun _ _ _ H _ I h => wpAny_Constant_int ⟨.int i, H, I.tok _, ⟨_, rfl⟩, h⟩
theorem pe_bl {b j pos} : PE X (.Constant (.bool b) j pos) (tC (.bl b)) := fun _ _ _ H _ I h => Constant_bool ⟨.bl b, H, I, rfl, h⟩
/-- a global name of the def -/
def Gl (X : Cx) (x : Str) : Prop := X.env.kindOf x = some .globalImplicit
theorem ld_glob {E : Value → Shared → Prop} {pins : List (Addr × Obj)} {s : Shared} {σ : St} {H : Hp} {x : Str} {u : Value} {pos : Pos} {Q : Value → Shared → Prop} (I : Inv X pins σ H s) (hg : Gl X x) (hm : X.mg x = some u) (h : Q u s)
    (hd : (x == ("__debug__" : Str)) = false := by decide) : wpAny (model X.prog X.w) X.A (eval (.Name x pos) X.env) Q E s :=
  Calls.Name_function_global I.ok.kind hg (Calls.loadGlobal_global (by rw [I.ok.glob]; exact I.mod.glob.keeps I.bk) hm h) hd
theorem ld_blt {E : Value → Shared → Prop} {pins : List (Addr × Obj)} {s : Shared} {σ : St} {H : Hp} {x : Str} {u : Value} {pos : Pos} {Q : Value → Shared → Prop} (I : Inv X pins σ H s) (hg : Gl X x) (hm : X.mg x = none) (hv : bootBuiltins x = some u) (h : Q u s)
    (hn : x ≠ "__name__" := by decide) (hd : (x == ("__debug__" : Str)) = false := by decide) : wpAny (model X.prog X.w) X.A (eval (.Name x pos) X.env) Q E s := by
  obtain ⟨mb, h1, h2⟩ := I.mod.blt
  exact Calls.Name_function_global I.ok.kind hg (Calls.loadGlobal_builtin (by rw [I.ok.glob]; exact I.mod.glob.keeps I.bk) hm (by rw [I.ok.blt]; exact h1.keeps I.bk) ((h2 x hn).trans hv) h) hd
/-- a module's constant, a class, a function, as a value -/
theorem pe_glob {x : Str} {v : V} {u : Value} {pos : Pos} (hg : Gl X x) (hm : X.mg x = some u) (r : RelV v u) (hd : (x == ("__debug__" : Str)) = false := by decide) : PE X (.Name x pos) (tC v) :=
  fun _ _ _ H _ I h => ld_glob I hg hm ⟨v, H, I, r, h⟩ hd
theorem pe_bltn {x : Str} {v : V} {u : Value} {pos : Pos} (hg : Gl X x) (hm : X.mg x = none) (hv : bootBuiltins x = some u) (r : RelV v u) (hn : x ≠ "__name__" := by decide) (hd : (x == ("__debug__" : Str)) = false := by decide) : PE X (.Name x pos) (tC v) :=
  fun _ _ _ H _ I h => ld_blt I hg hm hv ⟨v, H, I, r, h⟩ hn hd
/-! ### arithmetic -/
variable {a b : Expr} {ta tb : TE} {pos : Pos}
/-! ### comparisons -/
def PC (X : Cx) (op : CmpOp) (a b : Expr) (t : TE) : Prop :=
  ∀ (pins : List (Addr × Obj)) (s : Shared) (σ : St) (H : Hp) (Q : VK), Inv X pins σ H s → t σ H Q →
    wpAny (model X.prog X.w) X.A (eval a X.env) (fun v s₁ => wpAny (model X.prog X.w) X.A (eval b X.env) (fun u s₂ => wpAny (model X.prog X.w) X.A (compareOp op v u) (EP X pins σ Q) X.xe s₂) X.xe s₁) X.xe s
theorem nobehind (b : Expr) {op : CmpOp} (h : op ≠ .In) (h2 : op ≠ .NotIn) : behindInMarks op b = false := by
  have e1 : (op == CmpOp.In) = false := by cases op <;> first | rfl | exact absurd rfl h
  have e2 : (op == CmpOp.NotIn) = false := by cases op <;> first | rfl | exact absurd rfl h2
  cases b <;> simp [behindInMarks, e1, e2]
/-- is None -/
def tIsN (ta : TE) : TE := fun σ H Q => ta σ H fun x H1 => Q (.bl (decide (x = .non))) H1
def tNotN (ta : TE) : TE := fun σ H Q => ta σ H fun x H1 => Q (.bl (!decide (x = .non))) H1
theorem RelV.none_iff {x : V} {v : Value} (r : RelV x v) : (v == Value.none) = decide (x = .non) := by
  cases x with
  | non => cases r; rfl
  | bl _ => cases r; rfl
  | int _ => obtain ⟨t, rfl⟩ := r; rfl
  | str _ => obtain ⟨t, rfl⟩ := r; rfl
  | byt _ => obtain ⟨t, rfl⟩ := r; rfl
  | flt _ => obtain ⟨t, rfl⟩ := r; rfl
  | ref _ => cases r; rfl
  | ty _ => cases r; rfl
theorem pc_isN {j pos'} (ha : PE X a ta) : PC X .Is a (.Constant .none j pos') (tIsN ta) := by
  intro pins s σ H Q I h
  refine thn (ha pins s σ H _ I h) fun v s1 ⟨x, H1, I1, r1, q1⟩ => ?_
  exact Constant_none (is_none_gen ⟨.bl _, H1, I1, by rw [r1.none_iff]; rfl, q1⟩)
theorem pc_notN {j pos'} (ha : PE X a ta) : PC X .IsNot a (.Constant .none j pos') (tNotN ta) := by
  intro pins s σ H Q I h
  refine thn (ha pins s σ H _ I h) fun v s1 ⟨x, H1, I1, r1, q1⟩ => ?_
  exact Constant_none (isnot_none_gen ⟨.bl _, H1, I1, by rw [r1.none_iff]; rfl, q1⟩)
/-- a comparison as a value, as a test -/
def tB (t : TE) : TT := fun σ H Q => t σ H fun x H1 => ∃ c, x = .bl c ∧ Q c H1
theorem pt_cmp {op : CmpOp} {t : TE} (h : PC X op a b t) (h1 : behindInMarks op b = false := by first | exact nobehind _ (by decide) (by decide) | rfl) : PT X (.Compare a [op] [b] pos) (tB t) := by
  intro pins s σ H Q I hw
  refine wpAny_isTrue_Compare1 (thn (h pins s σ H _ I hw) fun v s1 h1 => thn h1 fun u s2 h2 => thn h2 fun c s3 ⟨x, H1, I1, r1, q1⟩ => ?_) h1
  obtain ⟨d, rfl, q⟩ := q1
  cases r1
  exact wpAny_truthy_bool ⟨H1, I1, q⟩
/-- an expression whose value is a bool, as a test -/
theorem pt_val {e : Expr} {t : TE} (h : PE X e t) (he : ∀ whole, isTrue e X.env whole = (do let v ← whole; standAt e.pos; holding [v] (truthy v)) := by intro _; rfl) : PT X e (tB t) := by
  intro pins s σ H Q I hw
  refine isTrue_plain (thn (h pins s σ H _ I hw) fun v s1 ⟨x, H1, I1, r1, q1⟩ => ?_) (he _)
  obtain ⟨d, rfl, q⟩ := q1
  cases r1
  exact wpAny_truthy_bool ⟨H1, I1, q⟩
/-! ### and, or, not -/
variable {tA tB' : TT} {rest : List Expr}
def tAnd (t u : TT) : TT := fun σ H Q => t σ H fun c H1 => if c = true then u σ H1 Q else Q false H1
def tOr (t u : TT) : TT := fun σ H Q => t σ H fun c H1 => if c = true then Q true H1 else u σ H1 Q
def tNot (t : TT) : TT := fun σ H Q => t σ H fun c H1 => Q (!c) H1
theorem pw_and1 (ha : PT X a tA) : PW X (.BoolOp .And [a] pos) tA := by
  intro wh pins s σ H Q I h
  refine isTrue_and (thn (ha pins s σ H Q I h) fun c s1 e => ?_)
  cases c with
  | true => exact isTrue_and_nil e
  | false => exact e
theorem pw_or1 (ha : PT X a tA) : PW X (.BoolOp .Or [a] pos) tA := by
  intro wh pins s σ H Q I h
  refine isTrue_or (thn (ha pins s σ H Q I h) fun c s1 e => ?_)
  cases c with
  | false => exact isTrue_or_nil e
  | true => exact e
theorem pw_and (ha : PT X a tA) (hb : PW X (.BoolOp .And (b :: rest) pos) tB') : PW X (.BoolOp .And (a :: b :: rest) pos) (tAnd tA tB') := by
  intro wh pins s σ H Q I h
  refine isTrue_and (thn (ha pins s σ H _ I h) fun c s1 ⟨H1, I1, q1⟩ => ?_)
  cases c with
  | true => exact hb wh pins s1 σ H1 Q I1 q1
  | false => exact ⟨H1, I1, q1⟩
theorem pw_or (ha : PT X a tA) (hb : PW X (.BoolOp .Or (b :: rest) pos) tB') : PW X (.BoolOp .Or (a :: b :: rest) pos) (tOr tA tB') := by
  intro wh pins s σ H Q I h
  refine isTrue_or (thn (ha pins s σ H _ I h) fun c s1 ⟨H1, I1, q1⟩ => ?_)
  cases c with
  | true => exact ⟨H1, I1, q1⟩
  | false => exact hb wh pins s1 σ H1 Q I1 q1
theorem pt_not (ha : PT X a tA) : PT X (.UnaryOp .Not a pos) (tNot tA) := by
  intro pins s σ H Q I h
  exact isTrue_not (ha pins s σ H (fun c H1 => Q (!c) H1) I h)
/-- .. as values (bools) -/
def tAndV (ta tb : TE) : TE := fun σ H Q => ta σ H fun x H1 => ∃ c, x = .bl c ∧ if c = true then tb σ H1 Q else Q (.bl false) H1
theorem pe_one {op} {t : TE} (h : PE X a t) : PE X (.BoolOp op [a] pos) t := fun pins s σ H Q I hw => BoolOp_one (h pins s σ H Q I hw)
theorem pe_and (ha : PE X a ta) (hb : PE X (.BoolOp .And (b :: rest) pos) tb) : PE X (.BoolOp .And (a :: b :: rest) pos) (tAndV ta tb) := by
  intro pins s σ H Q I h
  refine BoolOp_and (thn (ha pins s σ H _ I h) fun v s1 ⟨x, H1, I1, r1, q1⟩ => ?_)
  obtain ⟨c, rfl, q1⟩ := q1
  cases r1
  refine wpAny_truthy_bool ?_
  cases c with
  | true => exact hb pins s1 σ H1 Q I1 q1
  | false => exact ⟨.bl false, H1, I1, rfl, q1⟩
/-- a if t else b -/
def tIf (t : TT) (ta tb : TE) : TE := fun σ H Q => t σ H fun c H1 => if c = true then ta σ H1 Q else tb σ H1 Q
theorem pe_ifExp {c : Expr} (hc : PT X c tA) (ha : PE X a ta) (hb : PE X b tb) : PE X (.IfExp c a b pos) (tIf tA ta tb) := by
  intro pins s σ H Q I h
  refine wpAny_IfExp (thn (hc pins s σ H _ I h) fun d s1 ⟨H1, I1, q1⟩ => ?_)
  cases d with
  | true => exact ha pins s1 σ H1 Q I1 q1
  | false => exact hb pins s1 σ H1 Q I1 q1
end
end L2
namespace L2
open PySem PySem.Spec PyProof.Rows
/-! ### a list, a tuple that is read: tracked, frozen, or an object of the module -/
def SqL (K : PySem.W.Frag) (H : Hp) (a : Addr) (xs : List V) : Prop :=
  Rd H a (.lst xs) ∨
    ∃ (o : Obj) (its : Array Value) (n : Nat), K.lookup a = some o ∧ o.cls = .type "list" ∧ o.dict = none ∧ o.data = .seq its n ∧ its.size ≤ sizeLine ∧ Vals xs its.toList
def SqT (K : PySem.W.Frag) (H : Hp) (a : Addr) (xs : List V) : Prop :=
  Rd H a (.tup xs) ∨
    ∃ (o : Obj) (its : Array Value) (n : Nat), K.lookup a = some o ∧ o.cls = .type "tuple" ∧ o.data = .seq its n ∧ its.size ≤ sizeLine ∧ Vals xs its.toList
def absV : Value → Option V
  | .none => some .non
  | .bool b => some (.bl b)
  | .int i _ => some (.int i)
  | .str x _ => some (.str x)
  | .bytes b _ => some (.byt b)
  | .float b _ => some (.flt b)
  | .ref a => some (.ref a)
  | .type n => some (.ty n)
  | _ => none
theorem RelV.abs {x : V} {u : Value} (r : RelV x u) : absV u = some x := by
  cases x with
  | non => cases r; rfl
  | bl _ => cases r; rfl
  | int _ => obtain ⟨t, rfl⟩ := r; rfl
  | str _ => obtain ⟨t, rfl⟩ := r; rfl
  | byt _ => obtain ⟨t, rfl⟩ := r; rfl
  | flt _ => obtain ⟨t, rfl⟩ := r; rfl
  | ref _ => cases r; rfl
  | ty _ => cases r; rfl
theorem RelV.inj {x y : V} {u : Value} (r : RelV x u) (q : RelV y u) : x = y := Option.some.inj (r.abs.symm.trans q.abs)
theorem Vals.inj : ∀ {xs ys : List V} {us : List Value}, Vals xs us → Vals ys us → xs = ys
  | _, _, _, .nil, .nil => rfl
  | _, _, _, .cons r t, .cons r' t' => by rw [r.inj r', Vals.inj t t']
section
variable {X : Cx} {pins : List (Addr × Obj)} {σ : St} {H : Hp} {s : Shared} {a : Addr} {xs ys : List V}
theorem SqL.of {K : PySem.W.Frag} (h : H a = some (.lst xs)) : SqL K H a xs := .inl (.inl h)
theorem SqT.of {K : PySem.W.Frag} (h : H a = some (.tup xs)) : SqT K H a xs := .inl (.inl h)
theorem Inv.list (I : Inv X pins σ H s) (h : SqL X.K H a xs) : ∃ its : List Value, Vals xs its ∧ PlainL s.heap a its.toArray ∧ xs.length ≤ sizeLine := by
  rcases h with h | ⟨o, its, n, hk, hc, hd, hs, hz, r⟩
  · obtain ⟨z, its, n, r, e⟩ := h.ok I.hok
    exact ⟨its, r, ⟨_, n, e, rfl, rfl, rfl⟩, z⟩
  · refine ⟨its.toList, r, ⟨o, n, I.kIn a o hk, hc, hd, by simpa using hs⟩, ?_⟩
    have e := r.length
    simp only [Array.length_toList] at e
    omega
theorem Inv.tuple (I : Inv X pins σ H s) (h : SqT X.K H a xs) : ∃ its : List Value, Vals xs its ∧ IsTup s.heap a its.toArray ∧ xs.length ≤ sizeLine := by
  rcases h with h | ⟨o, its, n, hk, hc, hs, hz, r⟩
  · obtain ⟨z, its, r, p⟩ := h.ok I.hok
    exact ⟨its, r, p, z⟩
  · refine ⟨its.toList, r, ⟨o, I.kIn a o hk, hc, n, by simpa using hs⟩, ?_⟩
    have e := r.length
    simp only [Array.length_toList] at e
    omega
theorem Inv.list_inj (I : Inv X pins σ H s) (h : SqL X.K H a xs) (h' : SqL X.K H a ys) : xs = ys := by
  obtain ⟨its, r, ⟨o, n, e, _, _, d⟩, _⟩ := I.list h
  obtain ⟨its', r', ⟨o', n', e', _, _, d'⟩, _⟩ := I.list h'
  rw [e] at e'; cases e'
  rw [d] at d'
  injection d' with d1 _
  have : its = its' := by simpa using congrArg Array.toList d1
  subst this
  exact r.inj r'
end
/-! ### another wish about exceptions -/
abbrev Cx.wish (X : Cx) (E : Value → Shared → Prop) : Cx := { X with xe := E }
/-- no exception leaves -/
abbrev Cx.nox (X : Cx) : Cx := X.wish fun _ _ => False
theorem Cx.Ok.wish {X : Cx} (ok : X.Ok) (E : Value → Shared → Prop) : (X.wish E).Ok :=
  ⟨ok.mod, ok.kind, ok.glob, ok.blt, ok.above, ok.inj, ok.has, ok.cab, ok.hd, ok.frames, ok.stk, ok.exf, ok.bs, ok.bsz, ok.noex, ok.exfs, ok.funs, ok.frf⟩
theorem Cx.Ok.unwish {X : Cx} {E : Value → Shared → Prop} (ok : (X.wish E).Ok) : X.Ok :=
  ⟨ok.mod, ok.kind, ok.glob, ok.blt, ok.above, ok.inj, ok.has, ok.cab, ok.hd, ok.frames, ok.stk, ok.exf, ok.bs, ok.bsz, ok.noex, ok.exfs, ok.funs, ok.frf⟩
section
variable {X : Cx} {pins : List (Addr × Obj)} {σ : St} {H : Hp} {s : Shared} {E : Value → Shared → Prop}
theorem Inv.wish (I : Inv X pins σ H s) (E : Value → Shared → Prop) : Inv (X.wish E) pins σ H s := ⟨I.ok.wish E, I.os, I.bare, I.base, I.loc, I.cell, I.free, I.freeC, I.pin, I.hok, I.len⟩
theorem Inv.unwish (I : Inv (X.wish E) pins σ H s) : Inv X pins σ H s := ⟨I.ok.unwish, I.os, I.bare, I.base, I.loc, I.cell, I.free, I.freeC, I.pin, I.hok, I.len⟩
theorem SP.unwish {D : Ends} {f : Flow} {s' : Shared} (h : SP (X.wish E) pins D f s') : SP X pins D f s' := by
  cases f with
  | next => obtain ⟨σ', H', I, q⟩ := h; exact ⟨σ', H', I.unwish, q⟩
  | brk => obtain ⟨σ', H', I, q⟩ := h; exact ⟨σ', H', I.unwish, q⟩
  | cont => obtain ⟨σ', H', I, q⟩ := h; exact ⟨σ', H', I.unwish, q⟩
  | ret u => obtain ⟨v, σ', H', I, r, q⟩ := h; exact ⟨v, σ', H', I.unwish, r, q⟩
theorem PE.nox {e : Expr} {t : TE} (h : PE X.nox e t) : PE X e t := fun pins s σ H Q I hw =>
  wpAny_mono (h pins s σ H Q (I.wish _) hw) (fun _ _ ⟨v, H', I', r, q⟩ => ⟨v, H', I'.unwish, r, q⟩) fun _ _ z => False.elim z
theorem PT.nox {e : Expr} {t : TT} (h : PT X.nox e t) : PT X e t := fun pins s σ H Q I hw =>
  wpAny_mono (h pins s σ H Q (I.wish _) hw) (fun _ _ ⟨H', I', q⟩ => ⟨H', I'.unwish, q⟩) fun _ _ z => False.elim z
theorem PSs.nox {st : List Stmt} {t : TS} (h : PSs X.nox st t) : PSs X st t := fun pins s σ H D I hw =>
  wpAny_mono (h pins s σ H D (I.wish _) hw) (fun _ _ q => q.unwish) fun _ _ z => False.elim z
end
/-! ### blocks and small statements -/
section
variable {X : Cx} {st : Stmt} {rest : List Stmt} {t u : TS} {e : Expr} {te : TE} {pos : Pos}
def tNext : TS := fun D σ H => D.nx σ H
def tSeq (t u : TS) : TS := fun D σ H => t { D with nx := u D } σ H
theorem pss_nil : PSs X [] tNext := fun _ _ σ H _ I h => wpAny_execs_nil ⟨σ, H, I, h⟩
theorem pss_cons (h1 : PS X st t) (h2 : PSs X rest u) : PSs X (st :: rest) (tSeq t u) := by
  intro pins s σ H D I h
  refine wpAny_execs_cons (thn (h1 pins s σ H { D with nx := u D } I h) fun f s1 q => ?_)
  cases f with
  | next =>
    obtain ⟨σ', H', I', q⟩ := q
    exact h2 pins s1 σ' H' D I' q
  | ret v => exact q
  | brk => exact q
  | cont => exact q
theorem pss_one (h1 : PS X st t) : PSs X [st] t := by
  intro pins s σ H D I h
  refine wpAny_execs_cons (thn (h1 pins s σ H D I h) fun f s1 q => ?_)
  cases f with
  | next => exact wpAny_execs_nil q
  | ret v => exact q
  | brk => exact q
  | cont => exact q
/-- in a def's body nothing is shown -/
theorem Inv.quiet {pins : List (Addr × Obj)} {σ : St} {H : Hp} {s : Shared} (I : Inv X pins σ H s) : interactive X.env = false := by simp [interactive, I.ok.kind]
/-- an expression whose value is dropped -/
def tDrop (te : TE) : TS := fun D σ H => te σ H fun _ H1 => D.nx σ H1
theorem ps_expr (he : PE X e te) (hs : swapsWith e none pos.line X.env = pure false := by rfl) : PS X (.Expr e pos) (tDrop te) := by
  intro pins s σ H D I h
  exact wpAny_Expr_any (thn (he pins s σ H _ I h) fun v s1 ⟨x, H1, I1, r1, q1⟩ => ⟨σ, H1, I1, q1⟩) I.quiet hs
def tRet (te : TE) : TS := fun D σ H => te σ H D.rt
theorem ps_ret (he : PE X e te) : PS X (.Return (some e) pos) (tRet te) := by
  intro pins s σ H D I h
  exact wpAny_Return_some (thn (he pins s σ H _ I h) fun v s1 ⟨x, H1, I1, r1, q1⟩ => ⟨x, σ, H1, I1, r1, q1⟩)
def tIfS (c : TT) (t u : TS) : TS := fun D σ H => c σ H fun b H1 => if b = true then t D σ H1 else u D σ H1
theorem ps_if {c : Expr} {a b : List Stmt} {tc : TT} (hc : PT X c tc) (ha : PSs X a t) (hb : PSs X b u) : PS X (.If c a b pos) (tIfS tc t u) := by
  intro pins s σ H D I h
  refine wpAny_If (thn (hc pins s σ H _ I h) fun d s1 ⟨H1, I1, q1⟩ => ?_)
  cases d with
  | true => exact ha pins s1 σ H1 D I1 q1
  | false => exact hb pins s1 σ H1 D I1 q1
/-- code that the proof never comes to -/
def tNever : TS := fun _ _ _ => False
theorem pss_never {sts : List Stmt} : PSs X sts tNever := fun _ _ _ _ _ _ h => h.elim
end
/-! ### targets -/
abbrev TG := V → St → Hp → (St → Hp → Prop) → Prop
abbrev TGs := List V → St → Hp → (St → Hp → Prop) → Prop
def PG (X : Cx) (target : Expr) (t : TG) : Prop :=
  ∀ (pins : List (Addr × Obj)) (s : Shared) (σ : St) (H : Hp) (v : V) (u : Value) (Q : St → Hp → Prop), Inv X pins σ H s → RelV v u → t v σ H Q →
    wpAny (model X.prog X.w) X.A (assign target X.env u) (fun _ s' => ∃ σ' H', Inv X pins σ' H' s' ∧ Q σ' H') X.xe s
/-- several targets, one after another -/
def PGs (X : Cx) (ts : List Expr) (t : TGs) : Prop :=
  ∀ (pins : List (Addr × Obj)) (s : Shared) (σ : St) (H : Hp) (vs : List V) (us : List Value) (Q : St → Hp → Prop), Inv X pins σ H s → Vals vs us → t vs σ H Q →
    wpAny (model X.prog X.w) X.A (assignInOrder ((assignEach ts X.env).map (·.2)) us) (fun _ s' => ∃ σ' H', Inv X pins σ' H' s' ∧ Q σ' H') X.xe s
/-- o[i] = v, by values -/
abbrev TSet := V → V → V → Hp → (Hp → Prop) → Prop
def PSet (X : Cx) (t : TSet) : Prop :=
  ∀ (pins : List (Addr × Obj)) (s : Shared) (σ : St) (H : Hp) (o i v : V) (ov iv u : Value) (Q : Hp → Prop), Inv X pins σ H s → RelV o ov → RelV i iv → RelV v u → t o i v H Q →
    wpAny (model X.prog X.w) X.A (setItem ov iv u) (fun _ s' => ∃ H', Inv X pins σ H' s' ∧ Q H') X.xe s
section
variable {X : Cx} {pos : Pos}
def gName (i : Nat) : TG := fun v σ H Q => Q (σ.set i (some v)) H
theorem pg_name {i : Nat} {x : Str} (hN : X.N.Nodup) (hi : X.N[i]? = some x) (hx : Loc X.env.scope x) (hf : X.fn x = true ∨ X.env.scope.names.lookup x = some .local := by first | exact .inl rfl | exact .inr rfl | assumption) : PG X (.Name x pos) (gName i) := by
  intro pins s σ H v u Q I r h
  exact wpAny_assign_Name (store_ok I hN hi hx r (fun s' I' => ⟨_, H, I', h⟩) hf)
def gNil : TGs := fun vs σ H Q => vs = [] ∧ Q σ H
def gCons (t : TG) (u : TGs) : TGs := fun vs σ H Q => ∃ v r, vs = v :: r ∧ t v σ H fun σ' H' => u r σ' H' Q
theorem pgs_nil : PGs X [] gNil := by
  intro pins s σ H vs us Q I r h
  obtain ⟨e, h⟩ := h
  subst e
  cases r
  exact assignInOrder_nil ⟨σ, H, I, h⟩
theorem pgs_cons {e : Expr} {es : List Expr} {t : TG} {u : TGs} (h1 : PG X e t) (h2 : PGs X es u)
    (hs : (assignEach (e :: es) X.env).map (·.2) = assign e X.env :: (assignEach es X.env).map (·.2) := by rfl) : PGs X (e :: es) (gCons t u) := by
  intro pins s σ H vs us Q I r h
  obtain ⟨v, vr, e1, h⟩ := h
  subst e1
  cases r with
  | cons r rr =>
    rw [hs]
    refine assignInOrder_cons (thn (h1 pins s σ H _ _ _ I r h) fun _ s1 ⟨σ1, H1, I1, q1⟩ => ?_)
    exact h2 pins s1 σ1 H1 _ _ Q I1 rr q1
/-- (a, b, ..) = a tuple of that length -/
def gTup (K : PySem.W.Frag) (n : Nat) (t : TGs) : TG := fun v σ H Q => ∃ a xs, v = .ref a ∧ SqT K H a xs ∧ xs.length = n ∧ t xs σ H Q
theorem pg_tup {es : List Expr} {k : Nat} {t : TGs} {n : Nat} (hc : X.calm = true) (h : PGs X es t)
    (hn : (assignEach es X.env).length = n := by rfl) (hst : (assignEach es X.env).findIdx? (·.1) = none := by rfl) : PG X (.Tuple es k pos) (gTup X.K n t) := by
  intro pins s σ H v u Q I r hw
  obtain ⟨a, xs, e1, hq, hl, hw⟩ := hw
  subst e1
  cases r
  obtain ⟨its, rv, ht, hz⟩ := I.tuple hq
  refine assign_Tuple_tuple (I.ok.hd hc) ht (by simp [hn, ← hl, rv.length]) hst fun h' hx => ?_
  have I1 : Inv X pins σ H { s with heap := h' } := I.kept (t' := s.toks) fun b o e => hx b o (Nat.ne_of_lt (Heap.lt_size e)) e
  exact h pins _ σ H xs _ Q I1 (by simpa using rv) hw
/-- o[i] = .. -/
def gSub (to ti : TE) (t : TSet) : TG := fun v σ H Q => to σ H fun o H1 => ti σ H1 fun i H2 => t o i v H2 fun H3 => Q σ H3
theorem pg_sub {o i : Expr} {to ti : TE} {t : TSet} (ho : PE X o to) (hi : PE X i ti) (hs : PSet X t)
    (ha : ∀ v, assign (.Subscript o i pos) X.env v = (do
      let ov ← holding [v] (eval o X.env)
      let iv ← holding [v, ov] (eval i X.env)
      standAt pos
      holding [v, ov, iv] (setItem ov iv v)
      release [v, ov, iv] []) := by intro _; rfl) : PG X (.Subscript o i pos) (gSub to ti t) := by
  intro pins s σ H v u Q I r h
  rw [ha]
  refine wpAny_bind (wpAny_holding (thn (ho pins s σ H _ I h) fun ov s1 ⟨x, H1, I1, r1, q1⟩ => ?_))
  refine wpAny_bind (wpAny_holding (thn (hi pins s1 σ H1 _ I1 q1) fun iv s2 ⟨y, H2, I2, r2, q2⟩ => ?_))
  refine wpAny_bind (wpAny_standAt (wpAny_bind (wpAny_holding (thn (hs pins s2 σ H2 x y v ov iv u _ I2 r1 r2 r q2) fun _ s3 ⟨H3, I3, q3⟩ => ?_))))
  exact wpAny_release ⟨σ, H3, I3, q3⟩
/-- target = value -/
def tAsg (te : TE) (g : TG) : TS := fun D σ H => te σ H fun x H1 => g x σ H1 D.nx
theorem ps_asg {tg e : Expr} {te : TE} {g : TG} (he : PE X e te) (hg : PG X tg g) (hs : swapsWithSole [tg] e pos.line X.env = pure false := by rfl) (hw : swappedStores [tg] e X.env = pure none := by rfl)
    (h1 : (assignEach [tg] X.env).map (·.2) = [assign tg X.env] := by rfl) : PS X (.Assign [tg] e pos) (tAsg te g) := by
  intro pins s σ H D I h
  refine wpAny_Assign_stores (thn (he pins s σ H _ I h) fun v s1 ⟨x, H1, I1, r1, q1⟩ => ?_) hs hw
  rw [h1]
  exact thn (hg pins s1 σ H1 x v _ I1 r1 q1) fun _ s2 q => q
/-- name = value -/
theorem ps_set {i : Nat} {x : Str} {e : Expr} {te : TE} {pos' : Pos} (hN : X.N.Nodup) (hi : X.N[i]? = some x) (hx : Loc X.env.scope x) (he : PE X e te) (hs : swapsWith e (some (.Name x pos')) pos.line X.env = pure false := by rfl) (hf : X.fn x = true ∨ X.env.scope.names.lookup x = some .local := by first | exact .inl rfl | exact .inr rfl | assumption) :
    PS X (.Assign [.Name x pos'] e pos) (tAsg te (gName i)) := by
  intro pins s σ H D I h
  refine wpAny_Assign_Name (thn (he pins s σ H _ I h) fun v s1 ⟨y, H1, I1, r1, q1⟩ => ?_) hs
  exact store_ok I1 hN hi hx r1 (fun s2 I2 => ⟨_, H1, I2, q1⟩) hf
end
/-! ### while -/
section
variable {X : Cx} {pos : Pos}
/-- the invariant W with its measure -/
def tWhile (c : TT) (tb : TS) : TS := fun D σ H => ∃ W : Nat → St → Hp → Prop, (∃ m, W m σ H) ∧ ∀ m σ H, W m σ H →
  c σ H fun b H1 => if b = true then ∃ N : St → Hp → Prop, (∀ σ' H', N σ' H' → ∃ m', m' < m ∧ W m' σ' H') ∧ tb { D with nx := N, ct := N, bk := D.nx } σ H1 else D.nx σ H1
theorem ps_while {c : Expr} {body : List Stmt} {tc : TT} {tb : TS} (hp : PassesOwn (model X.prog X.w) X.A X.env X.xe) (hc : PT X c tc) (hb : PSs X body tb) : PS X (.While c body [] pos) (tWhile tc tb) := by
  intro pins s σ H D I h
  obtain ⟨W, ⟨m0, w0⟩, turn⟩ := h
  refine wpAny_While (codeAny_whileLoop (fun n s' => ∃ σ' H', Inv X pins σ' H' s' ∧ W n σ' H') ?_ m0 ⟨σ, H, I, w0⟩)
  rintro n s1 ⟨σ1, H1, I1, w1⟩
  refine wpAny_passesOwn hp (thn (hc pins s1 σ1 H1 _ I1 (turn n σ1 H1 w1)) fun b s2 ⟨H2, I2, q2⟩ => ?_)
  cases b with
  | true =>
    obtain ⟨N, hN, q2⟩ := q2
    rw [if_pos rfl]
    refine wpAny_passesOwn hp (thn (hb pins s2 σ1 H2 _ I2 q2) fun f s3 q3 => ?_)
    cases f with
    | next =>
      obtain ⟨σ3, H3, I3, n3⟩ := q3
      obtain ⟨m', hm, w3⟩ := hN σ3 H3 n3
      exact ⟨m', hm, σ3, H3, I3, w3⟩
    | cont =>
      obtain ⟨σ3, H3, I3, n3⟩ := q3
      obtain ⟨m', hm, w3⟩ := hN σ3 H3 n3
      exact ⟨m', hm, σ3, H3, I3, w3⟩
    | brk => exact q3
    | ret v => exact q3
  | false =>
    rw [if_neg Bool.false_ne_true]
    exact wpAny_execs_nil ⟨σ1, H2, I2, q2⟩
end
/-! ### what a loop or a comprehension walks -/
/-- at turn i: it yields x (the heap may grow), or it stops -/
structure It where
  go : Nat → Hp → Prop
  yld : Nat → Hp → V → Hp → Prop
  stop : Nat → Hp → Prop
/-- the iterator's own objects may turn: they are not the frame's, not pinned, younger than the entry (or a comprehension's own) -/
def FpOk (X : Cx) (pins : List (Addr × Obj)) (H : Hp) (b : Addr) : Prop :=
  H b = none ∧ b ≠ X.env.locals ∧ b ∉ X.fs ∧ (b ∈ X.ex ∨ X.s₀.heap.objs.size ≤ b) ∧ (∀ x c, X.env.cells.lookup x = some c → c ≠ b) ∧ ∀ p ∈ X.pn ++ pins, p.1 ≠ b
theorem Inv.fpOk {X : Cx} {pins : List (Addr × Obj)} {σ : St} {H H' : Hp} {s : Shared} {b : Addr} (I : Inv X pins σ H s) (hb : s.heap.objs.size ≤ b) (hn : H' b = none) : FpOk X pins H' b := by
  refine ⟨hn, Nat.ne_of_gt (Nat.lt_of_lt_of_le I.lt hb), I.nofs hb, .inr (Nat.le_trans I.sz hb), fun x c e z => ?_, fun p hp z => ?_⟩
  · obtain ⟨v, q⟩ := I.cell x c e
    exact absurd (Nat.lt_of_lt_of_le q.lt (by rw [z]; exact hb)) (Nat.lt_irrefl _)
  · exact absurd (Nat.lt_of_lt_of_le (Heap.lt_size (I.pin p hp).1) (by rw [z]; exact hb)) (Nat.lt_irrefl _)
structure Turn (P : Program) (w : World) (K : PySem.W.Frag) (tg : Expr) (J : It) (fp : List Addr) (it : Addr) (tn : Nat → Heap → Prop) : Prop where
  mem : it ∈ fp
  obj : ∀ i h, tn i h → ∀ b ∈ fp, ∃ o, h.get? b = some o ∧ ∀ v, o.data ≠ .cell v
  keep : ∀ i h h', tn i h → (∀ b ∈ fp, ∀ o, h.get? b = some o → h'.get? b = some o) → tn i h'
  item : ∀ (X : Cx), X.prog = P → X.w = w → X.K = K → X.calm = true → ∀ (i : Nat) (pins : List (Addr × Obj)) (s : Shared) (σ : St) (H : Hp) (E : Value → Shared → Prop), Inv X pins σ H s → (∀ b ∈ fp, FpOk X pins H b) → tn i s.heap → J.go i H →
    wpAny (model P w) X.A (pyNext (.ref it)) (fun r s1 => ∃ u, r = some u ∧
      wpAny (model P w) X.A (letOwnedTupleGo tg (.ref it) u) (fun _ s2 => ∃ x H', Inv X pins σ H' s2 ∧ RelV x u ∧ J.yld i H x H' ∧ tn (i + 1) s2.heap ∧ ∀ b ∈ fp, H' b = none) E s1) E s
  done : ∀ (X : Cx), X.prog = P → X.w = w → X.K = K → X.calm = true → ∀ (i : Nat) (pins : List (Addr × Obj)) (s : Shared) (σ : St) (H : Hp) (E : Value → Shared → Prop), Inv X pins σ H s → (∀ b ∈ fp, FpOk X pins H b) → tn i s.heap → J.stop i H →
    wpAny (model P w) X.A (pyNext (.ref it)) (fun r s1 => r = none ∧ Inv X pins σ H s1) E s
  self : ∀ (A : Around) (i : Nat) (s : Shared) (Q : Value → Shared → Prop) (E : Value → Shared → Prop), tn i s.heap → Q (.ref it) s → wpAny (model P w) A (pyIter (.ref it)) Q E s
abbrev TI := St → Hp → (It → Hp → Prop) → Prop
/-- an iterator has come -/
def PIE (X : Cx) (pins : List (Addr × Obj)) (σ : St) (tg : Expr) (R : It → Hp → Prop) (itv : Value) (s2 : Shared) : Prop :=
  ∃ (it : Addr) (fp : List Addr) (tn : Nat → Heap → Prop) (J : It) (H' : Hp), itv = .ref it ∧ Inv X pins σ H' s2 ∧ Turn X.prog X.w X.K tg J fp it tn ∧ tn 0 s2.heap ∧ (∀ b ∈ fp, FpOk X pins H' b) ∧ R J H'
def PI (X : Cx) (tg iter : Expr) (wi : TI) : Prop :=
  ∀ (pins : List (Addr × Obj)) (s : Shared) (σ : St) (H : Hp) (R : It → Hp → Prop), Inv X pins σ H s → wi σ H R →
    wpAny (model X.prog X.w) X.A (eval iter X.env) (fun v s1 => wpAny (model X.prog X.w) X.A (pyIter v) (PIE X pins σ tg R) X.xe s1) X.xe s
/-- the step ahead of the store is nothing for an iterator that keeps no tuple -/
theorem go_of {M : Model} {A : Around} {E : Value → Shared → Prop} {s : Shared} {tg : Expr} {it : Addr} {u : Value} {o : Obj} {n : String} {vs : Array Value} {Q : Unit → Shared → Prop} (ho : s.heap.get? it = some o) (hc : o.cls = .type n) (hd : o.data = .fields vs)
    (hn : ["enumerate", "zip", "dict_itemiterator", "dict_reverseitemiterator", "odict_iterator", "itertools.zip_longest", "itertools.pairwise"].contains n = false) (hQ : Q () s) : wpAny M A (letOwnedTupleGo tg (.ref it) u) Q E s := by
  unfold letOwnedTupleGo
  cases tg <;> first
    | exact wpAny_pure hQ
    | (cases u <;> first
        | exact wpAny_pure hQ
        | (refine wpAny_bind (wpAny_load ho ?_)
           rw [hc, hd]
           show wpAny M A (if (["enumerate", "zip", "dict_itemiterator", "dict_reverseitemiterator", "odict_iterator", "itertools.zip_longest", "itertools.pairwise"].contains n && vs[0]? == some (rawInt _)) = true then _ else _) Q E s
           rw [if_neg (by intro h; rw [hn, Bool.false_and] at h; cases h)]
           exact wpAny_pure hQ))
/-- the list at a, as it stands at each turn (a loop may append to it) -/
def Itl (K : PySem.W.Frag) (a : Addr) : It :=
  ⟨fun i H => ∃ xs x, SqL K H a xs ∧ xs[i]? = some x, fun i H x H' => H' = H ∧ ∀ xs, SqL K H a xs → xs[i]? = some x, fun i H => ∃ xs, SqL K H a xs ∧ xs.length ≤ i⟩
/-- lo, lo + 1, .. (n of them) -/
def Itr (lo : Int) (n : Nat) : It := ⟨fun i _ => i < n, fun i H x H' => H' = H ∧ x = .int (lo + i), fun i _ => n ≤ i⟩
theorem turn_list {P : Program} {w : World} {K : PySem.W.Frag} {tg : Expr} (a it : Addr) : Turn P w K tg (Itl K a) [it] it (fun i h => h.IsListIter it a i) where
  mem := by simp
  obj := fun i h st b hb => by
    have e : b = it := by simpa using hb
    subst e
    obtain ⟨o, e, c, d⟩ := st
    exact ⟨o, e, fun v z => by rw [d] at z; cases z⟩
  keep := fun i h h' st k => st.at fun o e => k it (by simp) o e
  item := by
    intro X hP hw hK hc i pins s σ H E I hf st hg
    subst hP hw hK
    obtain ⟨xs, x, hq, hx⟩ := hg
    obtain ⟨its, rv, p, hz⟩ := I.list hq
    obtain ⟨u, hu, ru⟩ := rv.get hx
    obtain ⟨f0, f1, f2, f3, f4, f5⟩ := hf it (by simp)
    refine wpAny_pyNext_list_item st p.isList (x := u) (by simpa using hu) fun h' st' sb => ?_
    have I1 : Inv X pins σ H { s with heap := h' } := I.turned (t' := s.toks) (fun b o hb e => (sb.2 b hb).trans e) f0 f1 f3 f4 f5
    obtain ⟨o, e, c, d⟩ := id st'
    exact ⟨u, rfl, go_of (s := { s with heap := h' }) e c d (by decide) ⟨x, H, I1, ru, ⟨rfl, fun ys hy => by rw [I.list_inj hy hq]; exact hx⟩, st', fun b hb => (hf b hb).1⟩⟩
  done := by
    intro X hP hw hK hc i pins s σ H E I hf st hg
    subst hP hw hK
    obtain ⟨xs, hq, hx⟩ := hg
    obtain ⟨its, rv, p, hz⟩ := I.list hq
    obtain ⟨f0, f1, f2, f3, f4, f5⟩ := hf it (by simp)
    have hl := rv.length
    exact wpAny_pyNext_list_end (I.ok.hd hc) st p.isList (by simp; omega) fun h' eb => ⟨rfl, I.turned (t' := s.toks) (fun b o hb e => eb b o hb e) f0 f1 f3 f4 f5⟩
  self := fun _ _ _ _ _ st h => wpAny_pyIter_listiter st h
theorem turn_range {P : Program} {w : World} {K : PySem.W.Frag} {tg : Expr} (it : Addr) (lo : Int) (n : Nat) : Turn P w K tg (Itr lo n) [it] it (fun i h => IsRangeIter h it (lo + (i : Nat) * 1) ((n : Int) - (i : Nat)) 1) where
  mem := by simp
  obj := fun i h st b hb => by
    have e : b = it := by simpa using hb
    subst e
    exact ⟨_, st, fun v z => by
      have z' : Data.fields _ = Data.cell v := z
      cases z'⟩
  keep := fun i h h' st k => k it (by simp) _ st
  item := by
    intro X hP hw hK hc i pins s σ H E I hf st hg
    subst hP hw hK
    obtain ⟨f0, f1, f2, f3, f4, f5⟩ := hf it (by simp)
    have W := Walks.range (prog := X.prog) (w := X.w) (I.ok.hd hc) it lo 1 n
    refine W.item i s _ _ hg st fun v h' tk hv st' kk => ?_
    obtain ⟨t, rfl⟩ := hv
    have I1 : Inv X pins σ H { s with heap := h', toks := tk } := I.turned (fun b o hb e => kk b o (by simpa using hb) e) f0 f1 f3 f4 f5
    refine ⟨_, rfl, go_of (s := { s with heap := h', toks := tk }) (n := "range_iterator") st' rfl rfl (by decide) ⟨.int (lo + i), H, I1, ⟨t, ?_⟩, ⟨rfl, rfl⟩, st', fun b hb => (hf b hb).1⟩⟩
    rw [Int.mul_one]
  done := by
    intro X hP hw hK hc i pins s σ H E I hf st hg
    subst hP hw hK
    obtain ⟨f0, f1, f2, f3, f4, f5⟩ := hf it (by simp)
    exact wpAny_pyNext_range_end (I.ok.hd hc) st (by have : n ≤ i := hg; omega) fun h' eb => ⟨rfl, I.turned (t' := s.toks) (fun b o hb e => eb b o hb e) f0 f1 f3 f4 f5⟩
  self := fun _ _ _ _ _ st h => wpAny_pyIter_rangeiter st h
end L2
namespace L2
open PySem PySem.Spec PyProof.Rows
section
variable {X : Cx} {tg : Expr}
def iList (K : PySem.W.Frag) (tl : TE) : TI := fun σ H R => tl σ H fun x H1 => ∃ a, x = .ref a ∧ (∃ xs, SqL K H1 a xs) ∧ R (Itl K a) H1
theorem pi_list {l : Expr} {tl : TE} (hl : PE X l tl) : PI X tg l (iList X.K tl) := by
  intro pins s σ H R I h
  refine thn (hl pins s σ H _ I h) fun v s1 ⟨x, H1, I1, r1, q1⟩ => ?_
  obtain ⟨a, e, ⟨xs, hq⟩, q⟩ := q1
  subst e
  cases r1
  obtain ⟨its, rv, p, hz⟩ := I1.list hq
  refine wpAny_pyIter_list p.isList ?_
  refine ⟨s1.heap.objs.size, [s1.heap.objs.size], _, _, H1, rfl, I1.kept (t' := s1.toks) fun b o e => Heap.get?_push_of_some _ e, turn_list a _, ⟨_, Heap.get?_push_size _ rfl, rfl, rfl⟩, fun b hb => ?_, q⟩
  have e : b = s1.heap.objs.size := by simpa using hb
  subst e
  exact I1.fpOk (Nat.le_refl _) (I1.hok.fresh (Nat.le_refl _))
/-- a range object just made, walked -/
theorem range_it {pins : List (Addr × Obj)} {σ : St} {H : Hp} {s : Shared} {R : It → Hp → Prop} {E : Value → Shared → Prop} {lo hi : Int} {t u v : Tok} {tk : Nat} (I : Inv X pins σ H s) (h1 : -(2 ^ 62) ≤ lo) (h2 : lo < 2 ^ 62) (h3 : -(2 ^ 62) ≤ hi) (h4 : hi < 2 ^ 62)
    (q : R (Itr lo (hi - lo).toNat) H) : wpAny (model X.prog X.w) X.A (pyIter (.ref s.heap.objs.size)) (PIE X pins σ tg R) E { s with heap := s.heap.push { cls := .type "range", data := .fields #[.int lo t, .int hi u, .int 1 v] }, toks := tk } := by
  refine wpAny_pyIter_range (IsRange.new ..) (small_one h1 h2 h3 h4) ?_
  have I1 : Inv X pins σ H { s with heap := s.heap.push { cls := .type "range", data := .fields #[.int lo t, .int hi u, .int 1 v] }, toks := tk } := I.kept fun b o e => Heap.get?_push_of_some _ e
  refine ⟨(s.heap.push { cls := .type "range", data := .fields #[.int lo t, .int hi u, .int 1 v] }).objs.size, [(s.heap.push { cls := .type "range", data := .fields #[.int lo t, .int hi u, .int 1 v] }).objs.size], _, _, H, rfl,
    I1.kept (t' := tk) fun b o e => Heap.get?_push_of_some _ e, turn_range _ lo (hi - lo).toNat, ?_, fun b hb => ?_, q⟩
  · have e1 : lo + ((0 : Nat) : Int) * 1 = lo := by simp
    have e2 : (((hi - lo).toNat : Nat) : Int) - ((0 : Nat) : Int) = Builtin.Range.rangeSize lo hi 1 := by rw [rangeSize_one]; split <;> omega
    show IsRangeIter _ _ (lo + ((0 : Nat) : Int) * 1) ((((hi - lo).toNat : Nat) : Int) - ((0 : Nat) : Int)) 1
    rw [e1, e2]
    exact Heap.get?_push_size _ rfl
  · have e : b = (s.heap.push { cls := .type "range", data := .fields #[.int lo t, .int hi u, .int 1 v] }).objs.size := by simpa using hb
    subst e
    exact I1.fpOk (Nat.le_refl _) (I1.hok.fresh (Nat.le_refl _))
def iRng1 (ta : TA) : TI := fun σ H R => ta σ H fun vs H1 => ∃ j : Int, vs = [.int j] ∧ -(2 ^ 62) ≤ j ∧ j < 2 ^ 62 ∧ R (Itr 0 j.toNat) H1
theorem pi_range1 {a : Expr} {ta : TA} {p pos : Pos} (hg : Gl X "range") (hm : X.mg "range" = none) (ha : PA X [a] ta) (hs : starEach [a] X.env = [(false, eval a X.env)] := by rfl) : PI X tg (.Call (.Name "range" p) [a] [] pos) (iRng1 ta) := by
  intro pins s σ H R I h
  refine Call_ (ld_blt I hg hm boot_range (PyProof.Rows.callWith_type1 (thn (ha pos pins s σ H _ I h) fun us s1 ⟨vs, H1, I1, r1, q1⟩ => ?_) hs rfl))
  obtain ⟨j, e, q1, q2, q⟩ := q1
  subst e
  cases r1 with
  | cons r rr =>
    cases rr
    obtain ⟨t, rfl⟩ := r
    exact call_range_1 (range_it I1 (by omega) (by omega) q1 q2 (by simpa using q))
/-! ### for -/
/-- W: the invariant by the turn and a measure; N: what the body is to reach -/
def tFor (wi : TI) (g : TG) (tb : TS) : TS := fun D σ H => wi σ H fun J H1 => ∃ W : Nat → Nat → St → Hp → Prop, (∃ m, W 0 m σ H1) ∧ ∀ i m σ H, W i m σ H →
  (J.stop i H ∧ D.nx σ H) ∨ (J.go i H ∧ ∃ N : St → Hp → Prop, (∀ σ' H', N σ' H' → ∃ m', m' < m ∧ W (i + 1) m' σ' H') ∧ ∀ x H', J.yld i H x H' → g x σ H' fun σ2 H2 => tb { D with nx := N, ct := N, bk := D.nx } σ2 H2)
/-- the records at fp as they stand -/
def pinsAt (fp : List Addr) (h : Heap) : List (Addr × Obj) := fp.filterMap fun b => (h.get? b).map fun o => (b, o)
theorem mem_pinsAt {fp : List Addr} {h : Heap} {b : Addr} {o : Obj} (hb : b ∈ fp) (e : h.get? b = some o) : (b, o) ∈ pinsAt fp h := List.mem_filterMap.mpr ⟨b, hb, by rw [e]; rfl⟩
theorem of_pinsAt {fp : List Addr} {h : Heap} {p : Addr × Obj} (hp : p ∈ pinsAt fp h) : p.1 ∈ fp ∧ h.get? p.1 = some p.2 := by
  obtain ⟨b, hb, e⟩ := List.mem_filterMap.mp hp
  cases q : h.get? b with
  | none => rw [q] at e; cases e
  | some o =>
    rw [q] at e
    have e' : (b, o) = p := Option.some.inj e
    subst e'
    exact ⟨hb, q⟩
theorem Inv.pinned {pins : List (Addr × Obj)} {σ : St} {H : Hp} {s : Shared} {fp : List Addr} (I : Inv X pins σ H s) (hf : ∀ b ∈ fp, FpOk X pins H b) (ho : ∀ b ∈ fp, ∃ o, s.heap.get? b = some o ∧ ∀ v, o.data ≠ .cell v) : Inv X (pins ++ pinsAt fp s.heap) σ H s :=
  I.pins_of fun p hp => (List.mem_append.mp hp).elim (fun z => I.pin p (List.mem_append_right _ z)) fun z => by
    obtain ⟨hb, e⟩ := of_pinsAt z
    obtain ⟨f0, f1, f2, _⟩ := hf p.1 hb
    obtain ⟨o, e', d⟩ := ho p.1 hb
    rw [e] at e'; cases e'
    exact ⟨e, f0, f1, f2, d⟩
theorem Inv.unpinned {pins pl : List (Addr × Obj)} {σ : St} {H : Hp} {s : Shared} (I : Inv X (pins ++ pl) σ H s) : Inv X pins σ H s := I.pins_of fun p hp => I.pin p (List.mem_append_right _ (List.mem_append_left _ hp))
theorem ps_for {iter : Expr} {body : List Stmt} {wi : TI} {g : TG} {tb : TS} {pos : Pos} (hp : PassesOwn (model X.prog X.w) X.A X.env X.xe) (hc : X.calm = true) (hi : PI X tg iter wi) (hg : PG X tg g) (hb : PSs X body tb)
    (hs : ∀ x, foldedSetIterable iter X.env x = pure x := by intro _; rfl) : PS X (.For tg iter body [] pos) (tFor wi g tb) := by
  intro pins s σ H D I h
  refine wpAny_For (thn (hi pins s σ H _ I h) fun v s1 h1 => thn h1 fun itv s2 h2 => ?_) hs
  obtain ⟨it, fp, tn, J, H2, e, I2, T, st2, f2, W, ⟨m0, w0⟩, turn⟩ := h2
  subst e
  -- what stays true of the iterator's objects through the loop
  have stat : ∀ {H' : Hp}, (∀ b ∈ fp, H' b = none) → ∀ b ∈ fp, FpOk X pins H' b := fun hn b hb => ⟨hn b hb, (f2 b hb).2⟩
  refine codeAny_forLoop_any (fun n s' => ∃ i σ' H', Inv X pins σ' H' s' ∧ tn i s'.heap ∧ (∀ b ∈ fp, H' b = none) ∧ W i n σ' H') ?_ m0 ⟨0, σ, H2, I2, st2, fun b hb => (f2 b hb).1, w0⟩
  rintro n s3 ⟨i, σ3, H3, I3, st3, fr3, w3⟩
  rcases turn i n σ3 H3 w3 with ⟨stop, qn⟩ | ⟨go, N, hN, step⟩
  · refine wpAny_passesOwn hp (thn (T.done X rfl rfl rfl hc i pins s3 σ3 H3 X.xe I3 (stat fr3) st3 stop) fun r s4 ⟨hr, I4⟩ => ?_)
    subst hr
    exact wpAny_execs_nil ⟨σ3, H3, I4, qn⟩
  · refine wpAny_passesOwn hp (thn (T.item X rfl rfl rfl hc i pins s3 σ3 H3 X.xe I3 (stat fr3) st3 go) fun r s4 ⟨u, hr, h4⟩ => ?_)
    subst hr
    refine wpAny_passesOwn hp (thn h4 fun _ s5 ⟨x, H5, I5, r5, y5, st5, fr5⟩ => ?_)
    have I5' := I5.pinned (stat fr5) (T.obj _ _ st5)
    refine wpAny_passesOwn hp (thn (hg _ s5 σ3 H5 x u _ I5' r5 (step x H5 y5)) fun _ s6 ⟨σ6, H6, I6, q6⟩ => ?_)
    refine wpAny_passesOwn hp (thn (hb _ s6 σ6 H6 _ I6 q6) fun f s7 q7 => ?_)
    have again : ∀ {σ7 : St} {H7 : Hp}, Inv X (pins ++ pinsAt fp s5.heap) σ7 H7 s7 → N σ7 H7 → ∃ m, m < n ∧ ∃ i σ' H', Inv X pins σ' H' s7 ∧ tn i s7.heap ∧ (∀ b ∈ fp, H' b = none) ∧ W i m σ' H' := fun {σ7 H7} I7 n7 => by
      obtain ⟨m', hm, w7⟩ := hN σ7 H7 n7
      refine ⟨m', hm, i + 1, σ7, H7, I7.unpinned, T.keep _ _ _ st5 fun b hb o e => (I7.pin (b, o) (List.mem_append_right _ (List.mem_append_right _ (mem_pinsAt hb e)))).1, fun b hb => ?_, w7⟩
      obtain ⟨o, e, d⟩ := T.obj _ _ st5 b hb
      exact (I7.pin (b, o) (List.mem_append_right _ (List.mem_append_right _ (mem_pinsAt hb e)))).2.1
    cases f with
    | next => obtain ⟨σ7, H7, I7, n7⟩ := q7; exact again I7 n7
    | cont => obtain ⟨σ7, H7, I7, n7⟩ := q7; exact again I7 n7
    | brk => obtain ⟨σ7, H7, I7, q7⟩ := q7; exact ⟨σ7, H7, I7.unpinned, q7⟩
    | ret v => obtain ⟨x7, σ7, H7, I7, r7, q7⟩ := q7; exact ⟨x7, σ7, H7, I7.unpinned, r7, q7⟩
end
/-! ### the forms one uses -/
/-- over a list that the body leaves as it is -/
theorem for_list {K : PySem.W.Frag} {a : Addr} {xs : List V} {g : TG} {tb : TS} {D : Ends} {σ : St} {H : Hp} (Pv : Nat → St → Hp → Prop) (h0 : Pv 0 σ H) (hl : ∀ i σ H, i ≤ xs.length → Pv i σ H → SqL K H a xs)
    (hs : ∀ i x σ H, xs[i]? = some x → Pv i σ H → g x σ H fun σ2 H2 => tb { D with nx := Pv (i + 1), ct := Pv (i + 1), bk := D.nx } σ2 H2) (hd : ∀ σ H, Pv xs.length σ H → D.nx σ H) :
    ∃ W : Nat → Nat → St → Hp → Prop, (∃ m, W 0 m σ H) ∧ ∀ i m σ H, W i m σ H →
      ((Itl K a).stop i H ∧ D.nx σ H) ∨ ((Itl K a).go i H ∧ ∃ N : St → Hp → Prop, (∀ σ' H', N σ' H' → ∃ m', m' < m ∧ W (i + 1) m' σ' H') ∧ ∀ x H', (Itl K a).yld i H x H' → g x σ H' fun σ2 H2 => tb { D with nx := N, ct := N, bk := D.nx } σ2 H2) := by
  refine ⟨fun i m σ H => m = xs.length - i ∧ i ≤ xs.length ∧ Pv i σ H, ⟨xs.length, by simp, Nat.zero_le _, h0⟩, ?_⟩
  rintro i m σ H ⟨rfl, hi, p⟩
  have q := hl i σ H hi p
  by_cases hlt : i < xs.length
  · refine .inr ⟨⟨xs, xs[i], q, by simp [hlt]⟩, Pv (i + 1), fun σ' H' p' => ⟨xs.length - (i + 1), by omega, rfl, hlt, p'⟩, fun x H' y => ?_⟩
    obtain ⟨e, y⟩ := y
    subst e
    exact hs i x σ _ (y xs q) p
  · have e : i = xs.length := by omega
    subst e
    exact .inl ⟨⟨xs, q, Nat.le_refl _⟩, hd σ H p⟩
theorem for_range {lo : Int} {n : Nat} {g : TG} {tb : TS} {D : Ends} {σ : St} {H : Hp} (Pv : Nat → St → Hp → Prop) (h0 : Pv 0 σ H)
    (hs : ∀ i σ H, i < n → Pv i σ H → g (.int (lo + i)) σ H fun σ2 H2 => tb { D with nx := Pv (i + 1), ct := Pv (i + 1), bk := D.nx } σ2 H2) (hd : ∀ σ H, Pv n σ H → D.nx σ H) :
    ∃ W : Nat → Nat → St → Hp → Prop, (∃ m, W 0 m σ H) ∧ ∀ i m σ H, W i m σ H →
      ((Itr lo n).stop i H ∧ D.nx σ H) ∨ ((Itr lo n).go i H ∧ ∃ N : St → Hp → Prop, (∀ σ' H', N σ' H' → ∃ m', m' < m ∧ W (i + 1) m' σ' H') ∧ ∀ x H', (Itr lo n).yld i H x H' → g x σ H' fun σ2 H2 => tb { D with nx := N, ct := N, bk := D.nx } σ2 H2) := by
  refine ⟨fun i m σ H => m = n - i ∧ i ≤ n ∧ Pv i σ H, ⟨n, by simp, Nat.zero_le _, h0⟩, ?_⟩
  rintro i m σ H ⟨rfl, hi, p⟩
  by_cases hlt : i < n
  · refine .inr ⟨hlt, Pv (i + 1), fun σ' H' p' => ⟨n - (i + 1), by omega, rfl, hlt, p'⟩, fun x H' y => ?_⟩
    obtain ⟨e, y⟩ := y
    subst e y
    exact hs i σ _ hlt p
  · have e : i = n := by omega
    subst e
    exact .inl ⟨Nat.le_refl _, hd σ H p⟩
end L2
namespace L2
open PySem PySem.Spec PyProof.Rows
abbrev R2 := V → V → Hp → VK → Prop
/-- a two-place operation on values: f is binaryOp op, inplaceOp op or compareOp op -/
def OpR (X : Cx) (f : Value → Value → Sem Value) (r : R2) : Prop :=
  ∀ (pins : List (Addr × Obj)) (s : Shared) (σ : St) (H : Hp) (x y : V) (v u : Value) (Q : VK), Inv X pins σ H s → RelV x v → RelV y u → r x y H Q →
    wpAny (model X.prog X.w) X.A (f v u) (EP X pins σ Q) X.xe s
/-- a one-place operation -/
def UnR (X : Cx) (f : Value → Sem Value) (r : V → Hp → VK → Prop) : Prop :=
  ∀ (pins : List (Addr × Obj)) (s : Shared) (σ : St) (H : Hp) (x : V) (v : Value) (Q : VK), Inv X pins σ H s → RelV x v → r x H Q →
    wpAny (model X.prog X.w) X.A (f v) (EP X pins σ Q) X.xe s
/-- a call of a value that is known (a builtin, a type) with values -/
def CallR (X : Cx) (f : Value) (r : List V → Hp → VK → Prop) : Prop :=
  ∀ (pins : List (Addr × Obj)) (s : Shared) (σ : St) (H : Hp) (xs : List V) (us : List Value) (Q : VK), Inv X pins σ H s → Vals xs us → r xs H Q →
    wpAny (model X.prog X.w) X.A (call f us) (EP X pins σ Q) X.xe s
def tOp (r : R2) (ta tb : TE) : TE := fun σ H Q => ta σ H fun x H1 => tb σ H1 fun y H2 => r x y H2 Q
def tUn (r : V → Hp → VK → Prop) (ta : TE) : TE := fun σ H Q => ta σ H fun x H1 => r x H1 Q
/-- ints in, under C, and a value out -/
def rI (C : Int → Int → Prop) (g : Int → Int → V) : R2 := fun x y H Q => ∃ i j, x = .int i ∧ y = .int j ∧ C i j ∧ Q (g i j) H
def rI0 (g : Int → Int → V) : R2 := fun x y H Q => ∃ i j, x = .int i ∧ y = .int j ∧ Q (g i j) H
def rU (g : Int → V) : V → Hp → VK → Prop := fun x H Q => ∃ i, x = .int i ∧ Q (g i) H
section
variable {X : Cx} {a b c : Expr} {ta tb tc : TE} {pos : Pos}
theorem binT (ha : PE X a ta) (hb : PE X b tb) {pins : List (Addr × Obj)} {s : Shared} {σ : St} {H : Hp} {R : V → V → Hp → Prop} (I : Inv X pins σ H s)
    (h : ta σ H fun x H1 => tb σ H1 fun y H2 => R x y H2) {Q : Value → Shared → Prop} {f : Value → Value → Sem Value}
    (hf : ∀ v u s2 x y H2, Inv X pins σ H2 s2 → RelV x v → RelV y u → R x y H2 → wpAny (model X.prog X.w) X.A (f v u) Q X.xe s2) :
    wpAny (model X.prog X.w) X.A (eval a X.env) (fun v s₁ => wpAny (model X.prog X.w) X.A (eval b X.env) (fun u s₂ => wpAny (model X.prog X.w) X.A (f v u) Q X.xe s₂) X.xe s₁) X.xe s := by
  refine thn (ha pins s σ H _ I h) fun v s1 ⟨x, H1, I1, r1, q1⟩ => ?_
  refine thn (hb pins s1 σ H1 _ I1 q1) fun u s2 ⟨y, H2, I2, r2, q2⟩ => ?_
  exact hf v u s2 x y H2 I2 r1 r2 q2
theorem pe_op {op : Operator} {r : R2} (ho : OpR X (binaryOp op) r) (ha : PE X a ta) (hb : PE X b tb) : PE X (.BinOp a op b pos) (tOp r ta tb) := by
  intro pins s σ H Q I h
  exact wpAny_BinOp (binT ha hb I h fun v u s2 x y H2 I2 rx ry q => ho pins s2 σ H2 x y v u Q I2 rx ry q)
theorem pe_un {op : UnaryOp} {r : V → Hp → VK → Prop} (ho : UnR X (unaryOp op) r) (ha : PE X a ta) : PE X (.UnaryOp op a pos) (tUn r ta) := by
  intro pins s σ H Q I h
  exact UnaryOp_ (thn (ha pins s σ H _ I h) fun v s1 ⟨x, H1, I1, r1, q1⟩ => ho pins s1 σ H1 x v Q I1 r1 q1)
/-! ### ints -/
theorem opI {f : Value → Value → Sem Value} {C : Int → Int → Prop} {g : Int → Int → Int}
    (rule : ∀ (i j : Int) (t u : Tok) (s : Shared) (Q : Value → Shared → Prop) (E : Value → Shared → Prop), C i j → Q (.int (g i j) s.toks) { s with toks := s.toks + 1 } → wpAny (model X.prog X.w) X.A (f (.int i t) (.int j u)) Q E s) :
    OpR X f (rI C fun i j => .int (g i j)) := by
  intro pins s σ H x y v u Q I rx ry h
  obtain ⟨i, j, rfl, rfl, hc, q⟩ := h
  obtain ⟨t, rfl⟩ := rx
  obtain ⟨t', rfl⟩ := ry
  exact rule i j t t' s _ _ hc ⟨.int (g i j), H, I.tok _, ⟨_, rfl⟩, q⟩
theorem opI0 {f : Value → Value → Sem Value} {g : Int → Int → Int}
    (rule : ∀ (i j : Int) (t u : Tok) (s : Shared) (Q : Value → Shared → Prop) (E : Value → Shared → Prop), Q (.int (g i j) s.toks) { s with toks := s.toks + 1 } → wpAny (model X.prog X.w) X.A (f (.int i t) (.int j u)) Q E s) :
    OpR X f (rI0 fun i j => .int (g i j)) := by
  intro pins s σ H x y v u Q I rx ry h
  obtain ⟨i, j, rfl, rfl, q⟩ := h
  obtain ⟨t, rfl⟩ := rx
  obtain ⟨t', rfl⟩ := ry
  exact rule i j t t' s _ _ ⟨.int (g i j), H, I.tok _, ⟨_, rfl⟩, q⟩
theorem opB0 {f : Value → Value → Sem Value} {g : Int → Int → Bool}
    (rule : ∀ (i j : Int) (t u : Tok) (s : Shared) (Q : Value → Shared → Prop) (E : Value → Shared → Prop), Q (.bool (g i j)) s → wpAny (model X.prog X.w) X.A (f (.int i t) (.int j u)) Q E s) :
    OpR X f (rI0 fun i j => .bl (g i j)) := by
  intro pins s σ H x y v u Q I rx ry h
  obtain ⟨i, j, rfl, rfl, q⟩ := h
  obtain ⟨t, rfl⟩ := rx
  obtain ⟨t', rfl⟩ := ry
  exact rule i j t t' s _ _ ⟨.bl (g i j), H, I, rfl, q⟩
def CDiv (i j : Int) : Prop := 0 < j ∧ j < 1073741824
def CPow (i j : Int) : Prop := 0 ≤ j ∧ j ≤ 1000000 ∧ i.natAbs < 2 ^ 64
def CMul (i j : Int) : Prop := (-(2 ^ 64) < i ∧ i < 2 ^ 64) ∨ (-(2 ^ 64) < j ∧ j < 2 ^ 64)
theorem CMul.ok {i j : Int} (h : CMul i j) : IntMulOk i j := by
  rcases h with ⟨h1, h2⟩ | ⟨h1, h2⟩
  · exact .of_left (intBits_le_64 h1 h2)
  · exact .of_right (intBits_le_64 h1 h2)
theorem op_add : OpR X (binaryOp .Add) (rI0 fun i j => .int (i + j)) := opI0 fun _ _ _ _ _ _ _ q => add_int q
theorem op_sub : OpR X (binaryOp .Sub) (rI0 fun i j => .int (i - j)) := opI0 fun _ _ _ _ _ _ _ q => sub_int q
/-- // by a positive divisor -/
theorem op_fdiv : OpR X (binaryOp .FloorDiv) (rI CDiv fun i j => .int (i / j)) := opI fun i j _ _ _ _ _ hc q => by
  have h1 : (0 : Int) < j := hc.1
  have h2 : j < 1073741824 := hc.2
  exact floordiv_int (by omega) (by rw [Int.fdiv_eq_ediv_of_nonneg i (by omega)]; exact q) (.inl (PyProof.noPylong_small (by omega)))
/-- % by a positive divisor of any size -/
theorem op_mod : OpR X (binaryOp .Mod) (rI (fun _ j => 0 < j) fun i j => .int (i % j)) := opI fun i j _ _ _ _ _ hc q => by
  have h1 : (0 : Int) < j := hc
  exact mod_int' (by omega) (by rw [Int.fmod_eq_emod_of_nonneg i (by omega)]; exact q)
theorem op_pow : OpR X (binaryOp .Pow) (rI CPow fun i j => .int (i ^ j.toNat)) := opI fun _ _ _ _ _ _ _ hc q => pow_int_small hc.1 hc.2.1 hc.2.2 q
theorem unI {f : Value → Sem Value} {g : Int → Int}
    (rule : ∀ (i : Int) (t : Tok) (s : Shared) (Q : Value → Shared → Prop) (E : Value → Shared → Prop), Q (.int (g i) s.toks) { s with toks := s.toks + 1 } → wpAny (model X.prog X.w) X.A (f (.int i t)) Q E s) :
    UnR X f (rU fun i => .int (g i)) := by
  intro pins s σ H x v Q I rx h
  obtain ⟨i, rfl, q⟩ := h
  obtain ⟨t, rfl⟩ := rx
  exact rule i t s _ _ ⟨.int (g i), H, I.tok _, ⟨_, rfl⟩, q⟩
theorem un_neg : UnR X (unaryOp .USub) (rU fun i => .int (-i)) := unI fun _ _ _ _ _ q => neg_int q
/-! ### bools among ints: n += (a < b) -/
end
/-! ### comparisons -/
/-- the scalars that == tells apart as data does -/
def scal : V → V → Bool
  | .non, .non => true | .non, .int _ => true | .int _, .non => true | .non, .bl _ => true | .bl _, .non => true | .non, .str _ => true | .str _, .non => true
  | .int _, .int _ => true | .bl _, .bl _ => true | .str _, .str _ => true | .byt _, .byt _ => true
  | .int _, .str _ => true | .str _, .int _ => true | .bl _, .str _ => true | .str _, .bl _ => true
  | _, _ => false
def rEq : R2 := fun x y H Q => scal x y = true ∧ Q (.bl (decide (x = y))) H
def rNe : R2 := fun x y H Q => scal x y = true ∧ Q (.bl (!decide (x = y))) H
theorem dec_int {i j : Int} : decide (V.int i = V.int j) = (i == j) := by
  rw [Bool.eq_iff_iff]
  simp
theorem dec_bl {i j : Bool} : decide (V.bl i = V.bl j) = (i == j) := by
  rw [Bool.eq_iff_iff]
  simp
theorem dec_str {i j : Str} : decide (V.str i = V.str j) = (i == j) := by
  rw [Bool.eq_iff_iff]
  simp
theorem dec_byt {i j : Array UInt8} : decide (V.byt i = V.byt j) = (i.toList == j.toList) := by
  rw [Bool.eq_iff_iff]
  cases i
  cases j
  simp
section
variable {X : Cx} {a b c : Expr} {ta tb tc : TE} {pos : Pos}
theorem fin_bl {pins : List (Addr × Obj)} {σ : St} {H : Hp} {s : Shared} {Q : VK} {k k' : Bool} (I : Inv X pins σ H s) (q : Q (.bl k) H) (e : k = k') : EP X pins σ Q (.bool k') s := by
  subst e
  exact ⟨.bl k, H, I, rfl, q⟩
theorem op_eq : OpR X (compareOp .Eq) rEq := by
  intro pins s σ H x y v u Q I rx ry h
  obtain ⟨hs, q⟩ := h
  cases x with
  | non =>
    cases rx
    cases y with
    | non => cases ry; exact PySem.EqNone.eq_none_none (fin_bl I q (by simp))
    | bl j => cases ry; exact PySem.EqNone.eq_none_bool (fin_bl I q (by simp))
    | int j => obtain ⟨t', rfl⟩ := ry; exact PySem.EqNone.eq_none_int (fin_bl I q (by simp))
    | str j => obtain ⟨t', rfl⟩ := ry; exact PySem.EqNone.eq_none_str (fin_bl I q (by simp))
    | _ => exact absurd (show false = true from hs) Bool.false_ne_true
  | bl i =>
    cases rx
    cases y with
    | non => cases ry; exact PySem.EqNone.eq_bool_none (fin_bl I q (by simp))
    | bl j => cases ry; exact eq_bool (fin_bl I q dec_bl)
    | str j => obtain ⟨t', rfl⟩ := ry; exact PySem.EqMixed.eq_bool_str (fin_bl I q (by simp))
    | _ => exact absurd (show false = true from hs) Bool.false_ne_true
  | int i =>
    obtain ⟨t, rfl⟩ := rx
    cases y with
    | non => cases ry; exact PySem.EqNone.eq_int_none (fin_bl I q (by simp))
    | int j => obtain ⟨t', rfl⟩ := ry; exact eq_int (fin_bl I q dec_int)
    | str j => obtain ⟨t', rfl⟩ := ry; exact PySem.EqMixed.eq_int_str (fin_bl I q (by simp))
    | _ => exact absurd (show false = true from hs) Bool.false_ne_true
  | str i =>
    obtain ⟨t, rfl⟩ := rx
    cases y with
    | non => cases ry; exact PySem.EqNone.eq_str_none (fin_bl I q (by simp))
    | bl j => cases ry; exact PySem.EqMixed.eq_str_bool (fin_bl I q (by simp))
    | int j => obtain ⟨t', rfl⟩ := ry; exact PySem.EqMixed.eq_str_int (fin_bl I q (by simp))
    | str j => obtain ⟨t', rfl⟩ := ry; exact eq_str (fin_bl I q dec_str)
    | _ => exact absurd (show false = true from hs) Bool.false_ne_true
  | byt i =>
    obtain ⟨t, rfl⟩ := rx
    cases y with
    | byt j => obtain ⟨t', rfl⟩ := ry; exact PySem.W.eq_bytes (fin_bl I q dec_byt)
    | _ => exact absurd (show false = true from hs) Bool.false_ne_true
  | _ => cases y <;> exact absurd (show false = true from hs) Bool.false_ne_true
theorem op_ne : OpR X (compareOp .NotEq) rNe := by
  intro pins s σ H x y v u Q I rx ry h
  obtain ⟨hs, q⟩ := h
  cases x with
  | non =>
    cases rx
    cases y with
    | non => cases ry; exact PySem.EqNone.ne_none_none (fin_bl I q (by simp))
    | bl j => cases ry; exact PySem.EqNone.ne_none_bool (fin_bl I q (by simp))
    | int j => obtain ⟨t', rfl⟩ := ry; exact PySem.EqNone.ne_none_int (fin_bl I q (by simp))
    | str j => obtain ⟨t', rfl⟩ := ry; exact PySem.EqNone.ne_none_str (fin_bl I q (by simp))
    | _ => exact absurd (show false = true from hs) Bool.false_ne_true
  | bl i =>
    cases rx
    cases y with
    | non => cases ry; exact PySem.EqNone.ne_bool_none (fin_bl I q (by simp))
    | bl j => cases ry; exact ne_bool (fin_bl I q (congrArg not dec_bl))
    | str j => obtain ⟨t', rfl⟩ := ry; exact PySem.EqMixed.ne_bool_str (fin_bl I q (by simp))
    | _ => exact absurd (show false = true from hs) Bool.false_ne_true
  | int i =>
    obtain ⟨t, rfl⟩ := rx
    cases y with
    | non => cases ry; exact PySem.EqNone.ne_int_none (fin_bl I q (by simp))
    | int j => obtain ⟨t', rfl⟩ := ry; exact ne_int (fin_bl I q (congrArg not dec_int))
    | str j => obtain ⟨t', rfl⟩ := ry; exact PySem.EqMixed.ne_int_str (fin_bl I q (by simp))
    | _ => exact absurd (show false = true from hs) Bool.false_ne_true
  | str i =>
    obtain ⟨t, rfl⟩ := rx
    cases y with
    | non => cases ry; exact PySem.EqNone.ne_str_none (fin_bl I q (by simp))
    | bl j => cases ry; exact PySem.EqMixed.ne_str_bool (fin_bl I q (by simp))
    | int j => obtain ⟨t', rfl⟩ := ry; exact PySem.EqMixed.ne_str_int (fin_bl I q (by simp))
    | str j => obtain ⟨t', rfl⟩ := ry; exact ne_str (fin_bl I q (congrArg not dec_str))
    | _ => exact absurd (show false = true from hs) Bool.false_ne_true
  | byt i =>
    obtain ⟨t, rfl⟩ := rx
    cases y with
    | byt j => obtain ⟨t', rfl⟩ := ry; exact PySem.W.ne_bytes (fin_bl I q (congrArg not dec_byt))
    | _ => exact absurd (show false = true from hs) Bool.false_ne_true
  | _ => cases y <;> exact absurd (show false = true from hs) Bool.false_ne_true
theorem op_lt : OpR X (compareOp .Lt) (rI0 fun i j => .bl (decide (i < j))) := opB0 fun _ _ _ _ _ _ _ q => lt_int q
theorem op_le : OpR X (compareOp .LtE) (rI0 fun i j => .bl (decide (i ≤ j))) := opB0 fun _ _ _ _ _ _ _ q => le_int q
theorem op_gt : OpR X (compareOp .Gt) (rI0 fun i j => .bl (decide (j < i))) := opB0 fun _ _ _ _ _ _ _ q => gt_int q
theorem op_ge : OpR X (compareOp .GtE) (rI0 fun i j => .bl (decide (j ≤ i))) := opB0 fun _ _ _ _ _ _ _ q => ge_int q
/-- two rules for one operation: by cases -/
theorem OpR.or {f : Value → Value → Sem Value} {r r' : R2} (h : OpR X f r) (h' : OpR X f r') : OpR X f (fun x y H Q => r x y H Q ∨ r' x y H Q) := by
  intro pins s σ H x y v u Q I rx ry q
  rcases q with q | q
  · exact h pins s σ H x y v u Q I rx ry q
  · exact h' pins s σ H x y v u Q I rx ry q
theorem nomark (b : Expr) {op : CmpOp} (h : op ≠ .In := by decide) (h2 : op ≠ .NotIn := by decide) : behindInMarks op b = false := by
  have e1 : (op == CmpOp.In) = false := by cases op <;> first | rfl | exact absurd rfl h
  have e2 : (op == CmpOp.NotIn) = false := by cases op <;> first | rfl | exact absurd rfl h2
  cases b <;> simp [behindInMarks, e1, e2]
/-- a comparison as a value; hm: nomark b, or (for in, not in) by with_unfolding_all rfl -/
theorem pe_cmpR {op : CmpOp} {r : R2} (ho : OpR X (compareOp op) r) (ha : PE X a ta) (hb : PE X b tb) (hm : behindInMarks op b = false) : PE X (.Compare a [op] [b] pos) (tOp r ta tb) := by
  intro pins s σ H Q I h
  exact wpAny_Compare1 (binT ha hb I h fun v u s2 x y H2 I2 rx ry q => ho pins s2 σ H2 x y v u Q I2 rx ry q) hm
/-- a reading of a value as a test -/
def tTest (t : TE) : TT := fun σ H Q => t σ H fun x H' => ∃ k, x = .bl k ∧ Q k H'
theorem pt_cmpR {op : CmpOp} {r : R2} (ho : OpR X (compareOp op) r) (ha : PE X a ta) (hb : PE X b tb) (hm : behindInMarks op b = false) : PT X (.Compare a [op] [b] pos) (tTest (tOp r ta tb)) := by
  intro pins s σ H Q I h
  refine wpAny_isTrue_Compare1 (thn (ha pins s σ H _ I h) fun v s1 ⟨x, H1, I1, r1, q1⟩ => thn (hb pins s1 σ H1 _ I1 q1) fun u s2 ⟨y, H2, I2, r2, q2⟩ =>
    thn (ho pins s2 σ H2 x y v u _ I2 r1 r2 q2) fun c s3 ⟨z, H3, I3, r3, k, e, q3⟩ => ?_) hm
  subst e
  cases r3
  exact wpAny_truthy_bool ⟨H3, I3, q3⟩
/-! ### truth -/
theorem line63 : (sizeLine : Nat) < 2 ^ 63 := by rw [sizeLine_eq]; decide
/-! ### strs and bytes -/
/-! ### scalar builtins, by CallR -/
theorem vals1 {x : V} {us : List Value} (r : Vals [x] us) : ∃ u, us = [u] ∧ RelV x u := by
  cases r with
  | cons r1 r2 => cases r2; exact ⟨_, rfl, r1⟩
theorem vals2 {x y : V} {us : List Value} (r : Vals [x, y] us) : ∃ u w', us = [u, w'] ∧ RelV x u ∧ RelV y w' := by
  cases r with
  | cons r1 r2 =>
    cases r2 with
    | cons r3 r4 => cases r4; exact ⟨_, _, rfl, r1, r3⟩
theorem call_min2 (hc : X.calm = true) : CallR X (.builtin "min") (fun xs H Q => ∃ i j, xs = [.int i, .int j] ∧ Q (.int (if j < i then j else i)) H) := by
  intro pins s σ H xs us Q I r h
  obtain ⟨i, j, rfl, q⟩ := h
  obtain ⟨u, w', rfl, ⟨t, rfl⟩, ⟨t', rfl⟩⟩ := vals2 r
  refine min_two_ints (I.ok.hd hc) fun h' tk k => ⟨_, H, I.kept k, ?_, q⟩
  by_cases hj : j < i
  · rw [if_pos hj, if_pos hj]; exact ⟨_, rfl⟩
  · rw [if_neg hj, if_neg hj]; exact ⟨_, rfl⟩
theorem call_int1 : CallR X (.type "int") (fun xs H Q => (∃ i, xs = [.int i] ∧ Q (.int i) H) ∨ ∃ k, xs = [.bl k] ∧ Q (.int (if k then 1 else 0)) H) := by
  intro pins s σ H xs us Q I r h
  rcases h with ⟨i, rfl, q⟩ | ⟨k, rfl, q⟩
  · obtain ⟨u, rfl, t, rfl⟩ := vals1 r
    exact call_int_int ⟨.int i, H, I, ⟨_, rfl⟩, q⟩
  · obtain ⟨u, rfl, r1⟩ := vals1 r
    cases r1
    exact call_int_bool ⟨.int (if k then 1 else 0), H, I.tok _, ⟨_, rfl⟩, q⟩
end
end L2
namespace L2
open PySem PySem.Spec PyProof.Rows
/-! ### an instance, its attributes a map -/
structure ObjM (h : Heap) (x dx C : Addr) (mA : Str → Option Value) : Prop where
  obj : h.get? x = some (PySem.W.instObj C dx)
  ns : h.Ns1 dx mA
  ne : dx ≠ x
theorem lookIn_ns {h : Heap} {dx : Addr} {mA : Str → Option Value} (n : h.Ns1 dx mA) : ∃ od, h.get? dx = some od ∧ ∀ name, PySem.W.lookIn name od = some (mA name) := by
  obtain ⟨o, es, ep, ho, hd, hk, _, hm⟩ := n
  refine ⟨o, ho, fun name => ?_⟩
  have e := hm name
  unfold nsFind findBy at e
  rw [← Array.find?_toList] at e
  unfold PySem.W.lookIn
  rw [hd]
  dsimp only
  split
  · rename_i y q
    rw [q] at e
    exact congrArg some e
  · rename_i q
    rw [q] at e
    have a : es.toList.any (·.refKey) = false := by
      rw [List.any_eq_false]
      intro y hy
      obtain ⟨z, t, hkey⟩ := hk y (Array.mem_toList_iff.mp hy)
      simp [DictEntry.refKey, hkey]
    have a' : ¬ es.toList.any (·.refKey) = true := by rw [a]; exact Bool.false_ne_true
    rw [if_neg a']
    exact congrArg some e
theorem ObjM.look {h : Heap} {x dx C : Addr} {mA : Str → Option Value} (I : ObjM h x dx C mA) : ∃ od, PySem.W.InstAt h x (PySem.W.instObj C dx) C (some od) ∧ ∀ name, PySem.W.lookIn name od = some (mA name) :=
  let ⟨od, ho, hl⟩ := lookIn_ns I.ns
  ⟨od, ⟨I.obj, rfl, rfl, ho⟩, hl⟩
section
variable {prog : Program} {w : World} {A : Around} {E : Value → Shared → Prop} {s : Shared} {K : PySem.W.Frag} {x dx C f : Addr} {mA : Str → Option Value} {name : Str} {v : Value}
end
/-! ### the attributes as a list of pairs -/
theorem RelO.some_of {v : V} {o : Option Value} (r : RelO (some v) o) : ∃ u, o = some u ∧ RelV v u := by
  cases o with
  | none => exact (show False from r).elim
  | some u => exact ⟨u, rfl, r⟩
section
variable {P : Program} {w : World} {H H' : Hp} {h h' : Heap} {a C dx : Addr} {fs fs' : List (Str × V)}
theorem ins_get (hok : HOk P w H h) (e : H a = some (.ins C dx fs)) : ∃ mA, ObjM h a dx C mA ∧ (∀ f, RelO (fs.lookup f) (mA f)) ∧ PySem.Within mA (fs.map (·.1)) ∧ fs.length ≤ 1000 ∧ H dx = some (.own a) := by
  obtain ⟨d, z, ne, ob, mA, n, r, q⟩ := (show ObjOk P w H h a (.ins C dx fs) from hok a _ e)
  exact ⟨mA, ⟨ob, n, ne⟩, r, q, z, d⟩
end
/-! ### what of the text a class must have -/
structure Cls (K : PySem.W.Frag) (C : Addr) : Prop where
  pg : PySem.W.plainGet K C Str.empty = true
  hd : PySem.W.hasDictIn K C = true
  po : PySem.W.plainOver K C = true
  sa : PySem.W.findIn K (.ref C) "__setattr__" = some (some (.builtin "object.__setattr__"))
theorem Cls.get {K : PySem.W.Frag} {C : Addr} (c : Cls K C) (f : Str) : PySem.W.plainGet K C f = true := c.pg
/-- a constant of the class -/
structure Con (K : PySem.W.Frag) (C : Addr) (f : Str) (v : V) (u : Value) : Prop where
  at_ : PySem.W.findIn K (.ref C) f = some (some u)
  rel : RelV v u
  get : PySem.W.specialIn K u "__get__" = some none
  cp : PySem.W.copiedNames.contains f = false
/-- a method: a plain def of the class or of one above it -/
structure Meth (K : PySem.W.Frag) (C : Addr) (m : Str) (f : Addr) : Prop where
  at_ : PySem.W.findIn K (.ref C) m = some (some (.ref f))
  fn : PySem.W.isFn K (.ref f) = true
  kp : PySem.W.keepIn K (.ref f) = true
section
variable {X : Cx} {pins : List (Addr × Obj)} {σ : St} {H : Hp} {s : Shared} {a C dx : Addr} {fs : List (Str × V)} {f : Str} {v : V} {A : Around} {E : Value → Shared → Prop}
/-- a new instance, tracked, without attributes -/
theorem Inv.made (I : Inv X pins σ H s) : Inv X pins σ (upd (upd H s.heap.objs.size (.own (s.heap.objs.size + 1))) (s.heap.objs.size + 1) (.ins C s.heap.objs.size []))
    { s with heap := (s.heap.push PySem.W.emptyDict).push (PySem.W.instObj C s.heap.objs.size) } := by
  have e1 : (s.heap.push PySem.W.emptyDict).get? s.heap.objs.size = some PySem.W.emptyDict := Heap.get?_push_size s.heap rfl
  have e2 : ((s.heap.push PySem.W.emptyDict).push (PySem.W.instObj C s.heap.objs.size)).get? (s.heap.objs.size + 1) = some (PySem.W.instObj C s.heap.objs.size) := by
    have := Heap.get?_push_size (s.heap.push PySem.W.emptyDict) (o := PySem.W.instObj C s.heap.objs.size) rfl
    rwa [Heap.size_push] at this
  have e3 : (s.heap.push PySem.W.emptyDict).Ns s.heap.objs.size (fun _ => none) := ⟨PySem.W.emptyDict, #[], _, e1, rfl, (fun e he => absurd he (by simp)), fun _ => rfl⟩
  have I1 := I.laid (a := s.heap.objs.size) (o := .own (s.heap.objs.size + 1)) (h' := s.heap.push PySem.W.emptyDict) (t' := s.toks) (fun b u q => Heap.get?_push_of_some _ q) (Nat.le_refl _) ⟨_, e1⟩
  refine I1.laid (a := s.heap.objs.size + 1) (o := .ins C s.heap.objs.size []) (t' := s.toks) (fun b u q => Heap.get?_push_of_some _ q) (Nat.le_of_eq (Heap.size_push _ _)) ?_
  have ne : s.heap.objs.size ≠ s.heap.objs.size + 1 := Nat.ne_of_lt (Nat.lt_succ_self _)
  refine ⟨by rw [upd_ne ne, upd_same], Nat.zero_le _, ne, e2, fun _ => none, (Heap.Ns1.of_empty e3).at fun o q => Heap.get?_push_of_some _ q, fun _ => True.intro, fun y hy => absurd rfl hy⟩
end
/-! ### readings and rules -/
section
variable {X : Cx} {o e value : Expr} {f : Str} {pos pos' tpos : Pos} {ta tv : TE}
end
/-! ### isinstance -/
section
variable {X : Cx} {pins : List (Addr × Obj)} {σ : St} {H : Hp} {s : Shared} {A : Around} {E : Value → Shared → Prop} {Q : Value → Shared → Prop} {c : Value} {b : Bool}
/-- the type of a value, as the fragment's deciders take it; for an instance its class -/
inductive TyOf (K : PySem.W.Frag) (H : Hp) : V → Value → Prop where
  | non : TyOf K H .non (.type "NoneType")
  | bl (x : Bool) : TyOf K H (.bl x) (.type "bool")
  | int (i : Int) : TyOf K H (.int i) (.type "int")
  | str (x : Str) : TyOf K H (.str x) (.type "str")
  | flt (x : UInt64) : TyOf K H (.flt x) (.type "float")
  | lst {a : Addr} {xs : List V} (e : H a = some (.lst xs)) : TyOf K H (.ref a) (.type "list")
  | frz {a : Addr} {o : Obj} {xs : List V} (e : H a = some (.frz o (.lst xs))) : TyOf K H (.ref a) (.type "list")
  | tup {a : Addr} {xs : List V} (e : H a = some (.tup xs)) : TyOf K H (.ref a) (.type "tuple")
  | dK {a : Addr} {kvs : List (Key × V)} (e : H a = some (.dK kvs)) : TyOf K H (.ref a) (.type "dict")
  | dT {a : Addr} {kvs : List (List Key × V)} (e : H a = some (.dT kvs)) : TyOf K H (.ref a) (.type "dict")
  | ins {a C dx : Addr} {fs : List (Str × V)} (e : H a = some (.ins C dx fs)) (cl : Cls K C) (ha : PySem.W.findIn K (.ref C) "__class__" = some (some (.builtin "object.__class__")))
      (hn : PySem.W.specialIn K (.builtin "object.__class__") "__get__" = some (some (.builtin "getset_descriptor.__get__"))) (htk : PySem.W.takesIn K (.builtin "object.__class__") = some true)
      (hm : PySem.W.mroIn K C (.type "object") = some true) : TyOf K H (.ref a) (.ref C)
/-- isinstance(x, c) for one class c, a built-in or an own one: kitOne's answer -/
theorem isinst_ok {x : V} {u t : Value} (I : Inv X pins σ H s) (rx : RelV x u) (ty : TyOf X.K H x t) (e : PySem.W.kitOne X.K t c = some b) (h : ∀ tk, Q (.bool b) { s with toks := tk }) :
    wpAny (model X.prog X.w) A (call (.builtin "isinstance") [u, c]) Q E s := by
  cases ty with
  | non => cases (show u = Value.none from rx); exact PySem.W.kia_one PySem.W.kitx_none I.kIn True.intro e (fun z => nomatch z) h
  | bl y => cases (show u = Value.bool y from rx); exact PySem.W.kia_one PySem.W.kitx_bool I.kIn True.intro e (fun z => nomatch z) h
  | int i => obtain ⟨t, q⟩ := (show ∃ t, u = Value.int i t from rx); cases q; exact PySem.W.kia_one PySem.W.kitx_int I.kIn True.intro e (fun z => nomatch z) h
  | str y => obtain ⟨t, q⟩ := (show ∃ t, u = Value.str y t from rx); cases q; exact PySem.W.kia_one PySem.W.kitx_str I.kIn True.intro e (fun z => nomatch z) h
  | flt y => obtain ⟨t, q⟩ := (show ∃ t, u = Value.float y t from rx); cases q; exact PySem.W.kia_one PySem.W.kitx_float I.kIn True.intro e (fun z => nomatch z) h
  | @lst a xs ea =>
    cases (show u = Value.ref a from rx)
    obtain ⟨_, _, n, _, h1⟩ := (show ObjOk X.prog X.w H s.heap a (.lst xs) from I.hok a _ ea)
    exact PySem.W.kia_one PySem.W.kitx_list I.kIn ⟨_, h1, rfl⟩ e (fun z => nomatch z) h
  | @frz a ob xs ea =>
    cases (show u = Value.ref a from rx)
    obtain ⟨_, _, _, n, _, h1⟩ := (show ObjOk X.prog X.w H s.heap a (.frz ob (.lst xs)) from I.hok a _ ea)
    exact PySem.W.kia_one PySem.W.kitx_list I.kIn ⟨_, h1, rfl⟩ e (fun z => nomatch z) h
  | @tup a xs ea =>
    cases (show u = Value.ref a from rx)
    obtain ⟨_, _, _, p⟩ := (show ObjOk X.prog X.w H s.heap a (.tup xs) from I.hok a _ ea)
    obtain ⟨o, h1, h2, _⟩ := p
    exact PySem.W.kia_one PySem.W.kitx_tuple I.kIn ⟨o, h1, h2⟩ e (fun z => nomatch z) h
  | @dK a kvs ea =>
    cases (show u = Value.ref a from rx)
    obtain ⟨_, _, vs, _, p⟩ := (show ObjOk X.prog X.w H s.heap a (.dK kvs) from I.hok a _ ea)
    obtain ⟨o, es, ep, h1, h2, _⟩ := p
    exact PySem.W.kia_one PySem.W.kitx_dict I.kIn ⟨o, h1, h2.1⟩ e (fun z => nomatch z) h
  | @dT a kvs ea =>
    cases (show u = Value.ref a from rx)
    obtain ⟨_, _, xs, _, o, es, ep, h1, h2, _⟩ := (show ObjOk X.prog X.w H s.heap a (.dT kvs) from I.hok a _ ea)
    exact PySem.W.kia_one PySem.W.kitx_dict I.kIn ⟨o, h1, h2.1⟩ e (fun z => nomatch z) h
  | @ins a C dx fs ea cl ha hn htk hm =>
    cases (show u = Value.ref a from rx)
    obtain ⟨mA, O, _⟩ := ins_get I.hok ea
    obtain ⟨od, J, _⟩ := O.look
    exact PySem.W.kia_one (PySem.W.kitx_own (cl.get _) cl.hd ha hn htk hm) I.kIn J e (fun z => nomatch z) h
end
end L2
namespace L2
open PySem PySem.Spec PyProof.Rows
/-! ### room -/
structure Room (k : Nat) (A : Around) : Prop where
  hd : A.handled = none
  dp : A.depth + 3 * k + 5 < recursionLimit
  un : A.units + 16 * k + 200 < cLine
theorem Room.mono {j k : Nat} {A : Around} (r : Room k A) (h : j ≤ k) : Room j A := ⟨r.hd, by have := r.dp; omega, by have := r.un; omega⟩
theorem Room.deeper {k : Nat} {A : Around} (r : Room (k + 1) A) (env : Env) : Room k (A.deeper env) :=
  ⟨r.hd, by have := r.dp; show A.depth + 1 + 3 * k + 5 < _; omega, by have := r.un; show A.units + 3 + 16 * k + 200 < _; omega⟩
theorem Room.in1 {k : Nat} {A : Around} (r : Room (k + 1) A) : Room k A.in1 :=
  ⟨r.hd, by have := r.dp; show A.depth + 3 * k + 5 < _; omega, by have := r.un; show A.units + 1 + 16 * k + 200 < _; omega⟩
theorem Room.depth {k : Nat} {A : Around} (r : Room k A) : A.depth < recursionLimit := by have := r.dp; omega
theorem Room.units {k : Nat} {A : Around} (r : Room k A) : A.units + 64 < cLine := by have := r.un; omega
theorem Room.units0 {k : Nat} {A : Around} (r : Room k A) : A.units < cLine := by have := r.un; omega
/-! ### argument lists and displays -/
def tNil : TA := fun _ H Q => Q [] H
def tCons (ta : TE) (tr : TA) : TA := fun σ H Q => ta σ H fun x H1 => tr σ H1 fun xs H2 => Q (x :: xs) H2
section
variable {X : Cx} {e : Expr} {es : List Expr} {te : TE} {t : TA} {pos : Pos}
theorem pa_nil : PA X [] tNil := fun _ _ _ _ H Q I h => Calls.spliced_nil ⟨[], H, I, .nil, h⟩
theorem pa_cons (ha : PE X e te) (hr : PA X es t) (hs : starEach (e :: es) X.env = (false, eval e X.env) :: starEach es X.env := by rfl) : PA X (e :: es) (tCons te t) := by
  intro pos pins s σ H Q I h
  rw [hs]
  show wpAny _ _ (spliced ((false, eval e X.env) :: backTo pos (starEach es X.env))) _ _ s
  refine Calls.spliced_cons (thn (ha pins s σ H _ I h) fun u s1 ⟨x, H1, I1, r1, q1⟩ => ?_)
  exact thn (hr pos pins s1 σ H1 _ I1 q1) fun us s2 ⟨xs, H2, I2, r2, q2⟩ => ⟨x :: xs, H2, I2, .cons r1 r2, q2⟩
/-- a tuple, a list of written items -/
def tTup (t : TA) : TE := fun σ H Q => t σ H fun xs H1 => xs.length ≤ sizeLine ∧ ∀ p, H1 p = none → Q (.ref p) (upd H1 p (.tup xs))
def tLst (t : TA) : TE := fun σ H Q => t σ H fun xs H1 => xs.length ≤ sizeLine ∧ ∀ p, H1 p = none → Q (.ref p) (upd H1 p (.lst xs))
theorem pe_tup {x1} (h : PA X es t) : PE X (.Tuple es x1 pos) (tTup t) := by
  intro pins s σ H Q I hq
  refine wpAny_Tuple_spliced (thn (h pos pins s σ H _ I hq) fun us s1 ⟨xs, H1, I1, r, z, q⟩ => ⟨by rw [← r.length]; exact z, ?_⟩)
  have hf : H1 s1.heap.objs.size = none := I1.hok.fresh (Nat.le_refl _)
  refine ⟨.ref s1.heap.objs.size, upd H1 s1.heap.objs.size (.tup xs), I1.laid (t' := s1.toks) (fun b u e => Heap.get?_push_of_some _ e) (Nat.le_refl _) ?_, rfl, q _ hf⟩
  exact ⟨z, us, r, ⟨_, Heap.get?_push_size _ rfl, rfl, _, rfl⟩⟩
theorem pe_lst (h : PA X es t) : PE X (.List es pos) (tLst t) := by
  intro pins s σ H Q I hq
  refine wpAny_List_spliced (thn (h pos pins s σ H _ I hq) fun us s1 ⟨xs, H1, I1, r, z, q⟩ => ⟨by rw [← r.length]; exact z, ?_⟩)
  have hf : H1 s1.heap.objs.size = none := I1.hok.fresh (Nat.le_refl _)
  refine ⟨.ref s1.heap.objs.size, upd H1 s1.heap.objs.size (.lst xs), I1.laid (t' := s1.toks) (fun b u e => Heap.get?_push_of_some _ e) (Nat.le_refl _) ?_, rfl, q _ hf⟩
  exact ⟨z, us, 0, r, Heap.get?_push_size _ rfl⟩
end
/-! ### what a def promises -/
/-- a def's promise: the bound arguments in the parameters' order, the heap, the wanted end, the wanted exception -/
abbrev Sp := List V → Hp → VK → XK → Prop
/-- how an exception lies behind a call (file 08 gives it): the callers' frames, abstract heap and state ahead of the call, the wish, the exception, the state -/
abbrev CXT := List Env → Hp → Shared → XK → Value → Shared → Prop
/-- the state at a call -/
structure Env0 (P : Program) (w : World) (K : PySem.W.Frag) (mg : Str → Option Value) (base : Heap) (A : Around) (outer : List Env) (s : Shared) (H : Hp) : Prop where
  frames : A.frames = some outer
  mod : Mod K mg base
  bs : ∀ b o, base.get? b = some o → s.heap.get? b = some o ∧ H b = none
  bsz : base.objs.size ≤ s.heap.objs.size
  funs : s.heap.FunFrames base outer
  frf : ∀ b ∈ frs outer, H b = none
  hok : HOk P w H s.heap
  bare : AllBare s.gens
/-- a call's end -/
def CE (outer : List Env) (P : Program) (w : World) (H : Hp) (s : Shared) (Q : VK) (u : Value) (s' : Shared) : Prop :=
  ∃ v H', s'.os = s.os ∧ AllBare s'.gens ∧ Un (frs outer) [] H H' s.heap s'.heap ∧ HOk P w H' s'.heap ∧ RelV v u ∧ Q v H'
def CR (CX : CXT) (outer : List Env) (P : Program) (w : World) (H : Hp) (s : Shared) (Q : VK) (E : XK) (r : Result) (s' : Shared) : Prop :=
  match r with
  | .ok (.ret u) => CE outer P w H s Q u s'
  | .ok _ => False
  | .error e => CX outer H s E e s'
structure FnOk (P : Program) (w : World) (K : PySem.W.Frag) (mg : Str → Option Value) (base : Heap) (CX : CXT) (k : Nat) (f : Addr) (fd : FuncData) (ps : List Str) (sp : Sp) : Prop where
  len : ∀ vs H Q E, sp vs H Q E → vs.length = ps.length
  run : ∀ (A : Around) (outer : List Env) (s : Shared) (H : Hp) (args : Args) (us : List Value) (vs : List V) (Q : VK) (E : XK), Room k A → Env0 P w K mg base A outer s H → BindsTo s fd args (ps.zip us) → Vals vs us → sp vs H Q E →
    codeAny (model P w) A (.call (.ref f) args) (CR CX outer P w H s Q E) s
theorem FnOk.mono {P : Program} {w : World} {K : PySem.W.Frag} {mg : Str → Option Value} {base : Heap} {CX : CXT} {j k : Nat} {f : Addr} {fd : FuncData} {ps : List Str} {sp : Sp} (F : FnOk P w K mg base CX j f fd ps sp) (h : j ≤ k) :
    FnOk P w K mg base CX k f fd ps sp := ⟨F.len, fun A outer s H args us vs Q E hr => F.run A outer s H args us vs Q E (hr.mono h)⟩
/-- a weaker promise -/
theorem FnOk.imp {P : Program} {w : World} {K : PySem.W.Frag} {mg : Str → Option Value} {base : Heap} {CX : CXT} {k : Nat} {f : Addr} {fd : FuncData} {ps : List Str} {sp sp' : Sp} (F : FnOk P w K mg base CX k f fd ps sp)
    (h : ∀ vs H Q E, sp' vs H Q E → sp vs H Q E) : FnOk P w K mg base CX k f fd ps sp' :=
  ⟨fun vs H Q E q => F.len vs H Q E (h _ _ _ _ q), fun A outer s H args us vs Q E hr he hb hv hs => F.run A outer s H args us vs Q E hr he hb hv (h _ _ _ _ hs)⟩
theorem Env0.in1 {P : Program} {w : World} {K : PySem.W.Frag} {mg : Str → Option Value} {base : Heap} {A : Around} {outer : List Env} {s : Shared} {H : Hp} (e : Env0 P w K mg base A outer s H) :
    Env0 P w K mg base A.in1 outer s H := ⟨e.frames, e.mod, e.bs, e.bsz, e.funs, e.frf, e.hok, e.bare⟩
section
variable {X : Cx} {pins : List (Addr × Obj)} {σ : St} {H : Hp} {s s' : Shared}
/-- from a body: what a callee wants -/
theorem Inv.env0 (I : Inv X pins σ H s) : Env0 X.prog X.w X.K X.mg X.base X.A X.stack s H :=
  ⟨I.ok.frames, I.ok.mod, I.bs, Nat.le_trans I.ok.bsz I.sz, I.stack, I.stkFree, I.hok, I.bare⟩
/-- behind a call -/
theorem Inv.after {Q : VK} {u : Value} (I : Inv X pins σ H s) (h : CE X.stack X.prog X.w H s Q u s') : EP X pins σ Q u s' := by
  obtain ⟨v, H', os, bare, un, hok, r, q⟩ := h
  obtain ⟨hh, g, d, t, os'⟩ := s'
  obtain rfl : os' = s.os := os
  exact ⟨v, H', I.call (h' := hh) (g' := g) (d' := d) (t' := t) (ch := []) un hok bare (fun b z => absurd z (by simp)), r, q⟩
end
/-! ### calls -/
/-- f(..): the written arguments, then the defaults dvs; E: what is wanted of an exception -/
def tCall (sp : Sp) (dvs : List V) (E : XK) (t : TA) : TE := fun σ H Q => t σ H fun vs H1 => sp (vs ++ dvs) H1 Q E
/-- how the parameters are bound: us the positional arguments, kw the keywords' values by name, ds the defaults that fill up -/
def Binds (K : PySem.W.Frag) (fd : FuncData) (ps : List Str) (ds : List Value) : Prop :=
  ∀ (s : Shared) (us : List Value), K.In s.heap → (us ++ ds).length = ps.length → BindsTo s fd ⟨us, []⟩ (ps.zip (us ++ ds))
/-- every parameter is given -/
theorem Binds.all {K : PySem.W.Frag} {fd : FuncData} {ps : List Str} (h : ∀ us : List Value, us.length = ps.length → bindArgs fd ⟨us, []⟩ = pure (ps.zip us)) : Binds K fd ps [] := fun s us _ hl => by
  rw [List.append_nil] at hl ⊢
  exact .of_eq (h us hl)
/-- an exception of a callee reaches what this body wants of exceptions -/
def Passes (CX : CXT) (X : Cx) (E : XK) : Prop := ∀ (pins : List (Addr × Obj)) (σ : St) (H : Hp) (s : Shared) (e : Value) (s' : Shared), Inv X pins σ H s → CX X.stack H s E e s' → X.xe e s'
section
variable {X : Cx} {CX : CXT} {k : Nat} {f C : Addr} {fd : FuncData} {ps : List Str} {sp : Sp} {dvs : List V} {ds : List Value} {E : XK} {x m : Str} {p pos apos : Pos} {e o : Expr} {es : List Expr} {ta : TE} {t : TA}
/-- the callee runs -/
theorem run_fn {pins : List (Addr × Obj)} {σ : St} {H : Hp} {s : Shared} {Q : VK} {us : List Value} {vs : List V} (F : FnOk X.prog X.w X.K X.mg X.base CX k f fd ps sp) (hr : Room k X.A) (hb : Binds X.K fd ps ds) (hd : Vals dvs ds) (hx : Passes CX X E)
    (I : Inv X pins σ H s) (r : Vals vs us) (h : sp (vs ++ dvs) H Q E) : wpAny (model X.prog X.w) X.A (call (.ref f) us) (EP X pins σ Q) X.xe s := by
  have r2 : Vals (vs ++ dvs) (us ++ ds) := r.append hd
  have hl : (us ++ ds).length = ps.length := by rw [← r2.length]; exact F.len _ _ _ _ h
  refine wpAny_call (codeAny_mono (F.run X.A X.stack s H ⟨us, []⟩ (us ++ ds) (vs ++ dvs) Q E hr I.env0 (hb s us I.kIn hl) r2 h) fun r s' hq => ?_)
  cases r with
  | error e => exact hx pins σ H s e s' I hq
  | ok fl =>
    cases fl with
    | ret u => exact I.after hq
    | next => exact False.elim hq
    | brk => exact False.elim hq
    | cont => exact False.elim hq
theorem pe_call (F : FnOk X.prog X.w X.K X.mg X.base CX k f fd ps sp) (hr : Room k X.A) (hg : Gl X x) (hm : X.mg x = some (.ref f)) (hk : PySem.W.keepIn X.K (.ref f) = true) (hb : Binds X.K fd ps ds) (hd : Vals dvs ds) (hx : Passes CX X E)
    (ha : PA X (e :: es) t) (hdb : (x == ("__debug__" : Str)) = false := by decide) (he : starEach (e :: es) X.env = (false, eval e X.env) :: starEach es X.env := by rfl) (hpl : (backTo pos (starEach es X.env)).any (·.1) = false := by rfl) :
    PE X (.Call (.Name x p) (e :: es) [] pos) (tCall sp dvs E t) := by
  intro pins s σ H Q I h
  refine wpAny_Call_Name_kw (ld_glob I hg hm ?_ hdb)
  refine PySem.W.callWith_K (h₀ := X.base) I.ok.mod.kin hk (thn (ha pos pins s σ H _ I h) fun us s1 ⟨vs, H1, I1, r, q⟩ => ⟨I1.kIn, ?_⟩) he hpl
  exact run_fn F hr hb hd hx I1 r q
/-- what a class must have to be made -/
structure Mk (K : PySem.W.Frag) (C f : Addr) : Prop where
  makes : PySem.W.makesIn K C = true
  init : PySem.W.findIn K (.ref C) "__init__" = some (some (.ref f))
  fn : PySem.W.isFn K (.ref f) = true
  kp : PySem.W.keepIn K (.ref C) = true
end
/-! ### keywords -/
section
variable {X : Cx} {CX : CXT} {k : Nat} {f C : Addr} {fd : FuncData} {ps ks : List Str} {sp : Sp} {E : XK} {x m : Str} {p pos apos kpos : Pos} {e o : Expr} {es : List Expr} {kws : List Keyword} {te ta : TE} {t tk : TA} {nm : Option Str}
/-- how a call with keywords binds: g puts the positional values us and the keywords' values ws (names ks) in the parameters' order, defaults among them -/
structure KBinds (K : PySem.W.Frag) (fd : FuncData) (ps ks : List Str) (g : List Value → List Value → List Value) (gV : List V → List V → List V) : Prop where
  to : ∀ (s : Shared) (us ws : List Value), K.In s.heap → (g us ws).length = ps.length → BindsTo s fd ⟨us, ks.zip ws⟩ (ps.zip (g us ws))
  rel : ∀ {vs : List V} {us : List Value} {zs : List V} {ws : List Value}, Vals vs us → Vals zs ws → Vals (gV vs zs) (g us ws)
variable {g : List Value → List Value → List Value} {gV : List V → List V → List V}
end
/-! ### a def's body keeps its promise -/
/-- names: the parameters first -/
structure FnScope (N P : List Str) (sc : Scope) : Prop where
  kind : sc.kind = .function
  co : sc.isCoroutine = false
  gen : sc.isGenerator = false
  nd : N.Nodup
  pre : N.take P.length = P
  par : ∀ x ∈ P, sc.names.lookup x = some .local ∨ sc.names.lookup x = some .cell
  nofree : ∀ y ∈ sc.names, y.2 ≠ .free
theorem bindL_out {kindOf : Str → Option NameKind} {x : Str} : ∀ {binds : List (Str × Value)} {m : Str → Option Value}, (∀ v, (x, v) ∉ binds) → bindL kindOf binds m x = m x
  | [], _, _ => rfl
  | (n, v) :: r, m, h => by
    unfold bindL
    rw [bindL_out fun w hw => h w (List.mem_cons_of_mem _ hw)]
    split
    · have : x ≠ n := by rintro rfl; exact h v List.mem_cons_self
      simp [this]
    · rfl
theorem bindC_out {kindOf : Str → Option NameKind} {x : Str} : ∀ {binds : List (Str × Value)} {m : Str → Option Value}, (∀ v, (x, v) ∉ binds) → bindC kindOf binds m x = m x
  | [], _, _ => rfl
  | (n, v) :: r, m, h => by
    unfold bindC
    rw [bindC_out fun w hw => h w (List.mem_cons_of_mem _ hw)]
    split
    · rfl
    · have : x ≠ n := by rintro rfl; exact h v List.mem_cons_self
      simp [this]
theorem bindL_get {kindOf : Str → Option NameKind} {x : Str} {v : Value} : ∀ {P : List Str} {vs : List Value} {i : Nat} {m : Str → Option Value}, P.Nodup → P[i]? = some x → vs[i]? = some v → kindOf x = some .local →
    bindL kindOf (P.zip vs) m x = some v
  | [], _, _, _, _, h, _, _ => by simp at h
  | _ :: _, [], _, _, _, _, h, _ => by simp at h
  | p :: P, w :: vs, 0, m, nd, h1, h2, hk => by
    simp at h1 h2; subst h1; subst h2
    show bindL kindOf ((p, w) :: P.zip vs) m p = _
    unfold bindL
    rw [bindL_out fun v hv => (List.nodup_cons.mp nd).1 (List.of_mem_zip hv).1, if_pos hk]
    simp
  | p :: P, w :: vs, i + 1, m, nd, h1, h2, hk => by
    show bindL kindOf ((p, w) :: P.zip vs) m x = _
    unfold bindL
    exact bindL_get (i := i) (List.nodup_cons.mp nd).2 (by simpa using h1) (by simpa using h2) hk
theorem bindC_get {kindOf : Str → Option NameKind} {x : Str} {v : Value} : ∀ {P : List Str} {vs : List Value} {i : Nat} {m : Str → Option Value}, P.Nodup → P[i]? = some x → vs[i]? = some v → kindOf x ≠ some .local →
    bindC kindOf (P.zip vs) m x = some v
  | [], _, _, _, _, h, _, _ => by simp at h
  | _ :: _, [], _, _, _, _, h, _ => by simp at h
  | p :: P, w :: vs, 0, m, nd, h1, h2, hk => by
    simp at h1 h2; subst h1; subst h2
    show bindC kindOf ((p, w) :: P.zip vs) m p = _
    unfold bindC
    rw [bindC_out fun v hv => (List.nodup_cons.mp nd).1 (List.of_mem_zip hv).1, if_neg hk]
    simp
  | p :: P, w :: vs, i + 1, m, nd, h1, h2, hk => by
    show bindC kindOf ((p, w) :: P.zip vs) m x = _
    unfold bindC
    exact bindC_get (i := i) (List.nodup_cons.mp nd).2 (by simpa using h1) (by simpa using h2) hk
/-- the names' values at the entry -/
def start (N : List Str) (vs : List V) : St := vs.map some ++ List.replicate (N.length - vs.length) none
/-- the context of a def's body, at its entry; an exception leaves the frame, then lies as CX says -/
def cxOf (CX : CXT) (P : Program) (w : World) (K : PySem.W.Frag) (mg : Str → Option Value) (base : Heap) (N : List Str) (qual : Str) (scope : Scope) (f : Addr) (cd : Value) (A : Around) (outer : List Env) (s : Shared) (H : Hp) (E : XK) : Cx where
  prog := P
  w := w
  K := K
  mg := mg
  base := base
  A := A.deeper (envOfC qual scope s.heap.objs.size f cd)
  N := N
  s₀ := s
  H₀ := H
  env := envOfC qual scope s.heap.objs.size f cd
  outer := outer
  stack := envOfC qual scope s.heap.objs.size f cd :: outer
  ex := []
  calm := true
  fn := fun _ => true
  pn := []
  xe := fun e s' => wpAny (model P w) (A.deeper (envOfC qual scope s.heap.objs.size f cd)) (leaving (envOfC qual scope s.heap.objs.size f cd) e) (fun _ s'' => CX outer H s E e s'') (fun e' s'' => CX outer H s E e' s'') s'
theorem cell_has {sc : Scope} {n : Nat} {x : Str} (h : sc.names.lookup x = some .cell) : ∃ c, (cellsFrom n sc.names []).lookup x = some c := by
  have q := PySem.W.cellsFrom_some sc.names n [] (.inl h)
  exact Option.isSome_iff_exists.mp q
theorem inv_start {CX : CXT} {P : Program} {w : World} {K : PySem.W.Frag} {mg : Str → Option Value} {base : Heap} {N ps : List Str} {qual : Str} {scope : Scope} {f : Addr} {cd : Value} {A : Around} {outer : List Env} {s s1 : Shared} {H : Hp} {E : XK} {us : List Value} {vs : List V}
    (S : FnScope N ps scope) (hd : A.handled = none) (e0 : Env0 P w K mg base A outer s H) (hl : vs.length = ps.length) (r : Vals vs us)
    (x : InCallC s s.heap.objs.size (bindL (envOfC qual scope s.heap.objs.size f cd).kindOf (ps.zip us) fun _ => none) (cellsFrom (s.heap.objs.size + 1) scope.names []) (bindC (envOfC qual scope s.heap.objs.size f cd).kindOf (ps.zip us) fun _ => none) s1) :
    Inv (cxOf CX P w K mg base N qual scope f cd A outer s H E) [] (start N vs) H s1 := by
  have hpl : ps.length ≤ N.length := by have := congrArg List.length S.pre; rw [List.length_take] at this; omega
  obtain ⟨h1, tk, rfl, hk⟩ := x.done
  have noA : ∀ b : Addr, b ∉ (cxOf CX P w K mg base N qual scope f cd A outer s H E).ex := fun b z => absurd (show b ∈ ([] : List Addr) from z) (by simp)
  refine ⟨⟨e0.mod, S.kind, rfl, rfl, Nat.le_refl _, fun y z c h1 h2 => ?_, fun y hy => ?_, fun y c _ h => ?_, fun _ => hd, Around.frames_deeper e0.frames, .inr ⟨rfl, rfl⟩, fun b z => absurd z (noA b), e0.bs, e0.bsz, fun b _ _ => noA b, fun b z => absurd z (noA b), e0.funs, e0.frf⟩,
    rfl, e0.bare, Un.kept hk, ⟨_, x.toInCall.ns, fun i y v h1 h2 h3 => ?_⟩, fun y c h => ⟨_, x.cell y c h⟩, e0.hok.fresh (Nat.le_refl _), fun y c h => ?_, fun p hp => absurd (show p ∈ ([] : List (Addr × Obj)) from hp) (by simp), e0.hok.kept hk, ?_⟩
  · exact name_of_addr x.apart (PySem.mem_of_lookup h1) (PySem.mem_of_lookup h2)
  · have hy : scope.names.lookup y = some .cell ∨ scope.names.lookup y = some .free := hy
    rcases hy with hy | hy
    · exact cell_has hy
    · exact absurd rfl (S.nofree _ (PySem.mem_of_lookup hy))
  · exact Nat.le_of_lt (x.above y c (PySem.mem_of_lookup h))
  · have hi : i < vs.length := by
      unfold start at h2
      by_cases hi : i < vs.length
      · exact hi
      · rw [List.getElem?_append_right (by simpa using hi)] at h2
        rw [List.getElem?_replicate] at h2
        split at h2 <;> cases h2
    have ha : vs[i]? = some v := by
      unfold start at h2
      rw [List.getElem?_append_left (by simpa using hi), List.getElem?_map] at h2
      cases e : vs[i]? with
      | none => rw [e] at h2; cases h2
      | some a => rw [e] at h2; cases h2; rfl
    obtain ⟨u, hu, rv⟩ := r.get ha
    have hp : ps[i]? = some y := by
      rw [← S.pre, List.getElem?_take_of_lt (by omega)]; exact h1
    have ndP : ps.Nodup := by rw [← S.pre]; exact S.nd.sublist (List.take_sublist _ _)
    refine ⟨u, rv, ?_⟩
    rcases S.par y (List.mem_of_getElem? hp) with k | k
    · exact .inl ⟨k, bindL_get ndP hp hu k⟩
    · obtain ⟨c, e⟩ := cell_has (n := s.heap.objs.size + 1) k
      refine .inr ⟨.inl k, c, e, ?_⟩
      have q := x.cell y c e
      rw [bindC_get ndP hp hu (by show scope.names.lookup y ≠ _; rw [k]; decide)] at q
      exact q
  · exact e0.hok.fresh (Nat.le_of_lt (x.above y c (PySem.mem_of_lookup h)))
  · unfold start
    show _ = N.length
    rw [List.length_append, List.length_map, List.length_replicate]
    omega
/-- THE RULE: a def (or a method) of the text, by its body. The body's reading t is chosen for each entry; it is run at the parameters' values -/
theorem fn_of {CX : CXT} {P : Program} {w : World} {K : PySem.W.Frag} {mg : Str → Option Value} {base : Heap} {k : Nat} {f : Addr} {name qual : Str} {params : Arguments} {body : List Stmt} {scope : Scope} {dV kV doc pm cdv ct oc : Value} {an od : Option Addr}
    {osl : Array (Option Value)} {N ps : List Str} {sp : Sp} (lk : K.lookup f = some ⟨oc, od, .func (PySem.W.fnOf name qual params body scope dV kV doc pm an cdv ct), osl⟩) (hcd : PySem.W.codeIn K cdv qual = true) (S : FnScope N ps scope)
    (len : ∀ vs H Q E, sp vs H Q E → vs.length = ps.length)
    (hbody : ∀ (A : Around) (outer : List Env) (s : Shared) (H : Hp) (vs : List V) (Q : VK) (E : XK), Room k (A.deeper (envOfC qual scope s.heap.objs.size f cdv)) → sp vs H Q E →
      ∃ t, PSs (cxOf CX P w K mg base N qual scope f cdv A outer s H E) body t ∧ t { nx := fun _ H' => Q .non H', rt := Q } (start N vs) H) :
    FnOk P w K mg base CX (k + 1) f (PySem.W.fnOf name qual params body scope dV kV doc pm an cdv ct) ps sp := by
  refine ⟨len, fun A outer s H args us vs Q E hr e0 hb r hsp => ?_⟩
  have hl := len _ _ _ _ hsp
  have KX : K.In s.heap := e0.mod.kin.keeps fun b o e => (e0.bs b o e).1
  have lim : s.heap.NoLimit := e0.mod.nolimit.keeps fun b o e => (e0.bs b o e).1
  have hkind : ∀ y ∈ ps.zip us, scope.names.lookup y.1 = some .local ∨ (scope.names.lookup y.1 = some .cell ∧ ((cellsFrom (s.heap.objs.size + 1) scope.names []).lookup y.1).isSome = true) := fun ⟨n, v⟩ hy => by
    rcases S.par n (List.of_mem_zip hy).1 with q | q
    · exact .inl q
    · exact .inr ⟨q, PySem.W.cellsFrom_some _ _ _ (.inl q)⟩
  refine codeAny_call_function hr.depth (KX _ _ lk) rfl S.co S.gen rfl (PySem.W.codeRec_of KX hcd) (hb _ _ _ _ ?_)
  refine wpAny_newFunctionEnv_cells S.kind hkind fun env he s1 x => ?_
  subst he
  refine ⟨lim.keeps x.toInCall.keep, codeAny_func ?_⟩
  obtain ⟨t, ht, hq⟩ := hbody A outer s H vs Q E (hr.deeper _) hsp
  have I : Inv (cxOf CX P w K mg base N qual scope f cdv A outer s H E) [] (start N vs) H s1 := inv_start S hr.hd e0 hl r x
  refine wpAny_mono (ht [] s1 (start N vs) H _ I hq) (fun fl s' hs => ?_) fun e s' hs => hs
  have fin : ∀ {σ' : St} {H' : Hp} {v : V} {u : Value}, Inv (cxOf CX P w K mg base N qual scope f cdv A outer s H E) [] σ' H' s' → RelV v u → Q v H' → CE outer P w H s Q u s' :=
    fun {σ' H' v u} J rv q => ⟨v, H', J.os, J.bare, J.base, J.hok, rv, q⟩
  cases fl with
  | ret u =>
    obtain ⟨v, σ', H', J, rv, q⟩ := hs
    exact fin J rv q
  | next =>
    obtain ⟨σ', H', J, q⟩ := hs
    exact fin (v := V.non) (u := Value.none) J rfl q
  | brk =>
    obtain ⟨_, _, _, q⟩ := hs
    exact False.elim q
  | cont =>
    obtain ⟨_, _, _, q⟩ := hs
    exact False.elim q
end L2
namespace L2
open PySem PySem.Spec PyProof.Rows
section
variable {X : Cx} {x : Str} {p pos : Pos} {e : Expr} {es : List Expr} {t : TA} {id T : String} {r : List V → Hp → VK → Prop}
def tCB (r : List V → Hp → VK → Prop) (t : TA) : TE := fun σ H Q => t σ H fun vs H1 => r vs H1 Q
/-- f(e, ..), f a built-in function -/
theorem pe_callB (hc : CallR X (.builtin id) r) (hg : Gl X x) (hm : X.mg x = none) (hv : bootBuiltins x = some (.builtin id)) (ha : PA X (e :: es) t) (hn : x ≠ "__name__" := by decide) (hdb : (x == ("__debug__" : Str)) = false := by decide)
    (he : starEach (e :: es) X.env = (false, eval e X.env) :: starEach es X.env := by rfl) (hpl : (backTo pos (starEach es X.env)).any (·.1) = false := by rfl) : PE X (.Call (.Name x p) (e :: es) [] pos) (tCB r t) := by
  intro pins s σ H Q I h
  refine wpAny_Call_Name_kw (ld_blt I hg hm hv ?_ hn hdb)
  exact PyProof.Rows.callWith_builtin1 (thn (ha pos pins s σ H _ I h) fun us s1 ⟨vs, H1, I1, r1, q1⟩ => hc pins s1 σ H1 vs us Q I1 r1 q1) he hpl
/-- T(e, ..), T a built-in type -/
theorem pe_callTy (hc : CallR X (.type T) r) (hg : Gl X x) (hm : X.mg x = none) (hv : bootBuiltins x = some (.type T)) (ha : PA X (e :: es) t) (hn : x ≠ "__name__" := by decide) (hdb : (x == ("__debug__" : Str)) = false := by decide)
    (he : starEach (e :: es) X.env = (false, eval e X.env) :: starEach es X.env := by rfl) (hpl : (backTo pos (starEach es X.env)).any (·.1) = false := by rfl) : PE X (.Call (.Name x p) (e :: es) [] pos) (tCB r t) := by
  intro pins s σ H Q I h
  refine wpAny_Call_Name_kw (ld_blt I hg hm hv ?_ hn hdb)
  exact PyProof.Rows.callWith_type1 (thn (ha pos pins s σ H _ I h) fun us s1 ⟨vs, H1, I1, r1, q1⟩ => hc pins s1 σ H1 vs us Q I1 r1 q1) he hpl
end
end L2
namespace HT
open PySem PyProof.Rows
section
open PySem.SeqAt
open PySem.AutoSeq1 (wpAny_loadPart')
open PySem.MeetsSeq PySem.MeetsSeq2 PySem.MeetsSeq3
end
section
variable {prog : Program} {w : World} {A : Around} {E : Value → Shared → Prop} {s : Shared}
/-! ### t[a:b], not the whole -/
/-- a slice's bound as a place among n (d where it is left out) -/
def sIx (n d : Nat) : Option Int → Nat
  | none => d
  | some v => if v < 0 then (v + (n : Int)).toNat else min v.toNat n
theorem sIx_none (n d : Nat) : sIx n d none = d := rfl
theorem sIx_nat (n d k : Nat) : sIx n d (some (k : Int)) = min k n := by
  show (if (k : Int) < 0 then ((k : Int) + (n : Int)).toNat else min (k : Int).toNat n) = min k n
  rw [if_neg (by omega), Int.toNat_natCast]
end
end HT
namespace L2
open PySem PySem.Spec PyProof.Rows
/-! ### the parts of a slice -/
abbrev TO := St → Hp → (Option Int → Hp → Prop) → Prop
/-- a slice's part (left out, or an int) -/
def PO (X : Cx) (e : Option Expr) (t : TO) : Prop :=
  ∀ (pins : List (Addr × Obj)) (s : Shared) (σ : St) (H : Hp) (Q : Option Int → Hp → Prop), Inv X pins σ H s → t σ H Q →
    wpAny (model X.prog X.w) X.A (evalPart e X.env) (fun u s' => ∃ o H', Inv X pins σ H' s' ∧ IsPart u o ∧ Q o H') X.xe s
def tNoPart : TO := fun _ H Q => Q none H
def tPart (t : TE) : TO := fun σ H Q => t σ H fun x H1 => ∃ i, x = .int i ∧ Q (some i) H1
section
variable {X : Cx} {e : Expr} {te : TE} {lo hi : Option Expr} {tl th : TO} {pos p2 : Pos}
theorem po_none : PO X none tNoPart := by
  intro pins s σ H Q I h
  rw [evalPart_none]
  exact wpAny_pure ⟨none, H, I, .none, h⟩
theorem po_some (h : PE X e te) : PO X (some e) (tPart te) := by
  intro pins s σ H Q I hw
  rw [evalPart_some]
  refine thn (h pins s σ H _ I hw) fun u s1 ⟨x, H1, I1, r1, q1⟩ => ?_
  obtain ⟨i, rfl, q⟩ := q1
  obtain ⟨t, rfl⟩ := r1
  exact ⟨some i, H1, I1, .int i t, q⟩
/-- what a slice of a value is, by values: the slice object stands at sl -/
def SlR (X : Cx) (r : V → Option Int → Option Int → Hp → VK → Prop) : Prop :=
  ∀ (pins : List (Addr × Obj)) (s : Shared) (σ : St) (H : Hp) (x : V) (v vl vu : Value) (lo hi : Option Int) (sl : Addr) (Q : VK), Inv X pins σ H s → RelV x v → s.heap.IsSliceOf sl vl vu .none → IsPart vl lo → IsPart vu hi → r x lo hi H Q →
    ∃ T id, typeLookup (.type T) "__getitem__" = pure (some (.builtin id)) ∧ s.TypeIs v T ∧ wpAny (model X.prog X.w) X.A (getItem v (.ref sl)) (EP X pins σ Q) X.xe s
theorem SlR.or {r r' : V → Option Int → Option Int → Hp → VK → Prop} (h : SlR X r) (h' : SlR X r') : SlR X (fun x lo hi H Q => r x lo hi H Q ∨ r' x lo hi H Q) := by
  intro pins s σ H x v vl vu lo hi sl Q I rx hs pl pu q
  rcases q with q | q
  · exact h pins s σ H x v vl vu lo hi sl Q I rx hs pl pu q
  · exact h' pins s σ H x v vl vu lo hi sl Q I rx hs pl pu q
def tSl (r : V → Option Int → Option Int → Hp → VK → Prop) (te : TE) (tl th : TO) : TE := fun σ H Q => te σ H fun x H1 => tl σ H1 fun l H2 => th σ H2 fun u H3 => r x l u H3 Q
/-- a[lo:hi], any a -/
theorem pe_slice {r : V → Option Int → Option Int → Hp → VK → Prop} (hr : SlR X r) (he : PE X e te) (hl : PO X lo tl) (hu : PO X hi th) : PE X (.Subscript e (.Slice lo hi none p2) pos) (tSl r te tl th) := by
  intro pins s σ H Q I h
  refine Subscript_ (thn (he pins s σ H _ I h) fun v s1 ⟨x, H1, I1, r1, q1⟩ => ?_)
  refine wpAny_Slice (thn (hl pins s1 σ H1 _ I1 q1) fun vl s2 ⟨l, H2, I2, pl, q2⟩ => thn (hu pins s2 σ H2 _ I2 q2) fun vu s3 ⟨u, H3, I3, pu, q3⟩ => ?_)
  rw [evalPart_none]
  refine wpAny_pure ?_
  have I4 : Inv X pins σ H3 { s3 with heap := s3.heap.push { cls := .type "slice", data := .fields #[vl, vu, .none] } } := I3.kept (t' := s3.toks) fun b ob q => Heap.get?_push_of_some _ q
  obtain ⟨T, id, hT, ht, hg⟩ := hr pins { s3 with heap := s3.heap.push { cls := .type "slice", data := .fields #[vl, vu, .none] } } σ H3 x v vl vu l u s3.heap.objs.size Q I4 r1 (Heap.IsSliceOf.new ..) pl pu q3
  show wpAny (model X.prog X.w) X.A (subscriptTail e (.Slice lo hi none p2) v (.ref s3.heap.objs.size)) (EP X pins σ Q) X.xe { s3 with heap := s3.heap.push { cls := .type "slice", data := .fields #[vl, vu, .none] } }
  exact tail_any (ops := [.ref s3.heap.objs.size, v]) ht hT hg (by with_unfolding_all rfl)
/-- the items of xs[lo:hi] -/
def cutV (xs : List V) (lo hi : Option Int) : List V := (xs.drop (HT.sIx xs.length 0 lo)).take (HT.sIx xs.length xs.length hi - HT.sIx xs.length 0 lo)
theorem cutV_length (xs : List V) (lo hi : Option Int) : (cutV xs lo hi).length ≤ xs.length := by
  unfold cutV
  rw [List.length_take, List.length_drop]
  omega
/-! ### t < u, t + u -/
end
end L2
namespace L2
open PySem PySem.Spec PyProof.Rows
/-! ### places -/
/-- the place that an index of any sign means -/
def ixN (n : Nat) (i : Int) : Option Nat := if 0 ≤ i then (if i < n then some i.toNat else none) else if -(n : Int) ≤ i then some (i + n).toNat else none
def atI {α : Type} (xs : List α) (i : Int) : Option α := (ixN xs.length i).bind fun j => xs[j]?
theorem ixN_seq {n : Nat} {i : Int} {j : Nat} (h : ixN n i = some j) : seqIndex? i n = some j ∧ j < n ∧ -(n : Int) ≤ i ∧ i < n := by
  unfold ixN at h
  by_cases h0 : 0 ≤ i
  · rw [if_pos h0] at h
    by_cases h1 : i < n
    · rw [if_pos h1] at h
      have e : i.toNat = j := Option.some.inj h
      exact ⟨by rw [seqIndex_of h0 h1, e], by omega, by omega, h1⟩
    · rw [if_neg h1] at h; cases h
  · rw [if_neg h0] at h
    by_cases h1 : -(n : Int) ≤ i
    · rw [if_pos h1] at h
      have e : (i + n).toNat = j := Option.some.inj h
      exact ⟨by rw [seqIndex_neg (by omega) h1, e], by omega, h1, by omega⟩
    · rw [if_neg h1] at h; cases h
theorem atI_get {α : Type} {xs : List α} {i : Int} {v : α} (h : atI xs i = some v) : ∃ j, seqIndex? i xs.length = some j ∧ xs[j]? = some v ∧ j < xs.length ∧ -(xs.length : Int) ≤ i ∧ i < xs.length := by
  unfold atI at h
  cases e : ixN xs.length i with
  | none => rw [e] at h; cases h
  | some j =>
    rw [e] at h
    obtain ⟨h1, h2, h3, h4⟩ := ixN_seq e
    exact ⟨j, h1, h, h2, h3, h4⟩
theorem atI_nat {α : Type} {xs : List α} {j : Nat} {v : α} (h : xs[j]? = some v) : atI xs (j : Int) = some v := by
  have hj : j < xs.length := (List.getElem?_eq_some_iff.mp h).1
  have e : ixN xs.length (j : Int) = some j := by
    unfold ixN
    rw [if_pos (by omega), if_pos (by omega)]; simp
  unfold atI; rw [e]; exact h
theorem atI_last {α : Type} (xs : List α) (v : α) : atI (xs ++ [v]) (-1) = some v := by
  have hl : (xs ++ [v]).length = xs.length + 1 := by simp
  have e : ixN (xs ++ [v]).length (-1) = some xs.length := by
    unfold ixN
    rw [hl, if_neg (by decide), if_pos (by omega)]
    congr 1
    omega
  unfold atI
  rw [e]
  show (xs ++ [v])[xs.length]? = some v
  simp
/-! ### what may be subscripted -/
/-- what stands as an index of a plain subscript -/
def PlainIx (b : Expr) : Prop := ∀ o i, subscripted b false o i = operate [o, i] (getItem o i)
/-- a subscript by values -/
def IxR (X : Cx) (r : R2) : Prop :=
  ∀ (value slice : Expr) (pins : List (Addr × Obj)) (s : Shared) (σ : St) (H : Hp) (x y : V) (v u : Value) (Q : VK), Inv X pins σ H s → RelV x v → RelV y u → r x y H Q →
    subscripted slice false v u = operate [v, u] (getItem v u) → wpAny (model X.prog X.w) X.A (subscriptTail value slice v u) (EP X pins σ Q) X.xe s
/-- a call of a builtin's method by values: the receiver, the arguments -/
def MtR (X : Cx) (id : String) (r : V → List V → Hp → VK → Prop) : Prop :=
  ∀ (pins : List (Addr × Obj)) (s : Shared) (σ : St) (H : Hp) (x : V) (xs : List V) (v : Value) (us : List Value) (Q : VK), Inv X pins σ H s → RelV x v → Vals xs us → r x xs H Q →
    wpAny (model X.prog X.w) X.A (call (.builtin id) (v :: us)) (EP X pins σ Q) X.xe s
section
variable {X : Cx} {a b : Expr} {ta tb : TE} {pos : Pos}
theorem IxR.or {r r' : R2} (h : IxR X r) (h' : IxR X r') : IxR X (fun x y H Q => r x y H Q ∨ r' x y H Q) := by
  intro value slice pins s σ H x y v u Q I rx ry q hs
  rcases q with q | q
  · exact h value slice pins s σ H x y v u Q I rx ry q hs
  · exact h' value slice pins s σ H x y v u Q I rx ry q hs
theorem MtR.or {id : String} {r r' : V → List V → Hp → VK → Prop} (h : MtR X id r) (h' : MtR X id r') : MtR X id (fun x xs H Q => r x xs H Q ∨ r' x xs H Q) := by
  intro pins s σ H x xs v us Q I rx rs q
  rcases q with q | q
  · exact h pins s σ H x xs v us Q I rx rs q
  · exact h' pins s σ H x xs v us Q I rx rs q
/-- a[b] -/
theorem pe_ix {r : R2} (hr : IxR X r) (ha : PE X a ta) (hb : PE X b tb) (hs : PlainIx b) : PE X (.Subscript a b pos) (tOp r ta tb) := by
  intro pins s σ H Q I h
  exact Subscript_ (binT ha hb I h fun v u s2 x y H2 I2 rx ry q => hr a b pins s2 σ H2 x y v u Q I2 rx ry q (hs _ _))
def rIxL (K : PySem.W.Frag) : R2 := fun x y H Q => ∃ p xs i v, x = .ref p ∧ y = .int i ∧ SqL K H p xs ∧ atI xs i = some v ∧ Q v H
def rIxT (K : PySem.W.Frag) : R2 := fun x y H Q => ∃ p xs i v, x = .ref p ∧ y = .int i ∧ SqT K H p xs ∧ atI xs i = some v ∧ Q v H
theorem ix_list : IxR X (rIxL X.K) := by
  intro value slice pins s σ H x y v u Q I rx ry h hs
  obtain ⟨p, xs, i, z, rfl, rfl, hq, he, q⟩ := h
  cases rx
  obtain ⟨t, rfl⟩ := ry
  obtain ⟨its, r, pl, hz⟩ := I.list hq
  obtain ⟨j, h1, h2, h3, h4, h5⟩ := atI_get he
  obtain ⟨w, ew, rw'⟩ := r.get h2
  have hl := r.length
  have hn := line63
  have fin : EP X pins σ Q w s := ⟨z, H, I, rw', q⟩
  by_cases h0 : 0 ≤ i
  · have hj : i.toNat = j := by
      rw [seqIndex_of h0 h5] at h1
      exact Option.some.inj h1
    exact item_listR pl.isList h0 (by omega) (by rw [hj]; simpa using ew) fin hs
  · have hj : (i + (its.toArray.size : Int)).toNat = j := by
      rw [seqIndex_neg (by omega) h4] at h1
      rw [List.size_toArray, ← hl]
      exact Option.some.inj h1
    exact subscriptTail_builtinR (x := w) pl.isList.typeIs slot_list_getitem.lookup
      (wpAny_getItem_list_neg (Q := fun r s' => r = w ∧ EP X pins σ Q r s') pl.isList (by omega) (by rw [List.size_toArray] <;> omega) (by omega) (by rw [hj]; simpa using ew) ⟨rfl, fin⟩) hs
theorem ix_tup : IxR X (rIxT X.K) := by
  intro value slice pins s σ H x y v u Q I rx ry h hs
  obtain ⟨p, xs, i, z, rfl, rfl, hq, he, q⟩ := h
  cases rx
  obtain ⟨t, rfl⟩ := ry
  obtain ⟨its, r, pl, hz⟩ := I.tuple hq
  obtain ⟨j, h1, h2, h3, h4, h5⟩ := atI_get he
  obtain ⟨w, ew, rw'⟩ := r.get h2
  have hl := r.length
  have hn := line63
  have fin : EP X pins σ Q w s := ⟨z, H, I, rw', q⟩
  exact subscriptTail_builtinR (x := w) pl.typeIs slot_tuple_getitem.lookup
    (getItem_tuple (j := j) (Q := fun r s' => r = w ∧ EP X pins σ Q r s') pl (by omega) (by omega) (by rw [List.size_toArray, ← hl]; exact h1) (by simpa using ew) ⟨rfl, fin⟩) hs
/-! ### xs[i] = v, any sign -/
/-- the list's object behind a store -/
theorem mapSeq_set (its : List Value) (n j : Nat) (u : Value) : Obj.mapSeq (·.setIfInBounds j u) { cls := .type "list", data := .seq its.toArray n } = { cls := .type "list", data := .seq (its.set j u).toArray n } := by
  simp [Obj.mapSeq]
theorem Inv.lst {pins : List (Addr × Obj)} {σ : St} {H : Hp} {s : Shared} {p : Addr} {xs : List V} (I : Inv X pins σ H s) (h : H p = some (.lst xs)) :
    ∃ (its : List Value) (n : Nat), Vals xs its ∧ s.heap.get? p = some { cls := .type "list", data := .seq its.toArray n } ∧ xs.length ≤ sizeLine := by
  obtain ⟨z, its, n, r, e⟩ := I.hok p _ h
  exact ⟨its, n, r, e, z⟩
/-- the list at p is written by an update of its object -/
theorem Inv.lstUpd {pins : List (Addr × Obj)} {σ : St} {H : Hp} {s : Shared} {p : Addr} {xs ys : List V} {its its' : List Value} {n n' : Nat} {f : Obj → Obj} (I : Inv X pins σ H s) (h : H p = some (.lst xs))
    (ho : s.heap.get? p = some { cls := .type "list", data := .seq its.toArray n }) (hf : f { cls := .type "list", data := .seq its.toArray n } = { cls := .type "list", data := .seq its'.toArray n' }) (r : Vals ys its') (hz : ys.length ≤ sizeLine) (t : Nat) :
    Inv X pins σ (upd H p (.lst ys)) { s with heap := s.heap.update p f, toks := t } := by
  have e : (s.heap.update p f).get? p = some { cls := .type "list", data := .seq its'.toArray n' } := by
    rw [Heap.get?_update_self f ho (by rw [hf] <;> rfl), hf]
  refine I.write (x := p) (e := p) (by rw [h]; trivial) (.inl rfl) (fun b u hb q => (Heap.get?_update_other _ _ (Ne.symm hb)).trans q) ⟨_, e⟩ ?_
  exact ⟨hz, its', n', r, e⟩
def rSetL : V → V → V → Hp → (Hp → Prop) → Prop := fun o i v H Q => ∃ p xs k j, o = .ref p ∧ i = .int k ∧ H p = some (.lst xs) ∧ ixN xs.length k = some j ∧ Q (upd H p (.lst (xs.set j v)))
theorem set_list : PSet X rSetL := by
  intro pins s σ H o i v ov iv u Q I ro ri rv h
  obtain ⟨p, xs, k, j, rfl, rfl, hp, hj, q⟩ := h
  cases ro
  obtain ⟨t, rfl⟩ := ri
  obtain ⟨its, n, r, ho, hz⟩ := I.lst hp
  obtain ⟨h1, h2, h3, h4⟩ := ixN_seq hj
  have hl := r.length
  have hn := line63
  have I' : Inv X pins σ (upd H p (.lst (xs.set j v))) { s with heap := s.heap.update p (Obj.mapSeq (·.setIfInBounds j u)) } :=
    I.lstUpd hp ho (mapSeq_set its n j u) (r.set rv j) (by rw [List.length_set]; exact hz) s.toks
  by_cases h0 : 0 ≤ k
  · have hk : k.toNat = j := by
      rw [seqIndex_of h0 h4] at h1
      exact Option.some.inj h1
    exact PySem.W.ki_setAt ho h0 (by omega) (by rw [List.size_toArray, ← hl]; exact h4) (by rw [hk]; exact ⟨_, I', q⟩)
  · have hk : (k + (its.toArray.size : Int)).toNat = j := by
      rw [seqIndex_neg (by omega) h3] at h1
      rw [List.size_toArray, ← hl]
      exact Option.some.inj h1
    exact PySem.W.ki_setBack ho (by omega) (by rw [List.size_toArray, ← hl]; exact h3) (by omega) (by rw [hk]; exact ⟨_, I', q⟩)
/-! ### slices -/
theorem slice_bounds (lo hi : Option Int) (n : Nat) : (sliceBounds lo hi none n).1 = ((HT.sIx n 0 lo : Nat) : Int) ∧ (sliceBounds lo hi none n).2.1 = ((HT.sIx n n hi : Nat) : Int) ∧ (sliceBounds lo hi none n).2.2 = 1 := by
  refine ⟨?_, ?_, rfl⟩
  · cases lo with
    | none => simp [sliceBounds, HT.sIx]
    | some i =>
      simp only [sliceBounds, HT.sIx, Option.getD_none, show (1 : Int) > 0 by decide, if_true]
      by_cases h : i < 0
      · simp only [h, if_true] <;> omega
      · simp only [h, if_false] <;> omega
  · cases hi with
    | none => simp [sliceBounds, HT.sIx]
    | some i =>
      simp only [sliceBounds, HT.sIx, Option.getD_none, show (1 : Int) > 0 by decide, if_true]
      by_cases h : i < 0
      · simp only [h, if_true] <;> omega
      · simp only [h, if_false] <;> omega
theorem slicePick_cut (its : List Value) (lo hi : Option Int) : slicePick its.toArray lo hi none = ((its.drop (HT.sIx its.length 0 lo)).take (HT.sIx its.length its.length hi - HT.sIx its.length 0 lo)).toArray := by
  obtain ⟨h1, h2, h3⟩ := slice_bounds lo hi its.toArray.size
  unfold slicePick
  rw [h1, h2, h3]
  simp only [sliceRange_one, pick_run, List.size_toArray] <;> rfl
/-- xs[lo:hi] of a list: a new list -/
def rSlL (K : PySem.W.Frag) : V → Option Int → Option Int → Hp → VK → Prop := fun x lo hi H Q => ∃ a xs, x = .ref a ∧ SqL K H a xs ∧ ∀ p, H p = none → Q (.ref p) (upd H p (.lst (cutV xs lo hi)))
theorem sl_list : SlR X (rSlL X.K) := by
  intro pins s σ H x v vl vu lo hi sl Q I rx hs pl pu h
  obtain ⟨a, xs, rfl, hx, q⟩ := h
  cases rx
  obtain ⟨its, r, ht, hz⟩ := I.list hx
  have hlen := r.length
  refine ⟨"list", _, slot_list_getitem.lookup, ht.isList.typeIs, ?_⟩
  refine wpAny_getItem_list_slice ht.isList hs pl pu .none (by simp) ?_ (by rw [List.size_toArray] <;> omega)
  rw [slicePick_cut, ← hlen]
  refine ⟨.ref s.heap.objs.size, _, I.laid (t' := s.toks) (o := .lst (cutV xs lo hi)) (fun b ob q => Heap.get?_push_of_some _ q) (Nat.le_refl _) ?_, rfl, q _ (I.hok.fresh (Nat.le_refl _))⟩
  exact ⟨Nat.le_trans (cutV_length xs lo hi) hz, _, 0, (r.drop (HT.sIx xs.length 0 lo)).take (HT.sIx xs.length xs.length hi - HT.sIx xs.length 0 lo), Heap.get?_push_size _ rfl⟩
/-! ### in, not in: flat items -/
def flatV : V → Bool
  | .non => true
  | .bl _ => true
  | .int _ => true
  | .str _ => true
  | _ => false
/-- == of flat values -/
def eqV : V → V → Bool
  | .non, .non => true
  | .bl a, .bl b => a == b
  | .bl a, .int b => (if a then 1 else 0) == b
  | .int a, .bl b => a == (if b then 1 else 0)
  | .int a, .int b => a == b
  | .str a, .str b => a == b
  | _, _ => false
theorem eqAt_V {A : Around} {s : Shared} {y x : V} {u v : Value} (ry : RelV y u) (rx : RelV x v) (fy : flatV y = true) (fx : flatV x = true) : SeqAt.EqAt A s u v (eqV y x) := by
  cases y with
  | non =>
    cases ry
    cases x with
    | non => cases rx; exact SeqAt.EqAt.same _
    | bl b => cases rx; exact SeqAt.EqAt.none_bool b
    | int b => obtain ⟨t, rfl⟩ := rx; exact SeqAt.EqAt.none_int b t
    | str b => obtain ⟨t, rfl⟩ := rx; exact SeqAt.EqAt.none_str b t
    | _ => exact absurd (show false = true from fx) Bool.false_ne_true
  | bl a =>
    cases ry
    cases x with
    | non => cases rx; exact SeqAt.EqAt.bool_none a
    | bl b => cases rx; exact SeqAt.EqAt.bool_bool a b
    | int b => obtain ⟨t, rfl⟩ := rx; exact SeqAt.EqAt.bool_int a b t
    | str b => obtain ⟨t, rfl⟩ := rx; exact SeqAt.EqAt.bool_str a b t
    | _ => exact absurd (show false = true from fx) Bool.false_ne_true
  | int a =>
    obtain ⟨t', rfl⟩ := ry
    cases x with
    | non => cases rx; exact SeqAt.EqAt.int_none a t'
    | bl b => cases rx; exact SeqAt.EqAt.int_bool a t' b
    | int b => obtain ⟨t, rfl⟩ := rx; exact SeqAt.EqAt.int_int a t' b t
    | str b => obtain ⟨t, rfl⟩ := rx; exact SeqAt.EqAt.int_str a t' b t
    | _ => exact absurd (show false = true from fx) Bool.false_ne_true
  | str a =>
    obtain ⟨t', rfl⟩ := ry
    cases x with
    | non => cases rx; exact SeqAt.EqAt.str_none a t'
    | bl b => cases rx; exact SeqAt.EqAt.str_bool a t' b
    | int b => obtain ⟨t, rfl⟩ := rx; exact SeqAt.EqAt.str_int a t' b t
    | str b => obtain ⟨t, rfl⟩ := rx; exact SeqAt.EqAt.str_str a t' b t
    | _ => exact absurd (show false = true from fx) Bool.false_ne_true
  | _ => exact absurd (show false = true from fy) Bool.false_ne_true
/-- the items' answers, read off the values (a value's own answer does not lean on its token) -/
def eqU (x : V) (u : Value) : Bool := match u with
  | .none => eqV .non x
  | .bool b => eqV (.bl b) x
  | .int i _ => eqV (.int i) x
  | .str z _ => eqV (.str z) x
  | _ => false
theorem eqU_of {x y : V} {u : Value} (r : RelV y u) (f : flatV y = true) : eqU x u = eqV y x := by
  cases y with
  | non => cases r; rfl
  | bl b => cases r; rfl
  | int i => obtain ⟨t, rfl⟩ := r; rfl
  | str z => obtain ⟨t, rfl⟩ := r; rfl
  | _ => exact absurd (show false = true from f) Bool.false_ne_true
theorem any_eqU {x : V} : ∀ {xs : List V} {us : List Value}, Vals xs us → xs.all flatV = true → us.any (eqU x) = xs.any fun y => eqV y x
  | _, _, .nil, _ => rfl
  | y :: xs, u :: us, .cons r t, f => by
    rw [List.all_cons, Bool.and_eq_true] at f
    rw [List.any_cons, List.any_cons, eqU_of r f.1, any_eqU t f.2]
theorem mem_eqAt {A : Around} {s : Shared} {x : V} {v : Value} (rx : RelV x v) (fx : flatV x = true) : ∀ {xs : List V} {us : List Value}, Vals xs us → xs.all flatV = true → ∀ u ∈ us, SeqAt.EqAt A s u v (eqU x u)
  | _, _, .nil, _ => fun u hu => by cases hu
  | y :: xs, u :: us, .cons r t, f => fun u' hu => by
    rw [List.all_cons, Bool.and_eq_true] at f
    rcases List.mem_cons.mp hu with rfl | hu
    · rw [eqU_of r f.1]; exact eqAt_V r rx f.1 fx
    · exact mem_eqAt rx fx t f.2 u' hu
def inV (x : V) (xs : List V) : Bool := xs.any fun y => eqV y x
/-- x in a list or tuple of flat items -/
def rIn (K : PySem.W.Frag) (neg : Bool) : R2 := fun x y H Q => ∃ p xs, y = .ref p ∧ (SqL K H p xs ∨ SqT K H p xs) ∧ flatV x = true ∧ xs.all flatV = true ∧ Q (.bl (if neg then !inV x xs else inV x xs)) H
theorem op_notIn_seq : OpR X (compareOp .NotIn) (rIn X.K true) := by
  intro pins s σ H x y v u Q I rx ry h
  obtain ⟨p, xs, rfl, hq, fx, fs, q⟩ := h
  cases ry
  rcases hq with hq | hq
  · obtain ⟨its, r, pl, hz⟩ := I.list hq
    refine SeqAt.notIn_listAt (eqU x) pl.isList (fun w hw => mem_eqAt rx fx r fs w (by simpa using hw)) ⟨.bl _, H, I, rfl, ?_⟩
    rw [show its.toArray.any (eqU x) = its.any (eqU x) by simp, any_eqU r fs]
    exact q
  · obtain ⟨its, r, pl, hz⟩ := I.tuple hq
    refine SeqAt.notIn_tupleAt (eqU x) pl (fun w hw => mem_eqAt rx fx r fs w (by simpa using hw)) ⟨.bl _, H, I, rfl, ?_⟩
    rw [show its.toArray.any (eqU x) = its.any (eqU x) by simp, any_eqU r fs]
    exact q
/-! ### len, list(x), tuple(x) of any list or tuple that is read -/
theorem call_len_seq : CallR X (.builtin "len") (fun xs H Q => ∃ p ys, xs = [.ref p] ∧ (SqL X.K H p ys ∨ SqT X.K H p ys) ∧ Q (.int ys.length) H) := by
  intro pins s σ H xs us Q I r h
  obtain ⟨p, ys, rfl, hq, q⟩ := h
  obtain ⟨u, rfl, rx⟩ := vals1 r
  cases rx
  have hn := line63
  rcases hq with hq | hq
  · obtain ⟨its, r', pl, hz⟩ := I.list hq
    have hlen := r'.length
    exact Calls.call_len_list pl.isList (by simp only [List.size_toArray] <;> omega) ⟨.int ys.length, H, I.tok _, ⟨s.toks + 1, by rw [List.size_toArray, hlen]⟩, q⟩
  · obtain ⟨its, r', pl, hz⟩ := I.tuple hq
    have hlen := r'.length
    exact len_tuple pl (by simp only [List.size_toArray] <;> omega) ⟨.int ys.length, H, I.tok _, ⟨s.toks + 1, by rw [List.size_toArray, hlen]⟩, q⟩
theorem CallR.or {f : Value} {r r' : List V → Hp → VK → Prop} (h : CallR X f r) (h' : CallR X f r') : CallR X f (fun xs H Q => r xs H Q ∨ r' xs H Q) := by
  intro pins s σ H xs us Q I rs q
  rcases q with q | q
  · exact h pins s σ H xs us Q I rs q
  · exact h' pins s σ H xs us Q I rs q
theorem call_list_of : CallR X (.type "list") (fun xs H Q => ∃ p ys, xs = [.ref p] ∧ (SqL X.K H p ys ∨ SqT X.K H p ys) ∧ ∀ l, H l = none → Q (.ref l) (upd H l (.lst ys))) := by
  intro pins s σ H xs us Q I r h
  obtain ⟨p, ys, rfl, hq, q⟩ := h
  obtain ⟨u, rfl, rx⟩ := vals1 r
  cases rx
  have fin : ∀ (its : List Value), Vals ys its → ys.length ≤ sizeLine → ∀ (h' : Heap) (c' : Nat), (∀ b o', s.heap.get? b = some o' → h'.get? b = some o') →
      h'.get? s.heap.objs.size = some { cls := .type "list", dict := none, data := .seq its.toArray c', slots := #[] } → EP X pins σ Q (.ref s.heap.objs.size) { s with heap := h' } := fun its r' hz h' c' kp e =>
    ⟨.ref s.heap.objs.size, _, I.laid (t' := s.toks) kp (Nat.le_refl _) (show ObjOk X.prog X.w _ h' _ (.lst ys) from ⟨hz, its, c', r', e⟩), rfl, q _ (I.hok.fresh (Nat.le_refl _))⟩
  rcases hq with hq | hq
  · obtain ⟨its, r', pl, hz⟩ := I.list hq
    have hlen := r'.length
    obtain ⟨o, ho, hc, n, hd⟩ := pl.isList
    exact call_list_seq p (.inl rfl) ho hc hd (fun h' c' kp e => fin its r' hz h' c' kp e) (by simp only [List.size_toArray] <;> omega)
  · obtain ⟨its, r', pl, hz⟩ := I.tuple hq
    have hlen := r'.length
    obtain ⟨o, ho, hc, n, hd⟩ := pl
    exact call_list_seq p (.inr rfl) ho hc hd (fun h' c' kp e => fin its r' hz h' c' kp e) (by simp only [List.size_toArray] <;> omega)
/-! ### the call of a builtin's method: o.m(..) -/
/-- the value is of that builtin type -/
def tyV (K : PySem.W.Frag) (T : String) (x : V) (H : Hp) : Prop := match x with
  | .str _ => T = "str"
  | .int _ => T = "int"
  | .ref p => (T = "list" ∧ ∃ xs, SqL K H p xs) ∨ (T = "tuple" ∧ ∃ o, K.lookup p = some o ∧ o.cls = .type "tuple" ∧ o.dict = none) ∨
      (T = "dict" ∧ ((∃ kvs, H p = some (.dK kvs)) ∨ ∃ kvs, H p = some (.dT kvs))) ∨ (T = "set" ∧ ∃ S n, H p = some (.set S n))
  | _ => False
theorem tyV_is {pins : List (Addr × Obj)} {σ : St} {H : Hp} {s : Shared} {T : String} {x : V} {v : Value} (I : Inv X pins σ H s) (r : RelV x v) (ty : tyV X.K T x H) :
    s.TypeIs v T ∧ ∀ a, v = .ref a → ∃ ob, s.heap.get? a = some ob ∧ ob.dict = none := by
  cases x with
  | str z =>
    obtain ⟨t, rfl⟩ := r
    cases (show T = "str" from ty)
    exact ⟨typeIs_str s z t, fun _ e => nomatch e⟩
  | int i =>
    obtain ⟨t, rfl⟩ := r
    cases (show T = "int" from ty)
    exact ⟨typeIs_int s i t, fun _ e => nomatch e⟩
  | ref p =>
    cases r
    rcases ty with ⟨rfl, xs, hq⟩ | ⟨rfl, o, hk, hc, hd⟩ | ⟨rfl, hk⟩ | ⟨rfl, S, n, hk⟩
    · obtain ⟨its, _, pl, _⟩ := I.list hq
      refine ⟨pl.isList.typeIs, fun a e => ?_⟩
      cases e
      obtain ⟨o, n, e, c, hd, _⟩ := pl
      exact ⟨o, e, hd⟩
    · refine ⟨⟨o, I.kIn p o hk, hc⟩, fun a e => ?_⟩
      cases e
      exact ⟨o, I.kIn _ o hk, hd⟩
    · have z : ∃ o, s.heap.get? p = some o ∧ o.ExactDict := by
        rcases hk with ⟨kvs, hk⟩ | ⟨kvs, hk⟩
        · obtain ⟨_, _, _, _, o, _, _, e, ex, _⟩ := I.hok p _ hk
          exact ⟨o, e, ex⟩
        · obtain ⟨_, _, _, _, o, _, _, e, ex, _⟩ := I.hok p _ hk
          exact ⟨o, e, ex⟩
      obtain ⟨o, e, ex⟩ := z
      refine ⟨⟨o, e, ex.1⟩, fun a e2 => ?_⟩
      cases e2
      exact ⟨o, e, ex.2.1⟩
    · obtain ⟨o, _, _, _, e, ex, _⟩ := I.hok p _ hk
      refine ⟨⟨o, e, ex.1⟩, fun a e2 => ?_⟩
      cases e2
      exact ⟨o, e, ex.2.1⟩
  | _ => exact False.elim ty
def tBM0 (K : PySem.W.Frag) (T : String) (r : V → List V → Hp → VK → Prop) (to : TE) : TE := fun σ H Q => to σ H fun x H1 => tyV K T x H1 ∧ r x [] H1 Q
def tBM (K : PySem.W.Frag) (T : String) (r : V → List V → Hp → VK → Prop) (to : TE) (t : TA) : TE := fun σ H Q => to σ H fun x H1 => tyV K T x H1 ∧ t σ H1 fun xs H2 => r x xs H2 Q
variable {o e : Expr} {es : List Expr} {to : TE} {t : TA} {name : Str} {apos cpos : Pos} {T id : String} {r : V → List V → Hp → VK → Prop}
theorem pe_bm0 (pa : PlainAttrs T) (slot : Slot T name id) (hty : typeOf (.builtin id) = pure (.type "method_descriptor")) (hm : MtR X id r) (ho : PE X o to)
    (hbase : attributeBase o name X.env (eval o X.env) = eval o X.env := by rfl) (hline : (apos.endLine == cpos.line) = true := by rfl) : PE X (.Call (.Attribute o name apos) [] [] cpos) (tBM0 X.K T r to) := by
  intro pins s σ H Q I h
  refine wpAny_Call_method0_late hbase hline (thn (ho pins s σ H _ I h) fun v s1 ⟨x, H1, I1, r1, ty, q1⟩ => ?_)
  obtain ⟨h1, h2⟩ := tyV_is I1 r1 ty
  exact ⟨T, id, pa, slot, hty, h1, h2, Calls.callWith_builtin rfl (PySem.evalArgs_none (hm pins s1 σ H1 x [] v [] Q I1 r1 .nil q1))⟩
theorem pe_bm (pa : PlainAttrs T) (slot : Slot T name id) (hty : typeOf (.builtin id) = pure (.type "method_descriptor")) (hm : MtR X id r) (ho : PE X o to) (ha : PA X (e :: es) t)
    (hbase : attributeBase o name X.env (eval o X.env) = eval o X.env := by rfl)
    (hfew : ((backTo cpos (starEach (e :: es) X.env)).all (fun x => !x.1) && (backToKw cpos (keywordEach [] X.env)).all (fun x => x.1.isSome)
      && decide ((e :: es).length + ([] : List Keyword).length + (if ([] : List Keyword).isEmpty then 0 else 1) < 30)) = true := by rfl)
    (hline : (apos.endLine == cpos.line) = true := by rfl) (hs : starEach (e :: es) X.env = (false, eval e X.env) :: starEach es X.env := by rfl) (hplain : (backTo cpos (starEach es X.env)).any (·.1) = false := by rfl) :
    PE X (.Call (.Attribute o name apos) (e :: es) [] cpos) (tBM X.K T r to t) := by
  intro pins s σ H Q I h
  refine wpAny_Call_method_late hbase hfew hline rfl (thn (ho pins s σ H _ I h) fun v s1 ⟨x, H1, I1, r1, ty, q1⟩ => ?_)
  obtain ⟨h1, h2⟩ := tyV_is I1 r1 ty
  refine ⟨T, id, pa, slot, hty, h1, h2, ?_⟩
  have hA := ha cpos pins s1 σ H1 _ I1 q1
  rw [hs] at hA ⊢
  refine Calls.callWith_builtin (by show (false || (backTo cpos (starEach es X.env)).any (·.1)) = false; rw [hplain] <;> rfl) (Calls.evalArgs_plain ?_)
  exact thn hA fun us s2 ⟨vs, H2, I2, r2, q2⟩ => hm pins s2 σ H2 x vs v us Q I2 r1 r2 q2
/- xs.append(e), list.index on a module's tuple .. are MtR facts of 06m -/
end
end L2
namespace L2
open PySem PySem.Spec PyProof.Rows
def MtM (X : Cx) (id : String) (r : V → List V → Hp → VK → Prop) : Prop :=
  ∀ (pins : List (Addr × Obj)) (s : Shared) (σ : St) (H : Hp) (x : V) (xs : List V) (v : Value) (us : List Value) (Q : VK), Inv X pins σ H s → RelV x v → Vals xs us → r x xs H Q →
    wpAny (model X.prog X.w) X.A (call (.builtin id) (v :: us)) (EP X pins σ Q) X.xe s
/-! ### lists of values -/
theorem Vals.one : ∀ {x : V} {us : List Value}, Vals [x] us → ∃ u, us = [u] ∧ RelV x u
  | _, _, .cons r .nil => ⟨_, rfl, r⟩
theorem Vals.two : ∀ {x y : V} {us : List Value}, Vals [x, y] us → ∃ u v, us = [u, v] ∧ RelV x u ∧ RelV y v
  | _, _, _, .cons r (.cons q .nil) => ⟨_, _, rfl, r, q⟩
theorem Vals.zero : ∀ {us : List Value}, Vals [] us → us = []
  | _, .nil => rfl
theorem Vals.dropLast {xs : List V} {us : List Value} (h : Vals xs us) : Vals xs.dropLast us.dropLast := by
  induction h with
  | nil => exact .nil
  | cons r t ih =>
    cases t with
    | nil => exact .nil
    | cons q t' => exact .cons r ih
theorem Vals.eraseIdx : ∀ {xs : List V} {us : List Value} (i : Nat), Vals xs us → Vals (xs.eraseIdx i) (us.eraseIdx i)
  | _, _, _, .nil => .nil
  | _, _, 0, .cons _ t => t
  | _, _, i + 1, .cons r t => .cons r (Vals.eraseIdx i t)
theorem Vals.rep {xs : List V} {us : List Value} (h : Vals xs us) : ∀ k : Nat, Vals (List.replicate k xs).flatten (List.replicate k us).flatten
  | 0 => .nil
  | k + 1 => by
    rw [List.replicate_succ, List.replicate_succ, List.flatten_cons, List.flatten_cons]
    exact Vals.append h (Vals.rep h k)
theorem erase_last {α : Type} (l : List α) : l.eraseIdx (l.length - 1) = l.dropLast := by
  induction l with
  | nil => rfl
  | cons a r ih =>
    cases r with
    | nil => rfl
    | cons b r =>
      have e : (a :: b :: r).length - 1 = ((b :: r).length - 1) + 1 := by
        have h1 : (a :: b :: r).length = r.length + 2 := rfl
        have h2 : (b :: r).length = r.length + 1 := rfl
        omega
      rw [e, List.eraseIdx_cons_succ, ih]
      all_goals rfl
theorem len_erase {α : Type} : ∀ (l : List α) (i : Nat), (l.eraseIdx i).length ≤ l.length
  | [], _ => Nat.le_refl _
  | _ :: _, 0 => Nat.le_succ _
  | _ :: r, i + 1 => Nat.succ_le_succ (len_erase r i)
theorem foldl_rep (its : List Value) : ∀ (k : Nat) (acc : List Value),
    List.foldl (fun x1 x2 => x1 ++ x2) acc.toArray (List.replicate k its.toArray) = (acc ++ (List.replicate k its).flatten).toArray
  | 0, acc => by simp
  | k + 1, acc => by
    have e : acc.toArray ++ its.toArray = (acc ++ its).toArray := by simp
    have e2 : (acc ++ its) ++ (List.replicate k its).flatten = acc ++ (List.replicate (k + 1) its).flatten := by
      rw [List.replicate_succ, List.flatten_cons, List.append_assoc]
    rw [← e2, ← foldl_rep its k (acc ++ its), ← e, List.replicate_succ, List.foldl_cons]
section
variable {X : Cx} {pins : List (Addr × Obj)} {σ : St} {H : Hp} {s : Shared} {l b : Addr} {xs ys zs : List V}
/-! ### the two steps: a tracked list is rewritten, a new list is laid -/
theorem Inv.lset {its its' : List Value} {n : Nat} {f : Array Value → Array Value} {t' : Nat} (I : Inv X pins σ H s) (hH : H l = some (.lst xs))
    (e : s.heap.get? l = some { cls := .type "list", data := .seq its.toArray n }) (hf : f its.toArray = its'.toArray) (hv : Vals ys its') (hz : ys.length ≤ sizeLine) :
    Inv X pins σ (upd H l (.lst ys)) { s with heap := s.heap.update l (Obj.mapSeq f), toks := t' } := by
  have q := PySem.IsL.update e f
  rw [hf] at q
  refine I.write (x := l) (e := l) (by rw [hH]; exact trivial) (.inl rfl) (fun b' u hb hu => (Heap.get?_update_other s.heap (Obj.mapSeq f) (Ne.symm hb)).trans hu) ⟨_, q⟩ ?_
  exact ⟨hz, its', _, hv, q⟩
theorem Inv.lnew {its : List Value} {t' : Nat} (I : Inv X pins σ H s) (hv : Vals ys its) (hz : ys.length ≤ sizeLine) :
    Inv X pins σ (upd H s.heap.objs.size (.lst ys)) { s with heap := s.heap.push { cls := .type "list", data := .seq its.toArray }, toks := t' } :=
  I.laid (fun _ _ q => Heap.get?_push_of_some _ q) (Nat.le_refl _) ⟨hz, its, 0, hv, Heap.get?_push_size _ rfl⟩
theorem Inv.fresh (I : Inv X pins σ H s) : H s.heap.objs.size = none := I.hok.fresh (Nat.le_refl _)
theorem Inv.lstM (I : Inv X pins σ H s) (hH : H l = some (.lst xs)) : xs.length ≤ sizeLine ∧ ∃ (its : List Value) (n : Nat), Vals xs its ∧ xs.length = its.length ∧ s.heap.get? l = some { cls := .type "list", data := .seq its.toArray n } := by
  obtain ⟨z, its, n, r, e⟩ := I.hok l _ hH
  exact ⟨z, its, n, r, r.length, e⟩
theorem notLongL {n : Nat} (h : n ≤ sizeLine) : Builtin.List.listTooLong n = false := by
  unfold Builtin.List.listTooLong
  exact decide_eq_false (by omega)
end
section
variable {X : Cx}
/-! ### methods -/
def rAppend : V → List V → Hp → VK → Prop := fun x vs H Q => ∃ l xs y, x = .ref l ∧ vs = [y] ∧ H l = some (.lst xs) ∧ xs.length < sizeLine ∧ Q .non (upd H l (.lst (xs ++ [y])))
theorem mt_append : MtM X "list.append" rAppend := by
  intro pins s σ H x vs v us Q I rx rv h
  obtain ⟨l, xs, y, rfl, rfl, hH, hz, q⟩ := h
  cases rx
  obtain ⟨u, rfl, ru⟩ := rv.one
  obtain ⟨z, its, n, r, hl, e⟩ := I.lstM hH
  refine call_meets F.slot_list_append ⟨_, e, rfl⟩ F.entry_list_append (F.args_list_append_2 _ _) (PySem.list_append l its.toArray n u (by rw [List.size_toArray]; omega)) ⟨e, ?_⟩
  refine ⟨.non, _, I.lset (its' := its ++ [u]) hH e (by simp) (r.append (.cons ru .nil)) ?_, rfl, q⟩
  rw [List.length_append, List.length_singleton]
  omega
def rExtend : V → List V → Hp → VK → Prop := fun x vs H Q => ∃ l b xs zs, x = .ref l ∧ vs = [.ref b] ∧ H l = some (.lst xs) ∧ H b = some (.lst zs) ∧ xs.length + zs.length ≤ sizeLine ∧ Q .non (upd H l (.lst (xs ++ zs)))
theorem mt_extend : MtM X "list.extend" rExtend := by
  intro pins s σ H x vs v us Q I rx rv h
  obtain ⟨l, b, xs, zs, rfl, rfl, hH, hB, hz, q⟩ := h
  cases rx
  obtain ⟨u, rfl, ru⟩ := rv.one
  cases ru
  obtain ⟨z, its, n, r, hl, e⟩ := I.lstM hH
  obtain ⟨z2, its2, n2, r2, hl2, e2⟩ := I.lstM hB
  have hsz : its.toArray.size + its2.toArray.size ≤ sizeLine := by rw [List.size_toArray, List.size_toArray]; omega
  have hlong : ¬ (!its.toArray.isEmpty && Builtin.List.listTooLong (its.toArray.size + its2.toArray.size)) = true := by
    rw [notLongL hsz, Bool.and_false]
    exact Bool.false_ne_true
  refine call_meets F.slot_list_extend ⟨_, e, rfl⟩ F.entry_list_extend (F.args_list_extend_2 _ _)
    (AutoSeq1.list_extend_list_list_0 l its.toArray n b its2.toArray n2 hlong (by rw [List.size_toArray]; omega) (by omega)) ⟨e, e2, ?_⟩
  refine ⟨.non, _, I.lset (its' := its ++ its2) hH e (by simp) (r.append r2) ?_, rfl, q⟩
  rw [List.length_append]
  omega
def rPop : V → List V → Hp → VK → Prop := fun x vs H Q => ∃ l xs y, x = .ref l ∧ vs = [] ∧ H l = some (.lst xs) ∧ xs[xs.length - 1]? = some y ∧ Q y (upd H l (.lst xs.dropLast))
theorem mt_pop : MtM X "list.pop" rPop := by
  intro pins s σ H x vs v us Q I rx rv h
  obtain ⟨l, xs, y, rfl, rfl, hH, hy, q⟩ := h
  cases rx
  have hus := rv.zero
  subst hus
  obtain ⟨z, its, n, r, hl, e⟩ := I.lstM hH
  obtain ⟨u, hu, ru⟩ := r.get hy
  have hy' : its.toArray[its.toArray.size - 1]? = some u := by
    show its.toArray[its.length - 1]? = some u
    rw [← Array.getElem?_toList, ← hl]
    exact hu
  refine call_meets F.slot_list_pop ⟨_, e, rfl⟩ F.entry_list_pop (F.args_list_pop_1 _) (MeetsSeq.list_pop_last l its.toArray n u hy' (by rw [List.size_toArray]; omega)) ⟨e, ?_⟩
  refine ⟨y, _, I.lset (its' := its.dropLast) hH e ?_ r.dropLast ?_, ru, q⟩
  · show its.toArray.eraseIdxIfInBounds (its.toArray.size - 1) = its.dropLast.toArray
    rw [List.size_toArray, List.eraseIdxIfInBounds_toArray, erase_last]
  · rw [List.length_dropLast]
    omega
def rPopAt : V → List V → Hp → VK → Prop := fun x vs H Q => ∃ l xs i k y, x = .ref l ∧ vs = [.int i] ∧ H l = some (.lst xs) ∧ -(2 ^ 63) ≤ i ∧ i < 2 ^ 63 ∧ seqIndex? i xs.length = some k ∧ xs[k]? = some y ∧ Q y (upd H l (.lst (xs.eraseIdx k)))
theorem mt_popAt : MtM X "list.pop" rPopAt := by
  intro pins s σ H x vs v us Q I rx rv h
  obtain ⟨l, xs, i, k, y, rfl, rfl, hH, h1, h2, hk, hy, q⟩ := h
  cases rx
  obtain ⟨u, rfl, ru⟩ := rv.one
  obtain ⟨t, rfl⟩ := ru
  obtain ⟨z, its, n, r, hl, e⟩ := I.lstM hH
  obtain ⟨w, hw, rw'⟩ := r.get hy
  refine call_meets F.slot_list_pop ⟨_, e, rfl⟩ F.entry_list_pop (F.args_list_pop_2 _ _)
    (MeetsSeq.list_pop_at l its.toArray n i t k w (fitsIndex_both h1 h2) (by rw [List.size_toArray, ← hl]; exact hk) (by rw [← Array.getElem?_toList]; exact hw) (by rw [List.size_toArray]; omega)) ⟨e, ?_⟩
  refine ⟨y, _, I.lset (its' := its.eraseIdx k) hH e ?_ (r.eraseIdx k) ?_, rw', q⟩
  · show its.toArray.eraseIdxIfInBounds k = (its.eraseIdx k).toArray
    rw [List.eraseIdxIfInBounds_toArray]
  · have := len_erase xs k
    omega
/-! ### list + list, list += list, list * int -/
def rCat : R2 := fun x y H Q => ∃ l b xs zs, x = .ref l ∧ y = .ref b ∧ H l = some (.lst xs) ∧ H b = some (.lst zs) ∧ xs.length + zs.length ≤ sizeLine ∧ ∀ p, H p = none → Q (.ref p) (upd H p (.lst (xs ++ zs)))
theorem op_cat : OpR X (binaryOp .Add) rCat := by
  intro pins s σ H x y v u Q I rx ry h
  obtain ⟨l, b, xs, zs, rfl, rfl, hH, hB, hz, q⟩ := h
  cases rx
  cases ry
  obtain ⟨z, its, n, r, hl, e⟩ := I.lstM hH
  obtain ⟨z2, its2, n2, r2, hl2, e2⟩ := I.lstM hB
  refine PySem.P.add_list e e2 ?_ (by rw [List.size_toArray, List.size_toArray]; omega)
  have ea : its.toArray ++ its2.toArray = (its ++ its2).toArray := by simp
  rw [ea]
  exact ⟨.ref _, _, I.lnew (t' := s.toks) (r.append r2) (by rw [List.length_append]; omega), rfl, q _ I.fresh⟩
/-- a list times an int (a negative one is nothing) -/
def rRep : R2 := fun x y H Q => ∃ l k xs, x = .ref l ∧ y = .int k ∧ H l = some (.lst xs) ∧ -(2 ^ 63) ≤ k ∧ k < 2 ^ 63 ∧ xs.length * k.toNat ≤ sizeLine ∧
  ∀ p, H p = none → Q (.ref p) (upd H p (.lst (List.replicate k.toNat xs).flatten))
theorem len_rep {α : Type} (xs : List α) (k : Nat) : (List.replicate k xs).flatten.length = k * xs.length := by
  induction k with
  | zero => simp
  | succ k ih => rw [List.replicate_succ, List.flatten_cons, List.length_append, ih, Nat.succ_mul, Nat.add_comm]
theorem op_rep : OpR X (binaryOp .Mult) rRep := by
  intro pins s σ H x y v u Q I rx ry h
  obtain ⟨l, k, xs, rfl, rfl, hH, h1, h2, hz, q⟩ := h
  cases rx
  obtain ⟨t, rfl⟩ := ry
  obtain ⟨z, its, n, r, hl, e⟩ := I.lstM hH
  have hlen : its.toArray.size * k.toNat ≤ sizeLine := by rw [List.size_toArray, ← hl]; exact hz
  have hcap : ¬ its.toArray.size * k.toNat > (2 ^ 63 - 1) / 8 := by
    have : (sizeLine : Nat) ≤ (2 ^ 63 - 1) / 8 := by decide
    omega
  have hfit : ¬ (!Builtin.List.listFitsIndex k) = true := by
    rw [fitsIndex_both h1 h2]
    exact Bool.false_ne_true
  have hlong : ¬ Builtin.List.listTooLong (its.toArray.size * k.toNat) = true := by
    rw [notLongL hlen]
    exact Bool.false_ne_true
  have hnew : List.foldl (fun x1 x2 => x1 ++ x2) #[] (List.replicate (if its.toArray.isEmpty = true then 0 else k.toNat) its.toArray) = (List.replicate k.toNat its).flatten.toArray := by
    have f0 : ∀ m : Nat, List.foldl (fun x1 x2 => x1 ++ x2) #[] (List.replicate m its.toArray) = (List.replicate m its).flatten.toArray := fun m => by
      have := foldl_rep its m []
      rw [List.nil_append] at this
      exact this
    rw [f0]
    cases its with
    | nil => simp
    | cons a r' => rw [if_neg (by simp)]
  refine wpAny_binaryOp_repeat_ref (T := "list") (U := "int") (by decide) ⟨_, e, rfl⟩ (fun s' => typeIs_int s' k t) noFill_list_mul F.fills_int_mul F.slot_int_rmul repeat_list F.slot_int_index.lookup
    (call_meets F.slot_int_rmul (typeIs_int s k t) F.entry_int_rmul (F.args_int_rmul_2 _ _) (int___rmul___int_list k t l its.toArray n)
      ⟨e, rfl, ⟨_, e, rfl⟩, call_meets F.slot_list_mul ⟨_, e, rfl⟩ F.entry_list_mul (F.args_list_mul_2 _ _) (AutoListH.list___mul___list_int_3 l its.toArray n k t hfit hcap hlong) ⟨e, ?_⟩⟩)
  rw [hnew]
  exact ⟨.ref _, _, I.lnew (t' := s.toks) (r.rep k.toNat) (by rw [len_rep, Nat.mul_comm]; exact hz), rfl, q _ I.fresh⟩
/-! ### del xs[i] -/
end
/-! ### xs[a:b] = ys -/
section
variable {prog : Program} {w : World} {A : Around} {E : Value → Shared → Prop} {s : Shared}
set_option maxRecDepth 100000 in
end
section
variable {X : Cx}
end
end L2
namespace Att
open PySem PySem.W PySem.Calls PyProof.Rows
/-! ### the script -/
theorem ints_of_wellAll {P : Params} {h : Heap} : ∀ (ns : List Int) (vs : List Value), WellAll P h vs (ns.map WData.int) → IntsAre vs ns := by
  intro ns
  induction ns with
  | nil =>
    intro vs w
    rw [List.map_nil] at w
    cases w
    exact .nil
  | cons n ns ih =>
    intro vs w
    rw [List.map_cons] at w
    cases w with
    | cons a b =>
      cases a
      exact .cons _ _ (ih _ b)
theorem script_of {l : OpenLaw} {n : Nat} (hn : l.most = some n) {P : Params} {h : Heap} {args : List WData} {vals : List Value}
    (hpre : l.row.toRowW.claim.pre args = true) (hwl : WellAll P h vals args) :
    ∃ a vs ns, vals = [Value.ref a] ∧ args = [WData.list (ns.map WData.int)] ∧ h.get? a = some { cls := .type "list", data := .seq vs.toArray } ∧ IntsAre vs ns ∧ ns.length ≤ n := by
  have hsh : WShape.hasAll [] args [.list .int] = true := (pre_splitW hpre).1
  have hc : l.pre.holds [] { args := args } = true := (pre_splitW hpre).2
  obtain ⟨d, r, rfl, h1, h2⟩ := hasAllW_cons hsh
  obtain rfl := hasAllW_nil h2
  obtain ⟨xs, rfl, h3⟩ := hasW_list h1
  obtain ⟨ns, rfl⟩ := items_int h3
  have hlen : ns.length ≤ n := by
    unfold OpenLaw.pre at hc
    have h4 : (WTm.not (.lt (.lit (.int (n : Int))) (.len (.arg 0)))).holds [] { args := [.list (ns.map .int)] } = true := by
      have h4 := (holds_andW hc).1
      rw [hn] at h4
      exact h4
    have h5 := condW_of h4 (w_not (w_lt w_lit (w_len_list (w_arg rfl))))
    rw [List.length_map] at h5
    refine Nat.le_of_not_lt fun q => ?_
    have q' : (n : Int) < ((ns.length : Nat) : Int) := by omega
    first
      | (rw [decide_eq_true q'] at h5; exact absurd h5 (by decide))
      | (simp at h5; omega)
  cases hwl with
  | cons w1 w2 =>
    cases w2
    cases w1 with
    | list ho hall => exact ⟨_, _, ns, rfl, rfl, ho, ints_of_wellAll ns _ hall, hlen⟩
theorem post_true (l : OpenLaw) (args : List WData) : l.row.toRowW.claim.post args (.bool true) args = true :=
  postW_of (r := l.row.toRowW) (X := (true == true))
    (show WShape.has [] (.bool true) .bool = true by first | rfl | decide | simp [WShape.has, WShape.arms, WShape.armsAll])
    (show (WTm.eq .res (.lit (.bool true))).value [] { args := args, res := some (.bool true), after := args } = some (.bool (true == true)) from w_eq_bool (w_res rfl) w_lit) rfl
/-! ### the attachment: holds_open's last premise (the goal 'hc' behind k_head) from a wpAny of the law's body -/
/-- the same from a codeAny of the CALL (for a layer whose function contracts speak of calls) -/
theorem attach_call {l : OpenLaw} {n : Nat} {q : Program} {loose : List Str} {XP : (Str → Option Value) → Heap → Prop} {YP : World → Heap → Prop} {d : DefRec}
    (hn : l.most = some n) (hdf : d.params.defaults = [])
    (call : ∀ (w : World) (s₀ s₁ : Shared) (mg mb : Str → Option Value) (fa : Addr) (o : Obj) (pm cd doc : Value) (a : Addr) (vs : List Value) (ns : List Int),
      Ground q loose [] XP w s₀ mg mb s₁.heap → YP w s₁.heap →
      s₁.heap.get? fa = some o → o.data = .func (docDef d.name d.params d.body d.scope pm cd doc) → s₁.heap.CodeRec cd d.name → mg d.name = some (.ref fa) →
      s₁.heap.get? a = some { cls := .type "list", data := .seq vs.toArray } → IntsAre vs ns → ns.length ≤ n → s₁.gens = #[] →
      codeAny (model l.prog w) callerA (.call (.ref fa) ⟨[.ref a], []⟩) (fun r s' => r = .ok (.ret (.bool true)) ∧ OldK s₁.heap s'.heap ∧ s'.os = s₁.os ∧ AllBare s'.gens) s₁) :
    WalkO q loose XP YP l.row.toRowW d [] (fun f vs => PySem.call f vs) := by
  intro w s₀ s₁ mg mb G Y fa o pm cd doc dV kV ho hd hcd hD hmg hg args vals as hpre hlay hrd hwl hlo
  obtain rfl : dV = .none := Dflts.none hD hdf
  obtain rfl : kV = .none := Dflts.noKw hD
  obtain ⟨a, vs, ns, rfl, rfl, hobj, hints, hlen⟩ := script_of hn hpre hwl
  refine enter_call (codeAny_mono (call w s₀ s₁ mg mb fa o pm cd doc a vs ns G Y ho (fd_plain hd) hcd hmg hobj hints hlen hg) fun r s' hq => ?_)
  obtain ⟨rfl, h2, h3, h4⟩ := hq
  exact ⟨.inl ⟨.bool true, .bool true, [], rfl, fun _ => rfl, .bool true, post_true l _, fun _ => ⟨List.Pairwise.nil, fun _ hm => (nomatch hm)⟩⟩, h2, h3, h4⟩
/-! ### rules over ANY heap (no ledger) from facts about the written part K: the library's own take a ledger (News) for what they write -/
section
variable {prog : Program} {w : World} {A : Around} {E : Value → Shared → Prop} {s : Shared} {K : Frag}
/-! the whole heap as the ledger: makes every rule that writes through a ledger a rule over any heap -/
def ledger (h : Heap) (L d : Addr) : List (Addr × Obj) := (List.range h.objs.size).filterMap fun a => if a = L ∨ a = d then none else (h.get? a).map fun o => (a, o)
end
end Att
namespace L2
open PySem PySem.Spec PyProof.Rows
theorem vals_ints : ∀ {vs : List Value} {ns : List Int}, IntsAre vs ns → Vals (ns.map V.int) vs
  | _, _, .nil => .nil
  | _, _, .cons n t h => .cons ⟨t, rfl⟩ (vals_ints h)
/-- nothing is tracked but the script, known to the object (or it is an object of the module) -/
def Only (H : Hp) : Prop := ∀ b, H b = none ∨ ∃ o xs, H b = some (.frz o (.lst xs))
/-- THE HEAD: the law's promise, at the heap behind the top. F, the promise of the law's def, may use that base is part of the heap (so K.In base, base.Ns mainGlobals mg stand in Mod) -/
theorem law_call {P : Program} {w : World} {K : PySem.W.Frag} {mg mb : Str → Option Value} {CX : CXT} {k : Nat} {fa a : Addr} {fd : FuncData} {x : Str} {sp : Sp} {s₁ : Shared} {vs : List Value} {ns : List Int}
    (KX : K.In s₁.heap) (hns : s₁.heap.Ns mainGlobals mg) (hb : s₁.heap.Ns builtinsNs mb) (hbb : ∀ x : Str, x ≠ "__name__" → mb x = bootBuiltins x) (hlim : s₁.heap.NoLimit) (hg : s₁.gens = #[])
    (ha : s₁.heap.get? a = some { cls := .type "list", data := .seq vs.toArray }) (hi : IntsAre vs ns) (hl : ns.length ≤ sizeLine) (hr : Room k callerA)
    (F : ∀ base : Heap, K.In base → base.Ns mainGlobals mg → FnOk P w K mg base CX k fa fd [x] sp) (hbind : ∀ (s : Shared) (u : Value), BindsTo s fd ⟨[u], []⟩ [(x, u)])
    (hsp : ∀ H : Hp, Only H → SqL K H a (ns.map V.int) → sp [.ref a] H (fun v _ => v = .bl true) fun _ _ _ => False)
    (hCX : ∀ H e s', CX [] H s₁ (fun _ _ _ => False) e s' → False) :
    codeAny (model P w) callerA (.call (.ref fa) ⟨[.ref a], []⟩) (fun r s' => r = .ok (.ret (.bool true)) ∧ OldK s₁.heap s'.heap ∧ s'.os = s₁.os ∧ AllBare s'.gens) s₁ := by
  have rv := vals_ints hi
  have lenV := hi.length
  -- from an abstract heap in which nothing but the script may be tracked
  have core : ∀ H : Hp, Only H → SqL K H a (ns.map V.int) → HOk P w H s₁.heap → (∀ b, H b ≠ none → b = a) → (H a ≠ none → K.lookup a = none) →
      codeAny (model P w) callerA (.call (.ref fa) ⟨[.ref a], []⟩) (fun r s' => r = .ok (.ret (.bool true)) ∧ OldK s₁.heap s'.heap ∧ s'.os = s₁.os ∧ AllBare s'.gens) s₁ := by
    intro H hO hS hok hA hK
    have base_of : ∀ {b : Addr} {o : Obj}, s₁.heap.get? b = some o → H b = none → (hidT s₁.heap H).get? b = some o := fun e n => hidT_get e n
    have noA : ∀ {b : Addr} {o : Obj} {es : Array DictEntry} {ep : Nat}, s₁.heap.get? b = some o → o.data = .dict es ep → H b = none := fun {b o es ep} e d => by
      cases q : H b with
      | none => rfl
      | some u =>
        have e' : b = a := hA b (by rw [q]; simp)
        subst e'
        rw [ha] at e; cases e
        have d' : Data.seq vs.toArray _ = Data.dict es ep := d
        cases d'
    have nsK : ∀ {b : Addr} {m : Str → Option Value}, s₁.heap.Ns b m → (hidT s₁.heap H).Ns b m := fun {b m} ⟨o, es, ep, e, d, r⟩ => ⟨o, es, ep, base_of e (noA e d), d, r⟩
    have hKb : K.In (hidT s₁.heap H) := fun b o e => base_of (KX b o e) (by
      cases q : H b with
      | none => rfl
      | some u =>
        have e' : b = a := hA b (by rw [q]; simp)
        subst e'
        rw [hK (by rw [q]; simp)] at e; cases e)
    have hM : Mod K mg (hidT s₁.heap H) := ⟨hKb, nsK hns, ⟨mb, nsK hb, hbb⟩, let ⟨mc, h1, h2⟩ := hlim; ⟨mc, nsK h1, h2⟩⟩
    have e0 : Env0 P w K mg (hidT s₁.heap H) callerA [] s₁ H := ⟨rfl, hM, fun b o e => of_hidT e, Nat.le_of_eq (hidT_size _ _), trivial, fun b hb => absurd (show b ∈ ([] : List Addr) from hb) (by simp), hok, .of_eq hg⟩
    refine codeAny_mono ((F _ hKb (nsK hns)).run callerA [] s₁ H ⟨[.ref a], []⟩ [.ref a] [.ref a] _ _ hr e0 (hbind s₁ (.ref a)) (.cons rfl .nil) (hsp H hO hS)) fun r s' h => ?_
    cases r with
    | error e => exact (hCX H e s' h).elim
    | ok fl =>
      cases fl with
      | next => exact False.elim h
      | brk => exact False.elim h
      | cont => exact False.elim h
      | ret u =>
        obtain ⟨v, H', os, bare, un, hok', r', q⟩ := h
        have q' : v = .bl true := q
        subst q'
        obtain rfl : u = Value.bool true := r'
        refine ⟨rfl, OldK.of_keep fun b o e => ?_, os, bare⟩
        cases q : H b with
        | none => exact un.keep b o e q (by intro z; exact absurd (show b ∈ ([] : List Addr) from z) (by simp)) (by simp)
        | some u =>
          rcases hO b with z | ⟨ob, xs, z⟩
          · rw [q] at z; cases z
          · have z2 := un.frzs b ob _ z
            obtain ⟨e1, _⟩ := hok b _ z
            obtain ⟨e2, _⟩ := hok' b _ z2
            rw [e] at e1; cases e1
            exact e2
  cases hk : K.lookup a with
  | some o =>
    -- the script is one of the module's own objects
    have e := KX a o hk
    rw [ha] at e
    cases e
    refine core (fun _ => none) (fun _ => .inl rfl) (.inr ⟨_, vs.toArray, _, hk, rfl, rfl, rfl, by rw [List.size_toArray, lenV]; exact hl, by simpa using rv⟩) (fun b u z => by have z' : (none : Option HO) = some u := z; cases z') (fun b z => absurd rfl z) fun z => absurd rfl z
  | none =>
    refine core (fun b => if b = a then some (.frz { cls := .type "list", data := .seq vs.toArray } (.lst (ns.map V.int))) else none) (fun b => ?_) (.inl (.inr ⟨{ cls := .type "list", data := .seq vs.toArray }, if_pos rfl⟩)) (fun b u z => ?_) (fun b z => ?_) fun _ => hk
    · by_cases hb : b = a
      · exact .inr ⟨_, _, if_pos hb⟩
      · exact .inl (if_neg hb)
    · by_cases hb : b = a
      · have z' := (if_pos hb).symm.trans z
        cases z'
        subst hb
        exact ⟨ha, by rw [List.length_map]; exact hl, vs, _, rv, ha⟩
      · have z' := (if_neg hb).symm.trans z
        cases z'
    · by_cases hb : b = a
      · exact hb
      · exact absurd (if_neg hb) z
end L2
namespace L2
open PySem PySem.Spec PyProof.Rows
/-- the goal that k_head leaves (case hc), from the law's promise. F gives the function object fd (K's own) once, then the promise over every base -/
theorem walk_of {l : PySem.W.OpenLaw} {n k : Nat} {q : Program} {loose : List Str} {XP : (Str → Option Value) → Heap → Prop} {YP : World → Heap → Prop} {d : DefRec} {K : Params → PySem.W.Frag} {CX : World → CXT} {sp : World → Sp} {x : Str}
    (hn : l.most = some n) (hn2 : n ≤ sizeLine) (hdf : d.params.defaults = []) (hr : Room k callerA)
    (hY : ∀ (w : World) (h : Heap), YP w h → (K w.params).In h)
    (F : ∀ (w : World) (mg : Str → Option Value) (fa : Addr) (h : Heap), (K w.params).In h → h.Ns mainGlobals mg → mg d.name = some (.ref fa) →
      ∃ fd : FuncData, (∀ (s : Shared) (u : Value), BindsTo s fd ⟨[u], []⟩ [(x, u)]) ∧
        ∀ base : Heap, (K w.params).In base → base.Ns mainGlobals mg → FnOk l.prog w (K w.params) mg base (CX w) k fa fd [x] (sp w))
    (hsp : ∀ (w : World) (H : Hp) (a : Addr) (ns : List Int), ns.length ≤ n → Only H → SqL (K w.params) H a (ns.map V.int) → sp w [.ref a] H (fun v _ => v = .bl true) fun _ _ _ => False)
    (hCX : ∀ (w : World) (H : Hp) (s : Shared) (e : Value) (s' : Shared), CX w [] H s (fun _ _ _ => False) e s' → False) :
    PySem.W.WalkO q loose XP YP l.row.toRowW d [] (fun f vs => PySem.call f vs) := by
  refine Att.attach_call hn hdf fun w s₀ s₁ mg mb fa o pm cd doc a vs ns G Y ho hd hcd hmg hobj hints hlen hg => ?_
  have KX := hY w _ Y
  obtain ⟨fd, hb, hF⟩ := F w mg fa _ KX G.T.g hmg
  exact law_call KX G.T.g G.T.b G.T.builtins G.T.nolimit hg hobj hints (Nat.le_trans hlen hn2) hr hF hb (fun H hO hS => hsp w H a ns hlen hO hS) fun H e s' => hCX w H s₁ e s'
end L2
/-! SHORT WORDS over the layer: a def of the text, its body, what a loop and a test want. -/
namespace L2
open PySem PySem.Spec PyProof.Rows
/-! ### the text by places -/
def defArgs (s : Stmt) : Arguments := match s with
  | .FunctionDef _ a _ _ _ _ _ _ _ _ => a
  | _ => { posonlyargs := [], args := [], vararg := none, kwonlyargs := [], kw_defaults := [], kwarg := none, defaults := [] }
def defBody (s : Stmt) : List Stmt := match s with
  | .FunctionDef _ _ b _ _ _ _ _ _ _ => b
  | _ => []
def defScope (s : Stmt) : Scope := match s with
  | .FunctionDef _ _ _ _ _ _ sc _ _ _ => sc
  | _ => { kind := .function, names := [], isGenerator := false, isCoroutine := false }
/-! ### no exception leaves a def -/
abbrev CX0 : CXT := fun _ _ _ _ _ _ => False
abbrev E0 : XK := fun _ _ _ => False
theorem pass0 {X : Cx} : Passes CX0 X E0 := fun _ _ _ _ _ _ _ h => h.elim
/-! ### a def (or method) of the text as it stands behind the top -/
structure Fun (K : PySem.W.Frag) (x qual : Str) (st : Stmt) (f : Addr) (fd : FuncData) : Prop where
  ex : ∃ (oc : Value) (od : Option Addr) (kV doc pm : Value) (an : Option Addr) (cdv ct : Value) (osl : Array (Option Value)),
    fd = PySem.W.fnOf x qual (defArgs st) (defBody st) (defScope st) .none kV doc pm an cdv ct ∧ K.lookup f = some ⟨oc, od, .func fd, osl⟩ ∧ PySem.W.codeIn K cdv qual = true
  kp : PySem.W.keepIn K (.ref f) = true
section
variable {P : Program} {w : World} {K : PySem.W.Frag} {mg : Str → Option Value} {base : Heap}
/-- THE RULE for a def: its body as a term of rules, and the reading of that term -/
theorem Fun.ok {x qual : Str} {st : Stmt} {f : Addr} {fd : FuncData} {N ps : List Str} {k : Nat} {sp : Sp} (F : Fun K x qual st f fd) (S : FnScope N ps (defScope st)) (len : ∀ vs H Q E, sp vs H Q E → vs.length = ps.length)
    (hbody : ∀ (cdv : Value) (A : Around) (outer : List Env) (s : Shared) (H : Hp) (vs : List V) (Q : VK) (E : XK), Room k (A.deeper (envOfC qual (defScope st) s.heap.objs.size f cdv)) → sp vs H Q E →
      ∃ t, PSs (cxOf CX0 P w K mg base N qual (defScope st) f cdv A outer s H E).nox (defBody st) t ∧ t { nx := fun _ H' => Q .non H', rt := Q } (start N vs) H) : FnOk P w K mg base CX0 (k + 1) f fd ps sp := by
  obtain ⟨oc, od, kV, doc, pm, an, cdv, ct, osl, rfl, lk, hcd⟩ := F.ex
  refine fn_of lk hcd S len fun A outer s H vs Q E hr hsp => ?_
  obtain ⟨t, h, q⟩ := hbody cdv A outer s H vs Q E hr hsp
  exact ⟨t, h.nox, q⟩
/-- how its arguments bind (no defaults): h is «fun _ _ _ _ _ _ us hl => match us, hl with | [_, _], _ => rfl», one _ a parameter -/
theorem Fun.binds {x qual : Str} {st : Stmt} {f : Addr} {fd : FuncData} {ps : List Str} (F : Fun K x qual st f fd)
    (h : ∀ (kV doc pm : Value) (an : Option Addr) (cdv ct : Value) (us : List Value), us.length = ps.length → bindArgs (PySem.W.fnOf x qual (defArgs st) (defBody st) (defScope st) .none kV doc pm an cdv ct) ⟨us, []⟩ = pure (ps.zip us)) : Binds K fd ps [] := by
  obtain ⟨oc, od, kV, doc, pm, an, cdv, ct, osl, rfl, lk, hcd⟩ := F.ex
  exact .all (h kV doc pm an cdv ct)
theorem fun_mk {x qual : Str} {st : Stmt} {f : Addr} {oc : Value} {od an : Option Addr} {osl : Array (Option Value)} {kV doc pm cdv ct : Value} (l : K.lookup f = some ⟨oc, od, .func (PySem.W.fnOf x qual (defArgs st) (defBody st) (defScope st) .none kV doc pm an cdv ct), osl⟩)
    (c : PySem.W.codeIn K cdv qual = true) (k : PySem.W.keepIn K (.ref f) = true) : Fun K x qual st f (PySem.W.fnOf x qual (defArgs st) (defBody st) (defScope st) .none kV doc pm an cdv ct) := ⟨⟨oc, od, kV, doc, pm, an, cdv, ct, osl, rfl, l, c⟩, k⟩
end
theorem hu_of {A : Around} {k : Nat} (hr : Room k A) : A.units + 1 < cLine := Nat.lt_of_le_of_lt (Nat.add_le_add_left (by decide : 1 ≤ 64) _) hr.units
theorem small1000 {n : Nat} (h : n ≤ 1000) : n < sizeLine := Nat.lt_of_le_of_lt h (by decide)
/-! ### expressions in short: the name that stands in the i-th slot -/
section
variable {X : Cx}
theorem pv (i : Nat) {x : Str} {pos : Pos} (hN : X.N[i]? = some x := by rfl) (hv : Vis X.env.scope x := by first | exact Or.inl rfl | exact Or.inr (Or.inl rfl) | exact Or.inr (Or.inr rfl)) (hd : (x == ("__debug__" : Str)) = false := by decide)
    (hcd : (x == ("__classdict__" : Str)) = false := by decide) : PE X (.Name x pos) (tVar i) := pe_var hN hv hd hcd
end
/-! ### tests -/
theorem iteF {A B : Prop} (h : B) : if false = true then A else B := by
  rw [if_neg Bool.false_ne_true]
  exact h
theorem iteT {A B : Prop} (h : A) : if true = true then A else B := by
  rw [if_pos rfl]
  exact h
theorem iteNS {c A B : Prop} [Decidable c] (hc : c) (h : B) : if (!decide c) = true then A else B := by
  rw [decide_eq_true hc]
  exact iteF h
/-! ### heaps -/
/-- all that was tracked is as it was -/
def Same (H H' : Hp) : Prop := ∀ b o, H b = some o → H' b = some o
theorem Same.refl (H : Hp) : Same H H := fun _ _ h => h
theorem Same.trans {H H1 H2 : Hp} (a : Same H H1) (b : Same H1 H2) : Same H H2 := fun c o h => b c o (a c o h)
theorem Same.free {H H' : Hp} (e : Same H H') {l : Addr} (h : H' l = Option.none) : H l = Option.none := by
  cases q : H l with
  | none => rfl
  | some o =>
    rw [e l o q] at h
    cases h
theorem Same.seq {K : PySem.W.Frag} {H H' : Hp} {a : Addr} {xs : List V} (e : Same H H') (h : SqL K H a xs) : SqL K H' a xs := by
  rcases h with (h | ⟨o, h⟩) | h
  · exact .inl (.inl (e _ _ h))
  · exact .inl (.inr ⟨o, e _ _ h⟩)
  · exact .inr h
end L2
namespace Ts
/-! roots -/
def sqrtN : Nat → Nat
  | 0 => 0
  | n + 1 => if (sqrtN n + 1) * (sqrtN n + 1) ≤ n + 1 then sqrtN n + 1 else sqrtN n
theorem sqrtN_spec : ∀ n, sqrtN n * sqrtN n ≤ n ∧ n < (sqrtN n + 1) * (sqrtN n + 1)
  | 0 => by decide
  | n + 1 => by
    obtain ⟨h1, h2⟩ := sqrtN_spec n
    unfold sqrtN
    split
    · rename_i h
      refine ⟨h, ?_⟩
      have e : (sqrtN n + 1 + 1) * (sqrtN n + 1 + 1) = (sqrtN n + 1) * (sqrtN n + 1) + 2 * (sqrtN n + 1) + 1 := by
        rw [Nat.add_mul, Nat.mul_add]; omega
      omega
    · rename_i h
      exact ⟨by omega, by omega⟩
theorem sq_lt {a b : Nat} (h : a * a < b * b) : a < b := by
  rcases Nat.lt_or_ge a b with q | q
  · exact q
  · exact absurd (Nat.mul_le_mul q q) (by omega)
theorem le_root {n r : Nat} (h1 : r * r ≤ n) : r ≤ sqrtN n := by
  obtain ⟨_, s2⟩ := sqrtN_spec n
  have a := sq_lt (Nat.lt_of_le_of_lt h1 s2)
  omega
/-! pairs -/
def tri (s : Nat) : Nat := s * (s + 1) / 2
def pairN (a b : Nat) : Nat := tri (a + b) + b
theorem tri_succ (s : Nat) : tri (s + 1) = tri s + s + 1 := by
  unfold tri
  have e : (s + 1) * (s + 1 + 1) = s * (s + 1) + 2 * (s + 1) := by
    rw [Nat.mul_add (s + 1) (s+1) 1, Nat.add_mul s 1 (s+1)]; omega
  rw [e]; omega
theorem two_tri (s : Nat) : 2 * tri s = s * (s + 1) := by
  induction s with
  | zero => rfl
  | succ s ih =>
    rw [tri_succ]
    have e : (s + 1) * (s + 1 + 1) = s * (s + 1) + 2 * (s + 1) := by
      rw [Nat.mul_add (s + 1) (s+1) 1, Nat.add_mul s 1 (s+1)]; omega
    omega
theorem tri_mono {s t : Nat} (h : s ≤ t) : tri s ≤ tri t := by
  induction h with
  | refl => exact Nat.le_refl _
  | step _ ih => rw [tri_succ]; omega
def totN (n : Nat) : Nat := (sqrtN (8 * n + 1) - 1) / 2
theorem tot_spec (n : Nat) : tri (totN n) ≤ n ∧ n < tri (totN n + 1) := by
  obtain ⟨s1, s2⟩ := sqrtN_spec (8 * n + 1)
  have hpos : 1 ≤ sqrtN (8 * n + 1) := le_root (by omega)
  unfold totN
  generalize sqrtN (8 * n + 1) = r at s1 s2 hpos
  have t1 := two_tri ((r - 1) / 2)
  have t2 := two_tri ((r - 1) / 2 + 1)
  have hr : r = 2 * ((r - 1) / 2) + 1 ∨ r = 2 * ((r - 1) / 2) + 2 := by omega
  generalize (r - 1) / 2 = t at t1 t2 hr ⊢
  have e1 : t * (t + 1) = t * t + t := by rw [Nat.mul_add]; omega
  have e2 : (t + 1) * (t + 1 + 1) = t * t + 3 * t + 2 := by rw [Nat.mul_add, Nat.add_mul]; omega
  constructor
  · have : (2 * t + 1) * (2 * t + 1) ≤ r * r := Nat.mul_le_mul (by omega) (by omega)
    have e3 : (2 * t + 1) * (2 * t + 1) = 4 * (t * t) + 4 * t + 1 := by
      simp only [Nat.mul_add, Nat.add_mul, Nat.mul_assoc, Nat.mul_left_comm t 2 t]; omega
    omega
  · have : (r + 1) * (r + 1) ≤ (2 * t + 3) * (2 * t + 3) := Nat.mul_le_mul (by omega) (by omega)
    have e3 : (2 * t + 3) * (2 * t + 3) = 4 * (t * t) + 12 * t + 9 := by
      simp only [Nat.mul_add, Nat.add_mul, Nat.mul_assoc, Nat.mul_left_comm t 2 t]; omega
    omega
theorem tot_unique {n t : Nat} (h1 : tri t ≤ n) (h2 : n < tri (t + 1)) : totN n = t := by
  obtain ⟨a, b⟩ := tot_spec n
  rcases Nat.lt_trichotomy (totN n) t with h | h | h
  · have := tri_mono (show totN n + 1 ≤ t by omega); omega
  · exact h
  · have := tri_mono (show t + 1 ≤ totN n by omega); omega
def twoN (n : Nat) : Nat := n - tri (totN n)
def oneN (n : Nat) : Nat := totN n - twoN n
theorem tot_pair (a b : Nat) : totN (pairN a b) = a + b := by
  apply tot_unique
  · unfold pairN; omega
  · rw [tri_succ]; unfold pairN; omega
theorem parts_pair (a b : Nat) : oneN (pairN a b) = a ∧ twoN (pairN a b) = b := by
  have h := tot_pair a b
  have h2 : twoN (pairN a b) = b := by
    unfold twoN; rw [h]; unfold pairN; omega
  refine ⟨?_, h2⟩
  unfold oneN; rw [h, h2]; omega
end Ts
namespace Ts
/-! sizes -/
theorem lt_pow_mono {a m n : Nat} (h : a < 2 ^ m) (hm : m ≤ n) : a < 2 ^ n := Nat.lt_of_lt_of_le h (Nat.pow_le_pow_right (by decide) hm)
theorem add_lt {a b m : Nat} (h1 : a < 2 ^ m) (h2 : b < 2 ^ m) : a + b < 2 ^ (m + 1) := by rw [Nat.pow_succ]; omega
theorem succ_lt {a m : Nat} (h1 : a < 2 ^ m) : a + 1 < 2 ^ (m + 1) := by
  have : 0 < 2 ^ m := Nat.two_pow_pos m
  rw [Nat.pow_succ]; omega
/-- the pair of two numbers below 2^k lies below 2^(2k+1) -/
theorem pair_lt {a b k : Nat} (h1 : a < 2 ^ k) (h2 : b < 2 ^ k) : pairN a b < 2 ^ (2 * k + 1) := by
  have t := two_tri (a + b)
  unfold pairN
  have e : 2 ^ (2 * k + 1) = 2 * (2 ^ k * 2 ^ k) := by rw [Nat.pow_succ, Nat.two_mul, Nat.pow_add]; omega
  rw [e]
  generalize 2 ^ k = z at h1 h2
  have m : (a + b) * (a + b + 1) ≤ (2 * z - 2) * (2 * z - 1) := Nat.mul_le_mul (by omega) (by omega)
  obtain ⟨y, rfl⟩ : ∃ y, z = y + 1 := ⟨z - 1, by omega⟩
  have e1 : 2 * (y + 1) - 2 = 2 * y := by omega
  have e2 : 2 * (y + 1) - 1 = 2 * y + 1 := by omega
  rw [e1, e2] at m
  have e3 : 2 * y * (2 * y + 1) = 4 * (y * y) + 2 * y := by simp only [Nat.mul_add, Nat.add_mul, Nat.mul_assoc, Nat.mul_left_comm y 2 y]; omega
  have e4 : (y + 1) * (y + 1) = y * y + 2 * y + 1 := by simp only [Nat.mul_add, Nat.add_mul]; omega
  omega
end Ts
set_option Elab.async false
set_option linter.all false
set_option maxRecDepth 100000
set_option maxHeartbeats 4000000
namespace L2
open PySem PySem.Spec PyProof.Rows
/-! own rules: natural numbers -/
section
variable {X : Cx}
theorem OpR.imp {f : Value → Value → Sem Value} {r r' : R2} (h : OpR X f r) (g : ∀ x y H Q, r' x y H Q → r x y H Q) : OpR X f r' :=
  fun pins s σ H x y v u Q I rx ry q => h pins s σ H x y v u Q I rx ry (g x y H Q q)
theorem zmulB : OpR X (binaryOp .Mult) (rI IntMulOk fun i j => .int (i * j)) := opI fun _ _ _ _ _ _ _ hc q => mul_int q hc
def CDivB (i j : Int) : Prop := 0 < j ∧ j.natAbs.log2 < 9000
theorem zdivB : OpR X (binaryOp .FloorDiv) (rI CDivB fun i j => .int (i / j)) := opI fun i j _ _ _ _ _ hc q => by
  have h1 : (0 : Int) < j := hc.1
  exact floordiv_int (by omega) (by rw [Int.fdiv_eq_ediv_of_nonneg i (by omega)]; exact q) (.inl (PyProof.noPylong_of_log2 hc.2))
def CShl (i j : Int) : Prop := 0 ≤ j ∧ (Builtin.Int.intBits i : Int) + j ≤ 2 ^ 27
theorem zshlB : OpR X (binaryOp .LShift) (rI CShl fun i j => .int (i * 2 ^ j.toNat)) := opI fun _ _ _ _ _ _ _ hc q => lshift_int hc.1 hc.2 q
/-- two naturals in, under C, a natural out -/
def rN (C : Nat → Nat → Prop) (g : Nat → Nat → Nat) : R2 := fun x y H Q => ∃ a b c : Nat, x = .int (a : Int) ∧ y = .int (b : Int) ∧ C a b ∧ c = g a b ∧ Q (.int (c : Int)) H
theorem n_add : OpR X (binaryOp .Add) (rN (fun _ _ => True) fun a b => a + b) := op_add.imp fun x y H Q ⟨a, b, c, e1, e2, _, e3, q⟩ => ⟨_, _, e1, e2, by subst e3; show Q (.int ((a : Int) + (b : Int))) H; rw [← Int.natCast_add]; exact q⟩
theorem n_sub : OpR X (binaryOp .Sub) (rN (fun a b => b ≤ a) fun a b => a - b) := op_sub.imp fun x y H Q ⟨a, b, c, e1, e2, h, e3, q⟩ => ⟨_, _, e1, e2, by subst e3; show Q (.int ((a : Int) - (b : Int))) H; rw [← Int.natCast_sub h]; exact q⟩
theorem bits_nat {a m : Nat} (h : a < 2 ^ m) : Builtin.Int.intBits (a : Int) ≤ m := intBits_le_iff.mpr (by rw [Int.natAbs_natCast]; exact h)
def CMulN (a b : Nat) : Prop := ∃ m n, a < 2 ^ m ∧ b < 2 ^ n ∧ m + n ≤ 134217728
theorem n_mul : OpR X (binaryOp .Mult) (rN CMulN fun a b => a * b) := zmulB.imp fun x y H Q ⟨a, b, c, e1, e2, ⟨m, n, h1, h2, h3⟩, e3, q⟩ =>
  ⟨_, _, e1, e2, IntMulOk.of_le (bits_nat h1) (bits_nat h2) h3, by subst e3; show Q (.int ((a : Int) * (b : Int))) H; rw [← Int.natCast_mul]; exact q⟩
def dl : Nat := 9000
def CDivM (a b : Nat) : Prop := 0 < b ∧ b < 2 ^ dl
theorem n_div : OpR X (binaryOp .FloorDiv) (rN CDivM fun a b => a / b) := zdivB.imp fun x y H Q ⟨a, b, c, e1, e2, ⟨h1, h2⟩, e3, q⟩ =>
  ⟨_, _, e1, e2, ⟨by omega, by rw [Int.natAbs_natCast]; exact (Nat.log2_lt (by omega)).mpr h2⟩, by subst e3; show Q (.int ((a : Int) / (b : Int))) H; rw [← Int.natCast_ediv]; exact q⟩
theorem n_mod : OpR X (binaryOp .Mod) (rN (fun _ b => 0 < b) fun a b => a % b) := op_mod.imp fun x y H Q ⟨a, b, c, e1, e2, h, e3, q⟩ =>
  ⟨_, _, e1, e2, by show (0 : Int) < (b : Int); omega, by subst e3; show Q (.int ((a : Int) % (b : Int))) H; rw [← Int.natCast_emod]; exact q⟩
def CShlN (a b : Nat) : Prop := ∃ m, a < 2 ^ m ∧ m + b ≤ 134217728
theorem n_shl : OpR X (binaryOp .LShift) (rN CShlN fun a b => a * 2 ^ b) := zshlB.imp fun x y H Q ⟨a, b, c, e1, e2, ⟨m, h1, h2⟩, e3, q⟩ =>
  ⟨_, _, e1, e2, ⟨by omega, by
    have z := bits_nat h1
    have z2 : Builtin.Int.intBits (a : Int) ≤ m := z
    have z3 : (2 : Int) ^ 27 = 134217728 := by decide
    rw [z3]; omega⟩, by
    subst e3
    have e : ((a : Int) * 2 ^ (b : Int).toNat) = ((a * 2 ^ b : Nat) : Int) := by
      rw [Int.toNat_natCast, Int.natCast_mul, Int.natCast_pow]; rfl
    show Q (.int ((a : Int) * 2 ^ (b : Int).toNat)) H
    rw [e]; exact q⟩
/-! tests -/
theorem iteN {c A B : Prop} [Decidable c] (hc : ¬ c) (h : B) : if decide c = true then A else B := by
  rw [if_neg (by simpa using hc)]; exact h
theorem iteY {c A B : Prop} [Decidable c] (hc : c) (h : A) : if decide c = true then A else B := by
  rw [if_pos (by simpa using hc)]; exact h
theorem ite3 {c A B : Prop} [Decidable c] (h1 : c → A) (h2 : ¬ c → B) : if decide c = true then A else B := by
  by_cases h : c
  · exact iteY h (h1 h)
  · exact iteN h (h2 h)
/-- while, by a word with its measure -/
theorem while_on {c : TT} {tb : TS} {D : Ends} {σ : St} {H : Hp} (Pv : Nat → St → Hp → Prop) (m : Nat) (h0 : Pv m σ H)
    (hs : ∀ m σ H, Pv m σ H → c σ H fun b H1 => if b = true then ∃ N : St → Hp → Prop, (∀ σ' H', N σ' H' → ∃ m', m' < m ∧ Pv m' σ' H') ∧ tb { D with nx := N, ct := N, bk := D.nx } σ H1 else D.nx σ H1) : tWhile c tb D σ H := ⟨Pv, ⟨m, h0⟩, hs⟩
theorem adr_ne {a b n : Nat} (h1 : a < n) (h2 : n ≤ b) : a ≠ b := by omega
/-! isinstance of one built-in class -/
def rIsB (K : PySem.W.Frag) : List V → Hp → VK → Prop := fun xs H Q => ∃ x n t b, xs = [x, .ty n] ∧ TyOf K H x t ∧ PySem.W.kitOne K t (.type n) = some b ∧ Q (.bl b) H
theorem call_isinst : CallR X (.builtin "isinstance") (rIsB X.K) := by
  intro pins s σ H xs us Q I r h
  obtain ⟨x, n, t, b, rfl, ty, e, q⟩ := h
  obtain ⟨u, w', rfl, rx, rn⟩ := vals2 r
  cases (show w' = Value.type n from rn)
  exact isinst_ok I rx ty e fun tk => ⟨.bl b, H, I.tok tk, rfl, q⟩
/-! == and != of two tuples of flat items -/
def eqVs : List V → List V → Bool
  | [], [] => true
  | x :: xs, y :: ys => eqV x y && eqVs xs ys
  | _, _ => false
theorem eqVs_all : ∀ {xs ys : List V}, ((List.range (min xs.length ys.length)).all (fun j => eqV (xs.getD j .non) (ys.getD j .non)) && xs.length == ys.length) = eqVs xs ys
  | [], [] => rfl
  | [], _ :: _ => rfl
  | _ :: _, [] => rfl
  | x :: xs, y :: ys => by
    have ih := eqVs_all (xs := xs) (ys := ys)
    have e : min (x :: xs).length (y :: ys).length = min xs.length ys.length + 1 := by simp only [List.length_cons]; omega
    rw [e, List.range_succ_eq_map, List.all_cons, List.all_map]
    show (eqV x y && _ && _) = (eqV x y && eqVs xs ys)
    rw [← ih, Bool.and_assoc]
    have e2 : ((x :: xs).length == (y :: ys).length) = (xs.length == ys.length) := by
      simp only [List.length_cons]
      by_cases h : xs.length = ys.length
      · rw [h]; simp
      · rw [beq_eq_false_iff_ne.mpr h, beq_eq_false_iff_ne.mpr (by omega)]
    rw [e2]
    rfl
theorem flat_at {A : Around} {s : Shared} {xs ys : List V} {us ws : List Value} (rx : Vals xs us) (ry : Vals ys ws) (fx : xs.all flatV = true) (fy : ys.all flatV = true) :
    ∀ j (h1 : j < us.toArray.size) (h2 : j < ws.toArray.size), SeqAt.EqAt A s us.toArray[j] ws.toArray[j] (eqV (xs.getD j .non) (ys.getD j .non)) := by
  intro j h1 h2
  have l1 := rx.length
  have l2 := ry.length
  have h1' : j < xs.length := by rw [List.size_toArray] at h1; omega
  have h2' : j < ys.length := by rw [List.size_toArray] at h2; omega
  obtain ⟨u, hu, ru⟩ := rx.get (List.getElem?_eq_getElem h1')
  obtain ⟨w, hw, rw'⟩ := ry.get (List.getElem?_eq_getElem h2')
  have e1 : us.toArray[j] = u := by
    have := (List.getElem?_eq_some_iff.mp hu).2
    simpa using this
  have e2 : ws.toArray[j] = w := by
    have := (List.getElem?_eq_some_iff.mp hw).2
    simpa using this
  have g1 : xs.getD j .non = xs[j] := by rw [List.getD_eq_getElem?_getD, List.getElem?_eq_getElem h1']; rfl
  have g2 : ys.getD j .non = ys[j] := by rw [List.getD_eq_getElem?_getD, List.getElem?_eq_getElem h2']; rfl
  rw [e1, e2, g1, g2]
  exact eqAt_V ru rw' (List.all_eq_true.mp fx _ (List.getElem_mem h1')) (List.all_eq_true.mp fy _ (List.getElem_mem h2'))
theorem iteB {b : Bool} {A B : Prop} (hb : b = false) (h : B) : if b = true then A else B := by subst hb; exact h
theorem iteB1 {b : Bool} {A B : Prop} (hb : b = true) (h : A) : if b = true then A else B := by subst hb; exact h
theorem eqVs_int2 (a b : Int) : eqVs [.int a, .int b] [.int a, .int b] = true := by simp [eqVs, eqV]
/-! min of a tuple of two ints -/
end
end L2
set_option Elab.async false
set_option linter.all false
set_option maxRecDepth 100000
set_option maxHeartbeats 4000000
namespace L2
open PySem PySem.Spec PyProof.Rows
/-! ### a list comprehension of one clause -/
theorem comp_loop {prog : Program} {w : World} {A : Around} {R : Result → Shared → Prop} {elt tgt iter : Expr} {ifs : List Expr} {sc : Scope} {pos : Pos} {itv acc : Value} {env : Env} (Inn : Nat → Shared → Prop)
    (turn : ∀ k st, Inn k st → wpAny (model prog w) A (pyNext itv) (fun r s1 => match r with
      | none => R (.ok .next) s1
      | some v => wpAny (model prog w) A (letOwnedTupleGo tgt itv v) (fun _ s2 => wpAny (model prog w) A (assign tgt env v) (fun _ s3 =>
          wpAny (model prog w) A (forIn ifs true fun c r => if r = true then do let ok ← isTrue c env (eval c env); pure (ForInStep.yield ok) else pure (ForInStep.yield r)) (fun ok s4 =>
            if ok = true then wpAny (model prog w) A (eval elt env) (fun x s5 =>
              wpAny (model prog w) A (call (.builtin "list.append") [acc, x]) (fun _ s6 => ∃ m, m < k ∧ Inn m s6) (fun _ _ => False) s5) (fun _ _ => False) s4
            else ∃ m, m < k ∧ Inn m s4) (fun _ _ => False) s3) (fun _ _ => False) s2) (fun _ _ => False) s1) (fun _ _ => False) st)
    (k : Nat) {st : Shared} (h : Inn k st) : codeAny (model prog w) A (.compLoop (.ListComp elt [⟨tgt, iter, ifs, 0⟩] sc pos) 0 itv acc env) R st := by
  refine codeAny_loop rfl Inn (fun k st hq => ?_) k h
  show wpAny _ A
    ((compTurn (.ListComp elt [⟨tgt, iter, ifs, 0⟩] sc pos) 0 itv acc env).onRaise
      (fun x => do noteFrame x env; theTreesLotGoes x)) _ _ st
  refine wpAny_noted ?_
  rw [compTurn_list]
  refine wpAny_bind (wpAny_standAt (wpAny_bind (wpAny_mono (turn k st hq) (fun r s1 h1 => ?_) fun _ _ z => z.elim)))
  cases r with
  | none => exact wpAny_pure h1
  | some v =>
    refine wpAny_bind (wpAny_mono h1 (fun _ s2 h2 => ?_) fun _ _ z => z.elim)
    refine wpAny_bind (wpAny_mono h2 (fun _ s3 h3 => ?_) fun _ _ z => z.elim)
    refine wpAny_bind (wpAny_mono h3 (fun ok s4 h4 => ?_) fun _ _ z => z.elim)
    cases ok with
    | false => exact wpAny_pure ⟨rfl, h4⟩
    | true =>
      refine wpAny_bind (wpAny_bind (wpAny_mono h4 (fun x s5 h5 => ?_) fun _ _ z => z.elim))
      exact wpAny_bind (wpAny_mono h5 (fun _ s6 h6 => wpAny_pure (wpAny_pure ⟨rfl, h6⟩)) fun _ _ z => z.elim)
/-- the context of the block: its own names, the free ones through the frame's cells -/
abbrev Cx.block (X : Cx) (sc : Scope) (cl : List (Str × Addr)) (N : List Str) (C : Addr) (s₀ : Shared) (H₀ : Hp) (fp : List Addr) (ps : List (Addr × Obj)) : Cx :=
  { X with N := N, s₀ := s₀, H₀ := H₀, env := compEnvC sc cl C X.env, outer := X.stack, stack := X.stack, ex := fp, fn := fun _ => false, pn := X.pn ++ ps, xe := fun _ _ => False }
/-- where the block's names come from: none: its own; some j: the frame's j-th name, a cell -/
def FrOk (X : Cx) (sc : Scope) : List (Option Nat) → List Str → Prop
  | [], [] => True
  | none :: r, _ :: N => FrOk X sc r N
  | some j :: r, x :: N => (X.N[j]? = some x ∧ X.env.scope.names.lookup x = some .cell ∧ (sc.names.lookup x = some .cell ∨ sc.names.lookup x = some .free)) ∧ FrOk X sc r N
  | _, _ => False
def blockSt (fr : List (Option Nat)) (σ : St) : St := fr.map fun o => o.bind fun (j : Nat) => (σ[j]?).join
theorem FrOk.len {X : Cx} {sc : Scope} : ∀ {fr : List (Option Nat)} {N : List Str}, FrOk X sc fr N → fr.length = N.length
  | [], [], _ => rfl
  | none :: r, _ :: N, h => by
    have := FrOk.len (fr := r) (N := N) h
    simp only [List.length_cons]; omega
  | some j :: r, _ :: N, h => by
    have := FrOk.len (fr := r) (N := N) h.2
    simp only [List.length_cons]; omega
  | [], _ :: _, h => h.elim
  | none :: _, [], h => h.elim
  | some _ :: _, [], h => h.elim
theorem FrOk.at {X : Cx} {sc : Scope} {σ : St} : ∀ {fr : List (Option Nat)} {N : List Str} {i : Nat} {x : Str} {v : V}, FrOk X sc fr N → N[i]? = some x → (blockSt fr σ)[i]? = some (some v) →
    ∃ j : Nat, X.N[j]? = some x ∧ σ[j]? = some (some v) ∧ X.env.scope.names.lookup x = some .cell ∧ (sc.names.lookup x = some .cell ∨ sc.names.lookup x = some .free)
  | [], [], i, x, v, _, h, _ => by simp at h
  | none :: r, y :: N, 0, x, v, h, h1, h2 => by simp [blockSt] at h2
  | none :: r, y :: N, i + 1, x, v, h, h1, h2 => FrOk.at (fr := r) (N := N) (i := i) h (by simpa using h1) (by simpa [blockSt] using h2)
  | some j :: r, y :: N, 0, x, v, h, h1, h2 => by
    have e : y = x := by simpa using h1
    subst e
    refine ⟨j, h.1.1, ?_, h.1.2.1, h.1.2.2⟩
    simp only [blockSt, List.map_cons, List.getElem?_cons_zero, Option.bind_some, Option.some.injEq] at h2
    cases e2 : σ[j]? with
    | none => rw [e2] at h2; simp at h2
    | some o => rw [e2] at h2; simp at h2; rw [h2]
  | some j :: r, y :: N, i + 1, x, v, h, h1, h2 => FrOk.at (fr := r) (N := N) (i := i) h.2 (by simpa using h1) (by simpa [blockSt] using h2)
  | [], _ :: _, _, _, _, h, _, _ => h.elim
  | none :: _, [], _, _, _, h, _, _ => h.elim
  | some _ :: _, [], _, _, _, h, _, _ => h.elim
/-- the tests of a clause -/
def PIfs (X : Cx) (ifs : List Expr) (t : TT) : Prop :=
  ∀ (pins : List (Addr × Obj)) (s : Shared) (σ : St) (H : Hp) (Q : Bool → Hp → Prop), Inv X pins σ H s → t σ H Q →
    wpAny (model X.prog X.w) X.A (forIn ifs true fun c r => if r = true then do let ok ← isTrue c X.env (eval c X.env); pure (ForInStep.yield ok) else pure (ForInStep.yield r)) (TP X pins σ Q) X.xe s
def tYes : TT := fun _ H Q => Q true H
theorem pifs_nil {X : Cx} : PIfs X [] tYes := fun _ _ _ H _ I h => wpAny_tests_nil ⟨H, I, h⟩
theorem pifs_one {X : Cx} {c : Expr} {t : TT} (h : PT X c t) : PIfs X [c] t := fun pins s σ H Q I q => wpAny_tests_one (h pins s σ H Q I q)
/-- W: turn, measure, the items so far, the block's names, the heap -/
def tComp (fr : List (Option Nat)) (wi : TI) (g : TG) (tt : TT) (te : TE) : TE := fun σ H Q => wi σ H fun J H1 => ∃ W : Nat → Nat → List V → St → Hp → Prop, (∃ m, W 0 m [] (blockSt fr σ) H1) ∧ ∀ i m ys τ H, W i m ys τ H →
  ys.length < sizeLine ∧ ((J.stop i H ∧ ∀ p, H p = none → Q (.ref p) (upd H p (.lst ys))) ∨
    (J.go i H ∧ ∃ N : List V → St → Hp → Prop, (∀ zs τ' H', N zs τ' H' → ∃ m', m' < m ∧ W (i + 1) m' zs τ' H') ∧
      ∀ x H', J.yld i H x H' → g x τ H' fun τ2 H2 => tt τ2 H2 fun b H3 => if b = true then te τ2 H3 fun v H4 => N (ys ++ [v]) τ2 H4 else N ys τ2 H3))
section
variable {X : Cx} {pins : List (Addr × Obj)} {σ : St} {H : Hp} {s : Shared}
structure BlockOk (X : Cx) (sc : Scope) (cl : List (Str × Addr)) : Prop where
  kind : sc.kind = .function
  cell : ∀ y ∈ sc.names, y.2 ≠ .cell
  names : ∀ y ∈ sc.names, y.2 = .local → sc.names.lookup y.1 = some .local
  sub : ∀ x c, cl.lookup x = some c → X.env.cells.lookup x = some c
  has : ∀ x, ((relabel sc X.env).names.lookup x = some .cell ∨ (relabel sc X.env).names.lookup x = some .free) → ∃ c, cl.lookup x = some c
theorem block_ok {sc : Scope} {cl : List (Str × Addr)} {N : List Str} {C : Addr} {fp : List Addr} (B : BlockOk X sc cl) (I : Inv X pins σ H s) (hfp : ∀ b ∈ fp, FpOk X pins H b) (hlt : ∀ b ∈ fp, b < s.heap.objs.size) (hC : s.heap.objs.size ≤ C) :
    (X.block sc cl N C s H fp pins).Ok where
  mod := I.ok.mod
  kind := B.kind
  glob := I.ok.glob
  blt := I.ok.blt
  above := hC
  inj := fun x y c h1 h2 => I.ok.inj x y c (B.sub x c h1) (B.sub y c h2)
  has := fun x h => B.has x h
  cab := fun _ _ h _ => by cases h
  hd := I.ok.hd
  frames := I.ok.frames
  stk := .inl rfl
  exf := fun b hb => ⟨fun z => adr_ne (hlt b hb) hC z, fun x c h => (hfp b hb).2.2.2.2.1 x c (B.sub x c h)⟩
  bs := fun b o e => I.bs b o e
  bsz := Nat.le_trans I.ok.bsz I.sz
  noex := fun b o e hb => by
    rcases (hfp b hb).2.2.2.1 with z | z
    · exact I.ok.noex b o e z
    · exact absurd (Nat.lt_of_lt_of_le (Heap.lt_size e) (Nat.le_trans I.ok.bsz z)) (Nat.lt_irrefl _)
  exfs := fun b hb z => by
    rcases List.mem_cons.mp (I.stkSub b z) with q | q
    · exact (hfp b hb).2.1 q
    · exact (hfp b hb).2.2.1 q
  funs := I.stack
  frf := I.stkFree
/-- behind the block -/
theorem block_end {sc : Scope} {cl : List (Str × Addr)} {N : List Str} {C D : Addr} {fp : List Addr} {s2 s3 : Shared} {H1 H2 : Hp} {τ : St} {qs : List (Addr × Obj)} {h' : Heap} {its : List Value} {ys : List V} {n : Nat} (I : Inv X pins σ H1 s2) (hfp : ∀ b ∈ fp, FpOk X pins H1 b)
    (J : Inv (X.block sc cl N C s2 H1 fp pins) qs τ H2 s3) (hD : s2.heap.objs.size ≤ D) (hDC : D ≠ C) (hCn : s2.heap.objs.size ≤ C) (eD : s3.heap.get? D = some { cls := .type "list", data := .seq its.toArray n }) (nD : H2 D = none) (r : Vals ys its) (hz : ys.length ≤ sizeLine)
    (hs : Heap.SameBut C s3.heap h') : Inv X pins σ (upd H2 D (.lst ys)) { s3 with heap := h' } := by
  have U : Un (frs X.stack) fp H1 H2 s2.heap s3.heap := J.base
  have nC : H2 C = none := J.free
  have olt : ∀ {b : Addr} {o : Obj}, s2.heap.get? b = some o → b ≠ C ∧ b ≠ D := fun e => ⟨adr_ne (Heap.lt_size e) hCn, adr_ne (Heap.lt_size e) hD⟩
  have U2 : Un (frs X.stack) fp H1 (upd H2 D (.lst ys)) s2.heap h' := by
    refine ⟨fun b o e nb hb hx => ?_, fun b o e nb hb hx => ?_, fun b o e nb hx => ?_, fun b o e hx => ?_, fun b xs e => ?_, fun b o xs e => ?_, fun b ps e => ?_⟩
    · exact hs.extBut b o (olt e).1 (U.keep b o e nb hb hx)
    · obtain ⟨sl, e1⟩ := U.slot b o e nb hb hx
      exact ⟨sl, hs.extBut b _ (olt e).1 e1⟩
    · rw [upd_ne (olt e).2]; exact U.free b o e nb hx
    · obtain ⟨o', e1⟩ := U.there b o e hx
      exact ⟨o', hs.extBut b _ (olt e).1 e1⟩
    · rw [upd_ne (ne_of_none (U.tups b xs e) nD)]; exact U.tups b xs e
    · rw [upd_ne (ne_of_none (U.frzs b o xs e) nD)]; exact U.frzs b o xs e
    · obtain ⟨mo, e1⟩ := U.tbls b ps e
      exact ⟨mo, by rw [upd_ne (ne_of_none e1 nD)]; exact e1⟩
  have hok : HOk X.prog X.w (upd H2 D (.lst ys)) h' := fun b u e => by
    by_cases hb : b = D
    · subst hb
      rw [upd_same] at e; cases e
      exact ⟨hz, its, n, r, hs.extBut _ _ hDC eD⟩
    · rw [upd_ne hb] at e
      refine (J.hok b u e).stay (fun c v hc q => hs.extBut c v (fun z => ?_) q) (fun c q => by rw [upd_ne (ne_of_none q nD)]; exact q) fun c xs q => by rw [upd_ne (ne_of_none q nD)]; exact q
      subst z
      rcases hc with z | z
      · rw [← z, nC] at e; cases e
      · rw [nC] at z; cases z
  exact I.call' (s' := { s3 with heap := h' }) (ch := fp) J.os U2 hok J.bare fun b hb => ⟨(hfp b hb).2.2.2.1, (hfp b hb).2.1, (hfp b hb).2.2.2.2.1, (hfp b hb).2.2.2.2.2⟩
theorem pe_comp {tg iter elt : Expr} {ifs : List Expr} {sc : Scope} {pos : Pos} {wi : TI} {g : TG} {tt : TT} {te : TE} {cl : List (Str × Addr)} {N : List Str} {fr : List (Option Nat)} (hc : X.calm = true) (B : BlockOk X sc cl) (hclos : closureFor sc X.env = pure cl) (hfr : FrOk X (relabel sc X.env) fr N)
    (hi : PI X tg iter wi) (hg : ∀ C s₀ H₀ fp ps, PG (X.block sc cl N C s₀ H₀ fp ps) tg g) (ht : ∀ C s₀ H₀ fp ps, PIfs (X.block sc cl N C s₀ H₀ fp ps) ifs tt) (he : ∀ C s₀ H₀ fp ps, PE (X.block sc cl N C s₀ H₀ fp ps) elt te)
    (hs : ∀ x, foldedSetIterable iter X.env x = pure x := by intro _; rfl) : PE X (.ListComp elt [⟨tg, iter, ifs, 0⟩] sc pos) (tComp fr wi g tt te) := by
  intro pins s σ H Q I h
  rw [eval_ListComp]
  refine wpAny_comprehension_free (use := none) rfl hs hclos B.kind B.names (thn (hi pins s σ H _ I h) fun xv s1 h1 => thn h1 fun itv s2 h2 => ?_)
  obtain ⟨it, fp, tn, J, H1, rfl, I2, TN, t0, hfp, W, ⟨m0, hW0⟩, hstep⟩ := h2
  refine wpAny_newObj_type (wpAny_newFunctionEnv B.cell (by intro y hy; simp at hy) (fun h₁ hns₁ hsb₁ => ?_) B.kind)
  dsimp only at hns₁ hsb₁ ⊢
  generalize hHL : s2.heap.push { cls := .type "list", dict := none, data := .seq ([] : List Value).toArray } = HL at hns₁ hsb₁ ⊢
  have hCs : HL.objs.size = s2.heap.objs.size + 1 := by rw [← hHL, Heap.size_push]
  have hDC : s2.heap.objs.size ≠ HL.objs.size := by omega
  have old : ∀ b o, s2.heap.get? b = some o → h₁.get? b = some o := fun b o e => by
    exact hsb₁.extBut b o (adr_ne (Heap.lt_size e) (by omega)) (Heap.get?_push_of_some _ (hHL ▸ Heap.get?_push_of_some _ e))
  have hacc : h₁.get? s2.heap.objs.size = some { cls := .type "list", data := .seq ([] : List Value).toArray } := hsb₁.extBut _ _ hDC (Heap.get?_push_of_some _ (hHL ▸ Heap.get?_push_size _ rfl))
  have hlt : ∀ b ∈ fp, b < s2.heap.objs.size := fun b hb => by
    obtain ⟨o, e, _⟩ := TN.obj _ _ t0 b hb
    exact Heap.lt_size e
  have ok : (X.block sc cl N HL.objs.size s2 H1 fp pins).Ok := block_ok B I2 hfp hlt (by omega)
  have nD : H1 s2.heap.objs.size = none := I2.hok.fresh (Nat.le_refl _)
  have nC : H1 HL.objs.size = none := I2.hok.fresh (by omega)
  have I3 : Inv (X.block sc cl N HL.objs.size s2 H1 fp pins) [(s2.heap.objs.size, { cls := .type "list", data := .seq ([] : List Value).toArray })] (blockSt fr σ) H1 { s2 with heap := h₁, toks := s2.toks + ([] : List (Str × Value)).length } := by
    refine ⟨ok, rfl, I2.bare, Un.kept old, ⟨_, hns₁, fun i x v e1 e2 e3 => ?_⟩, fun x c e => ?_, nC, fun x c e => ?_, fun p hp => ?_, I2.hok.kept old, ?_⟩
    · obtain ⟨j, j1, j2, j3, j4⟩ := hfr.at e1 e2
      obtain ⟨m, hn, hl⟩ := I2.loc
      obtain ⟨u, ru, lk⟩ := hl j x v j1 j2 (.inr (.inl j3))
      refine ⟨u, ru, ?_⟩
      obtain ⟨c, hcl⟩ := B.has x j4
      rcases lk with ⟨k1, _⟩ | ⟨_, c', hc', z⟩
      · have : X.env.kindOf x = some .cell := j3
        rw [this] at k1; cases k1
      · have q := B.sub x c hcl
        rw [hc'] at q; cases q
        obtain ⟨oc, hoc, hd⟩ := z
        exact .inr ⟨j4.elim .inl .inr, c, hcl, oc, old _ _ hoc, hd⟩
    · obtain ⟨v, oc, hoc, hd⟩ := I2.cell x c (B.sub x c e)
      exact ⟨v, oc, old _ _ hoc, hd⟩
    · exact I2.freeC x c (B.sub x c e)
    · rcases List.mem_append.mp hp with z | z
      · obtain ⟨p1, p2, p3, p4, p5⟩ := I2.pin p z
        refine ⟨old _ _ p1, p2, fun y => ?_, fun y => ?_, p5⟩
        · exact adr_ne (Heap.lt_size p1) (show s2.heap.objs.size ≤ HL.objs.size by omega) y
        · rcases List.mem_cons.mp (I2.stkSub p.1 y) with q | q
          · exact p3 q
          · exact p4 q
      · have e : p = (s2.heap.objs.size, { cls := .type "list", data := .seq ([] : List Value).toArray }) := by simpa using z
        subst e
        refine ⟨hacc, nD, hDC, fun y => ?_, fun v z => by cases z⟩
        obtain ⟨_, o, ho, _⟩ := I2.stack.mem y
        exact absurd (Heap.lt_size ho) (Nat.lt_irrefl _)
    · show (blockSt fr σ).length = N.length
      rw [← hfr.len]; simp [blockSt]
  have t1 : tn 0 h₁ := TN.keep _ _ _ t0 fun b _ o e => old b o e
  have stat : ∀ {qs : List (Addr × Obj)} {H' : Hp}, (∀ b ∈ fp, H' b = none) → (∀ p ∈ qs, p.1 ∉ fp) → ∀ b ∈ fp, FpOk (X.block sc cl N HL.objs.size s2 H1 fp pins) qs H' b := fun {qs H'} hn hq b hb => by
    refine ⟨hn b hb, fun z => ?_, fun z => ?_, .inl hb, fun x c e => (hfp b hb).2.2.2.2.1 x c (B.sub x c e), fun p hp z => ?_⟩
    · exact adr_ne (hlt b hb) (show s2.heap.objs.size ≤ HL.objs.size by omega) z
    · exact ok.exfs b hb z
    · rcases List.mem_append.mp hp with y | y
      · exact (hfp b hb).2.2.2.2.2 p y z
      · exact hq p y (z ▸ hb)
  have offD : ∀ (o : Obj), ∀ p ∈ [(s2.heap.objs.size, o)], p.1 ∉ fp := fun o p hp z => by
    have e : p = (s2.heap.objs.size, o) := by simpa using hp
    subst e
    exact absurd (hlt _ z) (Nat.lt_irrefl _)
  have loop : codeAny (model X.prog X.w) X.A (.compLoop (.ListComp elt [⟨tg, iter, ifs, 0⟩] sc pos) 0 (.ref it) (.ref s2.heap.objs.size) (compEnvC sc cl HL.objs.size X.env))
      (compPost (model X.prog X.w) X.A X.xe none (EP X pins σ Q) (.ref s2.heap.objs.size) HL.objs.size) { s2 with heap := h₁, toks := s2.toks + ([] : List (Str × Value)).length } := by
    refine comp_loop (fun k st => ∃ i ys its τ H' n, Inv (X.block sc cl N HL.objs.size s2 H1 fp pins) [(s2.heap.objs.size, { cls := .type "list", data := .seq (its : List Value).toArray n })] τ H' st ∧ Vals ys its ∧ tn i st.heap ∧ (∀ b ∈ fp, H' b = none) ∧ W i k ys τ H') ?_ m0
      ⟨0, [], [], _, _, 0, I3, .nil, t1, fun b hb => (hfp b hb).1, hW0⟩
    rintro k s3 ⟨i, ys, its, τ, H3, n, J3, r3, t3, f3, w3⟩
    obtain ⟨hz, hcase⟩ := hstep i k ys τ H3 w3
    rcases hcase with ⟨stop, fin⟩ | ⟨go, N', hN, yld⟩
    · refine thn (TN.done (X.block sc cl N HL.objs.size s2 H1 fp pins) rfl rfl rfl hc i _ s3 τ H3 _ J3 (stat f3 (offD _)) t3 stop) fun r s4 q => ?_
      obtain ⟨rfl, J4⟩ := q
      have pD := J4.pin (s2.heap.objs.size, { cls := .type "list", data := .seq its.toArray n }) (List.mem_append_right _ (List.mem_singleton.mpr rfl))
      obtain ⟨m, hn, _⟩ := J4.loc
      refine ⟨m, hn, fun h' hsb => ?_⟩
      exact ⟨.ref s2.heap.objs.size, _, block_end I2 hfp J4 (Nat.le_refl _) hDC (by omega) pD.1 pD.2.1 r3 (Nat.le_of_lt hz) hsb, rfl, fin _ pD.2.1⟩
    · refine thn (TN.item (X.block sc cl N HL.objs.size s2 H1 fp pins) rfl rfl rfl hc i _ s3 τ H3 _ J3 (stat f3 (offD _)) t3 go) fun r s4 q => ?_
      obtain ⟨u, rfl, h4⟩ := q
      refine thn h4 fun _ s5 q => ?_
      obtain ⟨x, H5, J5, r5, y5, t5, f5⟩ := q
      have J5' := J5.pinned (stat f5 (offD _)) (TN.obj _ _ t5)
      have keepT : ∀ {τ' : St} {H' : Hp} {s' : Shared}, Inv (X.block sc cl N HL.objs.size s2 H1 fp pins) ([(s2.heap.objs.size, { cls := .type "list", data := .seq its.toArray n })] ++ pinsAt fp s5.heap) τ' H' s' → tn (i + 1) s'.heap ∧ ∀ b ∈ fp, H' b = none := fun J => by
        refine ⟨TN.keep _ _ _ t5 fun b hb o e => (J.pin (b, o) (List.mem_append_right _ (List.mem_append_right _ (mem_pinsAt hb e)))).1, fun b hb => ?_⟩
        obtain ⟨o, e, _⟩ := TN.obj _ _ t5 b hb
        exact (J.pin (b, o) (List.mem_append_right _ (List.mem_append_right _ (mem_pinsAt hb e)))).2.1
      refine thn (hg _ _ _ _ _ _ s5 τ H5 x u _ J5' r5 (yld x H5 y5)) fun _ s6 q => ?_
      obtain ⟨τ6, H6, J6, q6⟩ := q
      refine thn (ht _ _ _ _ _ _ s6 τ6 H6 _ J6 q6) fun ok7 s7 q => ?_
      obtain ⟨H7, J7, q7⟩ := q
      cases ok7 with
      | false =>
        obtain ⟨m', hm, w7⟩ := hN _ _ _ q7
        obtain ⟨a1, a2⟩ := keepT J7
        exact ⟨m', hm, i + 1, ys, its, τ6, H7, n, J7.unpinned, r3, a1, a2, w7⟩
      | true =>
        refine thn (he _ _ _ _ _ _ s7 τ6 H7 _ J7 q7) fun y s8 q => ?_
        obtain ⟨v8, H8, J8, r8, q8⟩ := q
        have pD := J8.pin (s2.heap.objs.size, { cls := .type "list", data := .seq its.toArray n }) (List.mem_append_right _ (List.mem_append_left _ (List.mem_singleton.mpr rfl)))
        have hl3 := r3.length
        refine call_meets F.slot_list_append ⟨_, pD.1, rfl⟩ F.entry_list_append (F.args_list_append_2 _ _) (PySem.list_append s2.heap.objs.size its.toArray n y (by rw [List.size_toArray]; omega)) ⟨pD.1, ?_⟩
        obtain ⟨m', hm, w8⟩ := hN _ _ _ q8
        obtain ⟨a1, a2⟩ := keepT J8
        have upD := PySem.IsL.update pD.1 (fun a => a.push y)
        have eP : its.toArray.push y = (its ++ [y]).toArray := by simp
        rw [eP] at upD
        obtain ⟨n2, upD⟩ : ∃ n2, (s8.heap.update s2.heap.objs.size (Obj.mapSeq fun a => a.push y)).get? s2.heap.objs.size = some { cls := .type "list", data := .seq (its ++ [y]).toArray n2 } := ⟨_, upD⟩
        have oth : ∀ b o, b ≠ s2.heap.objs.size → s8.heap.get? b = some o → (s8.heap.update s2.heap.objs.size (Obj.mapSeq fun a => a.push y)).get? b = some o := fun b o hb e => (Heap.get?_update_other s8.heap _ (Ne.symm hb)).trans e
        have J9 : Inv (X.block sc cl N HL.objs.size s2 H1 fp pins) [] τ6 H8 s8 := J8.pins_of fun p hp => nomatch hp
        have J10 : Inv (X.block sc cl N HL.objs.size s2 H1 fp pins) [] τ6 H8 { s8 with heap := s8.heap.update s2.heap.objs.size (Obj.mapSeq fun a => a.push y) } := by
          refine J9.turned oth pD.2.1 hDC (.inr (Nat.le_refl _)) (fun x c e z => ?_) fun p hp z => ?_
          · obtain ⟨_, oc, hoc, _⟩ := I2.cell x c (B.sub x c e)
            exact adr_ne (Heap.lt_size hoc) (Nat.le_refl _) z
          · have hp' : p ∈ X.pn ++ pins := by simpa using hp
            exact adr_ne (Heap.lt_size (I2.pin p hp').1) (Nat.le_refl _) z
        refine ⟨m', hm, i + 1, ys ++ [v8], its ++ [y], τ6, H8, n2, J10.pins_of fun p hp => ?_, r3.append (.cons r8 .nil), TN.keep _ _ _ a1 fun b hb o e => oth b o (fun z => ?_) e, a2, w8⟩
        · have ep := List.mem_singleton.mp hp
          subst ep
          exact ⟨upD, pD.2.1, hDC, pD.2.2.2.1, fun v z => by cases z⟩
        · exact adr_ne (hlt b hb) (Nat.le_refl _) z
  exact codeAny_compStart_list loop (TN.self _ _ _ _ _ t1 loop)
end
end L2
namespace L2
open PySem PySem.Spec PyProof.Rows
/-- the block's names as the frame's scope turns them -/
def relS (sc es : Scope) : List (Str × NameKind) := sc.names.map fun (n, k) => if (k == .free && es.kind == .function && es.names.lookup n == some .cell) then (n, .cell) else (n, k)
theorem mem_lookup {κ : Type} [BEq κ] [LawfulBEq κ] {α : Type} : ∀ {l : List (κ × α)} {x : κ} {a : α}, l.lookup x = some a → (x, a) ∈ l
  | [], _, _, h => by simp at h
  | (y, b) :: r, x, a, h => by
    rw [List.lookup_cons] at h
    cases q : x == y with
    | true =>
      rw [q] at h
      have e : b = a := Option.some.inj h
      have e2 : x = y := eq_of_beq q
      subst e e2
      exact List.mem_cons_self
    | false => rw [q] at h; exact List.mem_cons_of_mem _ (mem_lookup h)
theorem block_one {X : Cx} {sc : Scope} {x0 : Str} {c0 : Addr} (k : sc.kind = .function) (h1 : ∀ y ∈ sc.names, y.2 ≠ .cell) (h2 : ∀ y ∈ sc.names, y.2 = .local → sc.names.lookup y.1 = some .local)
    (hm : ∀ p ∈ relS sc X.env.scope, (p.2 = .cell ∨ p.2 = .free) → p.1 = x0) (hc : X.env.cells.lookup x0 = some c0) : BlockOk X sc [(x0, c0)] where
  kind := k
  cell := h1
  names := h2
  sub := fun x c h => by
    have := mem_lookup h
    have e := List.mem_singleton.mp this
    cases e
    exact hc
  has := fun x h => by
    have e : x = x0 := by
      rcases h with h | h
      · exact hm _ (mem_lookup h) (.inl rfl)
      · exact hm _ (mem_lookup h) (.inr rfl)
    subst e
    exact ⟨c0, by simp⟩
theorem block_none {X : Cx} {sc : Scope} (k : sc.kind = .function) (h1 : ∀ y ∈ sc.names, y.2 ≠ .cell) (h2 : ∀ y ∈ sc.names, y.2 = .local → sc.names.lookup y.1 = some .local) (hm : ∀ p ∈ relS sc X.env.scope, ¬ (p.2 = .cell ∨ p.2 = .free)) : BlockOk X sc [] where
  kind := k
  cell := h1
  names := h2
  sub := fun x c h => by simp at h
  has := fun x h => by
    rcases h with h | h
    · exact absurd (Or.inl rfl) (hm _ (mem_lookup h))
    · exact absurd (Or.inr rfl) (hm _ (mem_lookup h))
/-- n turns -/
theorem comp_on {J : It} {g : TG} {tt : TT} {te : TE} {Q : VK} {τ0 : St} {H1 : Hp} (n : Nat) (hn : n < 1000) (Pv : Nat → List V → St → Hp → Prop) (h0 : Pv 0 [] τ0 H1) (hz : ∀ i ys τ H, Pv i ys τ H → ys.length ≤ i)
    (go : ∀ i ys τ H, i < n → Pv i ys τ H → J.go i H ∧ ∀ x H', J.yld i H x H' → g x τ H' fun τ2 H2 => tt τ2 H2 fun b H3 => if b = true then te τ2 H3 fun v H4 => Pv (i + 1) (ys ++ [v]) τ2 H4 else Pv (i + 1) ys τ2 H3)
    (stop : ∀ ys τ H, Pv n ys τ H → J.stop n H ∧ ∀ p, H p = none → Q (.ref p) (upd H p (.lst ys))) :
    ∃ W : Nat → Nat → List V → St → Hp → Prop, (∃ m, W 0 m [] τ0 H1) ∧ ∀ i m ys τ H, W i m ys τ H →
      ys.length < sizeLine ∧ ((J.stop i H ∧ ∀ p, H p = none → Q (.ref p) (upd H p (.lst ys))) ∨
        (J.go i H ∧ ∃ N : List V → St → Hp → Prop, (∀ zs τ' H', N zs τ' H' → ∃ m', m' < m ∧ W (i + 1) m' zs τ' H') ∧
          ∀ x H', J.yld i H x H' → g x τ H' fun τ2 H2 => tt τ2 H2 fun b H3 => if b = true then te τ2 H3 fun v H4 => N (ys ++ [v]) τ2 H4 else N ys τ2 H3)) := by
  have line : sizeLine = 16777216 := sizeLine_eq
  refine ⟨fun i m ys τ H => Pv i ys τ H ∧ i ≤ n ∧ m = n - i, ⟨n, h0, Nat.zero_le _, rfl⟩, ?_⟩
  rintro i m ys τ H ⟨hp, hi, rfl⟩
  have := hz i ys τ H hp
  refine ⟨by omega, ?_⟩
  by_cases hin : i < n
  · obtain ⟨g1, g2⟩ := go i ys τ H hin hp
    exact .inr ⟨g1, fun zs τ' H' => Pv (i + 1) zs τ' H', fun zs τ' H' z => ⟨n - (i + 1), by omega, z, by omega, rfl⟩, g2⟩
  · have e : i = n := by omega
    subst e
    exact .inl (stop ys τ H hp)
end L2
set_option Elab.async false
set_option linter.all false
set_option maxRecDepth 100000
set_option maxHeartbeats 4000000
namespace L2
open PySem PySem.Spec PyProof.Rows
/-! ### a comprehension kept under a local name -/
section
variable {X : Cx} {pins : List (Addr × Obj)} {σ : St} {H : Hp} {s : Shared}
theorem ps_comp {i0 : Nat} {y : Str} {py spos : Pos} {tg iter elt : Expr} {ifs : List Expr} {sc : Scope} {pos : Pos} {wi : TI} {g : TG} {tt : TT} {te : TE} {cl : List (Str × Addr)} {N : List Str} {fr : List (Option Nat)} (hc : X.calm = true) (B : BlockOk X sc cl) (hclos : closureFor sc X.env = pure cl) (hfr : FrOk X (relabel sc X.env) fr N)
    (hi : PI X tg iter wi) (hg : ∀ C s₀ H₀ fp ps, PG (X.block sc cl N C s₀ H₀ fp ps) tg g) (ht : ∀ C s₀ H₀ fp ps, PIfs (X.block sc cl N C s₀ H₀ fp ps) ifs tt) (he : ∀ C s₀ H₀ fp ps, PE (X.block sc cl N C s₀ H₀ fp ps) elt te)
    (hN : X.N.Nodup) (hi0 : X.N[i0]? = some y) (hy : X.env.scope.names.lookup y = some .local) (hsw : swapsWith (.ListComp elt [⟨tg, iter, ifs, 0⟩] sc pos) (some (.Name y py)) spos.line X.env = pure true := by rfl)
    (hs : ∀ x, foldedSetIterable iter X.env x = pure x := by intro _; rfl) : PS X (.Assign [.Name y py] (.ListComp elt [⟨tg, iter, ifs, 0⟩] sc pos) spos) (tAsg (tComp fr wi g tt te) (gName i0)) := by
  intro pins s σ H D0 I h
  rw [exec_Assign_Name_used _ _ _ _ hsw]
  refine wpAny_bind (wpAny_standAt (wpAny_bind ?_))
  show wpAny _ X.A (do let _ ← comprehension (.ListComp elt [⟨tg, iter, ifs, 0⟩] sc pos) sc X.env _ (newList []) false (eval iter X.env) (some (assign (.Name y py) X.env))) _ _ s
  refine wpAny_bind (wpAny_mono (wpAny_comprehension_free (use := some (assign (.Name y py) X.env)) (Q := fun _ s' => SP X pins D0 .next s') rfl hs hclos B.kind B.names
    (thn (hi pins s σ H _ I h) fun xv s1 h1 => thn h1 fun itv s2 h2 => ?_)) (fun _ s' hq => wpAny_pure (wpAny_pure hq)) fun _ _ e => e)
  obtain ⟨it, fp, tn, J, H1, rfl, I2, TN, t0, hfp, W, ⟨m0, hW0⟩, hstep⟩ := h2
  refine wpAny_newObj_type (wpAny_newFunctionEnv B.cell (by intro y hy; simp at hy) (fun h₁ hns₁ hsb₁ => ?_) B.kind)
  dsimp only at hns₁ hsb₁ ⊢
  generalize hHL : s2.heap.push { cls := .type "list", dict := none, data := .seq ([] : List Value).toArray } = HL at hns₁ hsb₁ ⊢
  have hCs : HL.objs.size = s2.heap.objs.size + 1 := by rw [← hHL, Heap.size_push]
  have hDC : s2.heap.objs.size ≠ HL.objs.size := by omega
  have old : ∀ b o, s2.heap.get? b = some o → h₁.get? b = some o := fun b o e => by
    exact hsb₁.extBut b o (adr_ne (Heap.lt_size e) (by omega)) (Heap.get?_push_of_some _ (hHL ▸ Heap.get?_push_of_some _ e))
  have hacc : h₁.get? s2.heap.objs.size = some { cls := .type "list", data := .seq ([] : List Value).toArray } := hsb₁.extBut _ _ hDC (Heap.get?_push_of_some _ (hHL ▸ Heap.get?_push_size _ rfl))
  have hlt : ∀ b ∈ fp, b < s2.heap.objs.size := fun b hb => by
    obtain ⟨o, e, _⟩ := TN.obj _ _ t0 b hb
    exact Heap.lt_size e
  have ok : (X.block sc cl N HL.objs.size s2 H1 fp pins).Ok := block_ok B I2 hfp hlt (by omega)
  have nD : H1 s2.heap.objs.size = none := I2.hok.fresh (Nat.le_refl _)
  have nC : H1 HL.objs.size = none := I2.hok.fresh (by omega)
  have I3 : Inv (X.block sc cl N HL.objs.size s2 H1 fp pins) [(s2.heap.objs.size, { cls := .type "list", data := .seq ([] : List Value).toArray })] (blockSt fr σ) H1 { s2 with heap := h₁, toks := s2.toks + ([] : List (Str × Value)).length } := by
    refine ⟨ok, rfl, I2.bare, Un.kept old, ⟨_, hns₁, fun i x v e1 e2 e3 => ?_⟩, fun x c e => ?_, nC, fun x c e => ?_, fun p hp => ?_, I2.hok.kept old, ?_⟩
    · obtain ⟨j, j1, j2, j3, j4⟩ := hfr.at e1 e2
      obtain ⟨m, hn, hl⟩ := I2.loc
      obtain ⟨u, ru, lk⟩ := hl j x v j1 j2 (.inr (.inl j3))
      refine ⟨u, ru, ?_⟩
      obtain ⟨c, hcl⟩ := B.has x j4
      rcases lk with ⟨k1, _⟩ | ⟨_, c', hc', z⟩
      · have : X.env.kindOf x = some .cell := j3
        rw [this] at k1; cases k1
      · have q := B.sub x c hcl
        rw [hc'] at q; cases q
        obtain ⟨oc, hoc, hd⟩ := z
        exact .inr ⟨j4.elim .inl .inr, c, hcl, oc, old _ _ hoc, hd⟩
    · obtain ⟨v, oc, hoc, hd⟩ := I2.cell x c (B.sub x c e)
      exact ⟨v, oc, old _ _ hoc, hd⟩
    · exact I2.freeC x c (B.sub x c e)
    · rcases List.mem_append.mp hp with z | z
      · obtain ⟨p1, p2, p3, p4, p5⟩ := I2.pin p z
        refine ⟨old _ _ p1, p2, fun y => ?_, fun y => ?_, p5⟩
        · exact adr_ne (Heap.lt_size p1) (show s2.heap.objs.size ≤ HL.objs.size by omega) y
        · rcases List.mem_cons.mp (I2.stkSub p.1 y) with q | q
          · exact p3 q
          · exact p4 q
      · have e : p = (s2.heap.objs.size, { cls := .type "list", data := .seq ([] : List Value).toArray }) := by simpa using z
        subst e
        refine ⟨hacc, nD, hDC, fun y => ?_, fun v z => by cases z⟩
        obtain ⟨_, o, ho, _⟩ := I2.stack.mem y
        exact absurd (Heap.lt_size ho) (Nat.lt_irrefl _)
    · show (blockSt fr σ).length = N.length
      rw [← hfr.len]; simp [blockSt]
  have t1 : tn 0 h₁ := TN.keep _ _ _ t0 fun b _ o e => old b o e
  have stat : ∀ {qs : List (Addr × Obj)} {H' : Hp}, (∀ b ∈ fp, H' b = none) → (∀ p ∈ qs, p.1 ∉ fp) → ∀ b ∈ fp, FpOk (X.block sc cl N HL.objs.size s2 H1 fp pins) qs H' b := fun {qs H'} hn hq b hb => by
    refine ⟨hn b hb, fun z => ?_, fun z => ?_, .inl hb, fun x c e => (hfp b hb).2.2.2.2.1 x c (B.sub x c e), fun p hp z => ?_⟩
    · exact adr_ne (hlt b hb) (show s2.heap.objs.size ≤ HL.objs.size by omega) z
    · exact ok.exfs b hb z
    · rcases List.mem_append.mp hp with y | y
      · exact (hfp b hb).2.2.2.2.2 p y z
      · exact hq p y (z ▸ hb)
  have offD : ∀ (o : Obj), ∀ p ∈ [(s2.heap.objs.size, o)], p.1 ∉ fp := fun o p hp z => by
    have e : p = (s2.heap.objs.size, o) := by simpa using hp
    subst e
    exact absurd (hlt _ z) (Nat.lt_irrefl _)
  have loop : codeAny (model X.prog X.w) X.A (.compLoop (.ListComp elt [⟨tg, iter, ifs, 0⟩] sc pos) 0 (.ref it) (.ref s2.heap.objs.size) (compEnvC sc cl HL.objs.size X.env))
      (compPost (model X.prog X.w) X.A X.xe (some (assign (.Name y py) X.env)) (fun _ s' => SP X pins D0 .next s') (.ref s2.heap.objs.size) HL.objs.size) { s2 with heap := h₁, toks := s2.toks + ([] : List (Str × Value)).length } := by
    refine comp_loop (fun k st => ∃ i ys its τ H' n, Inv (X.block sc cl N HL.objs.size s2 H1 fp pins) [(s2.heap.objs.size, { cls := .type "list", data := .seq (its : List Value).toArray n })] τ H' st ∧ Vals ys its ∧ tn i st.heap ∧ (∀ b ∈ fp, H' b = none) ∧ W i k ys τ H') ?_ m0
      ⟨0, [], [], _, _, 0, I3, .nil, t1, fun b hb => (hfp b hb).1, hW0⟩
    rintro k s3 ⟨i, ys, its, τ, H3, n, J3, r3, t3, f3, w3⟩
    obtain ⟨hz, hcase⟩ := hstep i k ys τ H3 w3
    rcases hcase with ⟨stop, fin⟩ | ⟨go, N', hN, yld⟩
    · refine thn (TN.done (X.block sc cl N HL.objs.size s2 H1 fp pins) rfl rfl rfl hc i _ s3 τ H3 _ J3 (stat f3 (offD _)) t3 stop) fun r s4 q => ?_
      obtain ⟨rfl, J4⟩ := q
      have pD := J4.pin (s2.heap.objs.size, { cls := .type "list", data := .seq its.toArray n }) (List.mem_append_right _ (List.mem_singleton.mpr rfl))
      obtain ⟨m, hn, _⟩ := J4.loc
      have I5 := block_end I2 hfp J4 (Nat.le_refl _) hDC (by omega) pD.1 pD.2.1 r3 (Nat.le_of_lt hz) (Heap.SameBut.refl _ _)
      have hCf : FpOk X pins (upd H3 s2.heap.objs.size (.lst ys)) HL.objs.size := I2.fpOk (by omega) (by rw [upd_ne (Ne.symm hDC)]; exact J4.free)
      show wpAny _ X.A (assign (.Name y py) X.env (.ref s2.heap.objs.size)) _ _ _
      refine wpAny_assign_Name (store_ok2 (i := i0) (v := .ref s2.heap.objs.size) I5 hN hi0 (.inl hy) rfl (fun s5 I6 z => ?_) (.inr hy))
      obtain ⟨a, hsb, ha⟩ := z
      have hCa : HL.objs.size ≠ a := by
        rcases ha with e | e
        · rw [e]; exact hCf.2.1
        · exact Ne.symm (hCf.2.2.2.2.1 y a e)
      refine ⟨m, hn.sameBut hsb hCa, fun h' hs' => ?_⟩
      exact ⟨_, _, I6.turned (t' := s5.toks) (fun b o hb e => hs'.extBut b o hb e) hCf.1 hCf.2.1 hCf.2.2.2.1 hCf.2.2.2.2.1 hCf.2.2.2.2.2, fin _ pD.2.1⟩
    · refine thn (TN.item (X.block sc cl N HL.objs.size s2 H1 fp pins) rfl rfl rfl hc i _ s3 τ H3 _ J3 (stat f3 (offD _)) t3 go) fun r s4 q => ?_
      obtain ⟨u, rfl, h4⟩ := q
      refine thn h4 fun _ s5 q => ?_
      obtain ⟨x, H5, J5, r5, y5, t5, f5⟩ := q
      have J5' := J5.pinned (stat f5 (offD _)) (TN.obj _ _ t5)
      have keepT : ∀ {τ' : St} {H' : Hp} {s' : Shared}, Inv (X.block sc cl N HL.objs.size s2 H1 fp pins) ([(s2.heap.objs.size, { cls := .type "list", data := .seq its.toArray n })] ++ pinsAt fp s5.heap) τ' H' s' → tn (i + 1) s'.heap ∧ ∀ b ∈ fp, H' b = none := fun J => by
        refine ⟨TN.keep _ _ _ t5 fun b hb o e => (J.pin (b, o) (List.mem_append_right _ (List.mem_append_right _ (mem_pinsAt hb e)))).1, fun b hb => ?_⟩
        obtain ⟨o, e, _⟩ := TN.obj _ _ t5 b hb
        exact (J.pin (b, o) (List.mem_append_right _ (List.mem_append_right _ (mem_pinsAt hb e)))).2.1
      refine thn (hg _ _ _ _ _ _ s5 τ H5 x u _ J5' r5 (yld x H5 y5)) fun _ s6 q => ?_
      obtain ⟨τ6, H6, J6, q6⟩ := q
      refine thn (ht _ _ _ _ _ _ s6 τ6 H6 _ J6 q6) fun ok7 s7 q => ?_
      obtain ⟨H7, J7, q7⟩ := q
      cases ok7 with
      | false =>
        obtain ⟨m', hm, w7⟩ := hN _ _ _ q7
        obtain ⟨a1, a2⟩ := keepT J7
        exact ⟨m', hm, i + 1, ys, its, τ6, H7, n, J7.unpinned, r3, a1, a2, w7⟩
      | true =>
        refine thn (he _ _ _ _ _ _ s7 τ6 H7 _ J7 q7) fun y s8 q => ?_
        obtain ⟨v8, H8, J8, r8, q8⟩ := q
        have pD := J8.pin (s2.heap.objs.size, { cls := .type "list", data := .seq its.toArray n }) (List.mem_append_right _ (List.mem_append_left _ (List.mem_singleton.mpr rfl)))
        have hl3 := r3.length
        refine call_meets F.slot_list_append ⟨_, pD.1, rfl⟩ F.entry_list_append (F.args_list_append_2 _ _) (PySem.list_append s2.heap.objs.size its.toArray n y (by rw [List.size_toArray]; omega)) ⟨pD.1, ?_⟩
        obtain ⟨m', hm, w8⟩ := hN _ _ _ q8
        obtain ⟨a1, a2⟩ := keepT J8
        have upD := PySem.IsL.update pD.1 (fun a => a.push y)
        have eP : its.toArray.push y = (its ++ [y]).toArray := by simp
        rw [eP] at upD
        obtain ⟨n2, upD⟩ : ∃ n2, (s8.heap.update s2.heap.objs.size (Obj.mapSeq fun a => a.push y)).get? s2.heap.objs.size = some { cls := .type "list", data := .seq (its ++ [y]).toArray n2 } := ⟨_, upD⟩
        have oth : ∀ b o, b ≠ s2.heap.objs.size → s8.heap.get? b = some o → (s8.heap.update s2.heap.objs.size (Obj.mapSeq fun a => a.push y)).get? b = some o := fun b o hb e => (Heap.get?_update_other s8.heap _ (Ne.symm hb)).trans e
        have J9 : Inv (X.block sc cl N HL.objs.size s2 H1 fp pins) [] τ6 H8 s8 := J8.pins_of fun p hp => nomatch hp
        have J10 : Inv (X.block sc cl N HL.objs.size s2 H1 fp pins) [] τ6 H8 { s8 with heap := s8.heap.update s2.heap.objs.size (Obj.mapSeq fun a => a.push y) } := by
          refine J9.turned oth pD.2.1 hDC (.inr (Nat.le_refl _)) (fun x c e z => ?_) fun p hp z => ?_
          · obtain ⟨_, oc, hoc, _⟩ := I2.cell x c (B.sub x c e)
            exact adr_ne (Heap.lt_size hoc) (Nat.le_refl _) z
          · have hp' : p ∈ X.pn ++ pins := by simpa using hp
            exact adr_ne (Heap.lt_size (I2.pin p hp').1) (Nat.le_refl _) z
        refine ⟨m', hm, i + 1, ys ++ [v8], its ++ [y], τ6, H8, n2, J10.pins_of fun p hp => ?_, r3.append (.cons r8 .nil), TN.keep _ _ _ a1 fun b hb o e => oth b o (fun z => ?_) e, a2, w8⟩
        · have ep := List.mem_singleton.mp hp
          subst ep
          exact ⟨upD, pD.2.1, hDC, pD.2.2.2.1, fun v z => by cases z⟩
        · exact adr_ne (hlt b hb) (Nat.le_refl _) z
  exact codeAny_compStart_list loop (TN.self _ _ _ _ _ t1 loop)
end
end L2
set_option Elab.async false
set_option linter.all false
set_option maxRecDepth 100000
set_option maxHeartbeats 4000000
namespace L2
open PySem PySem.Spec PyProof.Rows
/-! ### xs.extend(t), t a tuple -/
section
variable {X : Cx}
end
/-! ### range(a, b, c) walked -/
def Itr3 (lo c : Int) (n : Nat) : It := ⟨fun i _ => i < n, fun i H x H' => H' = H ∧ x = .int (lo + i * c), fun i _ => n ≤ i⟩
theorem turn_range3 {P : Program} {w : World} {K : PySem.W.Frag} {tg : Expr} (it : Addr) (lo c : Int) (n : Nat) : Turn P w K tg (Itr3 lo c n) [it] it (fun i h => IsRangeIter h it (lo + (i : Nat) * c) ((n : Int) - (i : Nat)) c) where
  mem := by simp
  obj := fun i h st b hb => by
    have e : b = it := by simpa using hb
    subst e
    exact ⟨_, st, fun v z => by
      have z' : Data.fields _ = Data.cell v := z
      cases z'⟩
  keep := fun i h h' st k => k it (by simp) _ st
  item := by
    intro X hP hw hK hc i pins s σ H E I hf st hg
    subst hP hw hK
    obtain ⟨f0, f1, f2, f3, f4, f5⟩ := hf it (by simp)
    have W := Walks.range (prog := X.prog) (w := X.w) (I.ok.hd hc) it lo c n
    refine W.item i s _ _ hg st fun v h' tk hv st' kk => ?_
    obtain ⟨t, rfl⟩ := hv
    have I1 : Inv X pins σ H { s with heap := h', toks := tk } := I.turned (fun b o hb e => kk b o (by simpa using hb) e) f0 f1 f3 f4 f5
    exact ⟨_, rfl, go_of (s := { s with heap := h', toks := tk }) (n := "range_iterator") st' rfl rfl (by decide) ⟨.int (lo + i * c), H, I1, ⟨t, rfl⟩, ⟨rfl, rfl⟩, st', fun b hb => (hf b hb).1⟩⟩
  done := by
    intro X hP hw hK hc i pins s σ H E I hf st hg
    subst hP hw hK
    obtain ⟨f0, f1, f2, f3, f4, f5⟩ := hf it (by simp)
    exact wpAny_pyNext_range_end (I.ok.hd hc) st (by have : n ≤ i := hg; omega) fun h' eb => ⟨rfl, I.turned (t' := s.toks) (fun b o hb e => eb b o hb e) f0 f1 f3 f4 f5⟩
  self := fun _ _ _ _ _ st h => wpAny_pyIter_rangeiter st h
section
variable {X : Cx} {tg : Expr}
def iRng3 (ta : TA) : TI := fun σ H R => ta σ H fun vs H1 => ∃ (i j c : Int) (n : Nat), vs = [.int i, .int j, .int c] ∧ 0 < c ∧ (-(2 ^ 60) < j - i ∧ j - i < 2 ^ 60) ∧ Builtin.Range.small i j c = true ∧ Builtin.Range.rangeSize i j c = (n : Int) ∧ c < 1073741824 ∧ R (Itr3 i c n) H1
theorem pi_range3 {a b c : Expr} {ta : TA} {p pos : Pos} (hg : Gl X "range") (hm : X.mg "range" = none) (ha : PA X [a, b, c] ta) (hs : starEach [a, b, c] X.env = [(false, eval a X.env), (false, eval b X.env), (false, eval c X.env)] := by rfl) (hs2 : starEach [b, c] X.env = [(false, eval b X.env), (false, eval c X.env)] := by rfl) :
    PI X tg (.Call (.Name "range" p) [a, b, c] [] pos) (iRng3 ta) := by
  intro pins s σ H R I h
  refine Call_ (ld_blt I hg hm boot_range (PyProof.Rows.callWith_type1 (thn (ha pos pins s σ H _ I h) fun us s1 ⟨vs, H1, I1, r1, q1⟩ => ?_) (by rw [hs, hs2]) (by rw [hs2]; rfl)))
  obtain ⟨i, j, c', n, e, hc0, hij, hsm, hsz, hc1, q⟩ := q1
  subst e
  cases r1 with
  | cons r rr =>
    cases rr with
    | cons r' rr =>
      cases rr with
      | cons r'' rr =>
        cases rr
        obtain ⟨t, rfl⟩ := r
        obtain ⟨t', rfl⟩ := r'
        obtain ⟨t'', rfl⟩ := r''
        refine call_range_3 (by omega) ?_ (.inl (PyProof.noPylong_small (by omega)))
        refine wpAny_pyIter_range (IsRange.new ..) hsm ?_
        have I2 : Inv X pins σ H1 { s1 with heap := s1.heap.push { cls := .type "range", data := .fields #[.int i t, .int j t', .int c' t''] } } := I1.kept (t' := s1.toks) fun b o e => Heap.get?_push_of_some _ e
        refine ⟨(s1.heap.push { cls := .type "range", data := .fields #[.int i t, .int j t', .int c' t''] }).objs.size, [(s1.heap.push { cls := .type "range", data := .fields #[.int i t, .int j t', .int c' t''] }).objs.size], _, _, H1, rfl,
          I2.kept (t' := s1.toks) fun b o e => Heap.get?_push_of_some _ e, turn_range3 _ i c' n, ?_, fun b hb => ?_, q⟩
        · have e1 : i + ((0 : Nat) : Int) * c' = i := by simp
          have e2 : (n : Int) - ((0 : Nat) : Int) = Builtin.Range.rangeSize i j c' := by rw [hsz]; simp
          show IsRangeIter _ _ (i + ((0 : Nat) : Int) * c') ((n : Int) - ((0 : Nat) : Int)) c'
          rw [e1, e2]
          exact Heap.get?_push_size _ rfl
        · have e : b = (s1.heap.push { cls := .type "range", data := .fields #[.int i t, .int j t', .int c' t''] }).objs.size := by simpa using hb
          subst e
          exact I2.fpOk (Nat.le_refl _) (I2.hok.fresh (Nat.le_refl _))
theorem small_two {n : Nat} (h : n < 1000000) : Builtin.Range.small 0 (n : Int) 2 = true ∧ Builtin.Range.rangeSize 0 (n : Int) 2 = (((n + 1) / 2 : Nat) : Int) := by
  have e : Builtin.Range.rangeSize 0 (n : Int) 2 = (((n + 1) / 2 : Nat) : Int) := by
    unfold Builtin.Range.rangeSize
    simp only [show (2 : Int) > 0 by decide, if_true]
    split <;> omega
  refine ⟨?_, e⟩
  unfold Builtin.Range.small
  rw [e]
  have k : ∀ i : Int, 0 ≤ i → i < 2000000 → Builtin.Range.rangeFitsLong i = true := fun i h0 h1 => by
    unfold Builtin.Range.rangeFitsLong
    rw [Bool.and_eq_true]
    exact ⟨decide_eq_true (by omega), decide_eq_true (by omega)⟩
  rw [k 0 (by omega) (by omega), k (n : Int) (by omega) (by omega), k 2 (by omega) (by omega), k (((n + 1) / 2 : Nat) : Int) (by omega) (by omega), if_pos (by decide), k ((n : Int) + (2 - 1)) (by omega) (by omega)]
  simp
/-! ### range(n) as a value, list(range(n)) -/
theorem call_rng : CallR X (.type "range") (fun xs H Q => ∃ j : Int, xs = [.int j] ∧ ∀ q, H q = none → Q (.ref q) (upd H q (.rng 0 j))) := by
  intro pins s σ H xs us Q I r h
  obtain ⟨j, rfl, q⟩ := h
  obtain ⟨u, rfl, t, rfl⟩ := vals1 r
  exact call_range_1 ⟨.ref s.heap.objs.size, _, I.laid (o := .rng 0 j) (fun b o e => Heap.get?_push_of_some _ e) (Nat.le_refl _) ⟨_, _, _, Heap.get?_push_size _ rfl⟩, rfl, q _ (I.hok.fresh (Nat.le_refl _))⟩
def upto (n : Nat) : List V := (List.range n).map fun (i : Nat) => V.int (i : Int)
theorem vals_upto {its : List Value} {n : Nat} (hl : its.length = n) (h : ∀ j v, its[j]? = some v → ∃ t, v = Value.int ((j : Nat) : Int) t) : Vals (upto n) its := by
  have go : ∀ (its : List Value) (k : Nat), (∀ j v, its[j]? = some v → ∃ t, v = Value.int (((k + j : Nat)) : Int) t) → Vals ((List.range' k its.length).map fun (i : Nat) => V.int (i : Int)) its := by
    intro its
    induction its with
    | nil => intro k _; exact .nil
    | cons a r ih =>
      intro k hk
      rw [List.length_cons, List.range'_succ, List.map_cons]
      refine .cons (hk 0 a rfl) (ih (k + 1) fun j v hj => ?_)
      obtain ⟨t, e⟩ := hk (j + 1) v (by simpa using hj)
      exact ⟨t, by rw [e]; congr 1; omega⟩
  have := go its 0 (fun j v hj => by simpa using h j v hj)
  unfold upto
  rw [List.range_eq_range', ← hl]
  exact this
theorem call_listRng (hc : X.calm = true) : CallR X (.type "list") (fun xs H Q => ∃ (p : Addr) (n : Nat), xs = [.ref p] ∧ H p = some (.rng 0 (n : Int)) ∧ n < 1000000 ∧ ∀ l, H l = none → Q (.ref l) (upd H l (.lst (upto n)))) := by
  intro pins s σ H xs us Q I r h
  obtain ⟨p, n, rfl, hp, hn, q⟩ := h
  obtain ⟨u, rfl, ru⟩ := vals1 r
  cases ru
  obtain ⟨t, u, v, e⟩ := (show ObjOk X.prog X.w H s.heap p (.rng 0 (n : Int)) from I.hok p _ hp)
  have hs : sizeLine = 16777216 := sizeLine_eq
  refine call_list_range (I.ok.hd hc) (show IsRange s.heap p 0 (n : Int) 1 t u v from e) (small_one (by omega) (by omega) (by omega) (by omega)) (n := n) (by rw [rangeSize_one]; split <;> omega) (by omega) fun h' tk acc c k e2 ia => ?_
  obtain ⟨ia1, ia2⟩ := ia
  have hv : Vals (upto n) acc.toList := vals_upto (by rw [Array.length_toList]; exact ia1) fun j v hj => by
    obtain ⟨t, e⟩ := ia2 j v (by rw [← Array.getElem?_toList]; exact hj)
    exact ⟨t, by rw [e]; congr 1; omega⟩
  have hlen : (upto n).length = n := by unfold upto; simp
  refine ⟨.ref s.heap.objs.size, _, I.un (h' := h') (t' := tk) (Un.laid k (Nat.le_refl _) (I.hok.fresh (Nat.le_refl _))) (I.hok.laid (o := .lst (upto n)) k (Nat.le_refl _) ⟨by rw [hlen]; omega, acc.toList, c, hv, ?_⟩), rfl, q _ (I.hok.fresh (Nat.le_refl _))⟩
  rw [e2]
/-! ### isinstance(x, (C, D)) of built-in classes -/
theorem isinst_tup {pins : List (Addr × Obj)} {σ : St} {H : Hp} {s : Shared} {A : Around} {E : Value → Shared → Prop} {Q : Value → Shared → Prop} {x : V} {u t : Value} {tp : Addr} {its : List Value} {b : Bool} (I : Inv X pins σ H s) (rx : RelV x u) (ty : TyOf X.K H x t) (hx : ∀ C, t ≠ .ref C) (htp : IsTup s.heap tp its.toArray)
    (e : PySem.W.kitAny X.K t its = some b) (h : ∀ tk, Q (.bool b) { s with toks := tk }) : wpAny (model X.prog X.w) A (call (.builtin "isinstance") [u, .ref tp]) Q E s := by
  obtain ⟨⟨oc, od, odt, osl⟩, e2, hc, n2, hd⟩ := htp
  have hc' : oc = .type "tuple" := hc
  have hd' : odt = .seq its.toArray n2 := hd
  subst hc' hd'
  cases ty with
  | non => cases (show u = Value.none from rx); exact PySem.W.kia_tup PySem.W.kitx_none I.kIn True.intro e2 e (fun z => nomatch z) h
  | bl y => cases (show u = Value.bool y from rx); exact PySem.W.kia_tup PySem.W.kitx_bool I.kIn True.intro e2 e (fun z => nomatch z) h
  | int i => obtain ⟨t, q⟩ := (show ∃ t, u = Value.int i t from rx); cases q; exact PySem.W.kia_tup PySem.W.kitx_int I.kIn True.intro e2 e (fun z => nomatch z) h
  | str y => obtain ⟨t, q⟩ := (show ∃ t, u = Value.str y t from rx); cases q; exact PySem.W.kia_tup PySem.W.kitx_str I.kIn True.intro e2 e (fun z => nomatch z) h
  | flt y => obtain ⟨t, q⟩ := (show ∃ t, u = Value.float y t from rx); cases q; exact PySem.W.kia_tup PySem.W.kitx_float I.kIn True.intro e2 e (fun z => nomatch z) h
  | @lst a xs ea =>
    cases (show u = Value.ref a from rx)
    obtain ⟨_, _, n, _, h1⟩ := (show ObjOk X.prog X.w H s.heap a (.lst xs) from I.hok a _ ea)
    exact PySem.W.kia_tup PySem.W.kitx_list I.kIn ⟨_, h1, rfl⟩ e2 e (fun z => nomatch z) h
  | @frz a ob xs ea =>
    cases (show u = Value.ref a from rx)
    obtain ⟨_, _, _, n, _, h1⟩ := (show ObjOk X.prog X.w H s.heap a (.frz ob (.lst xs)) from I.hok a _ ea)
    exact PySem.W.kia_tup PySem.W.kitx_list I.kIn ⟨_, h1, rfl⟩ e2 e (fun z => nomatch z) h
  | @tup a xs ea =>
    cases (show u = Value.ref a from rx)
    obtain ⟨_, _, _, p⟩ := (show ObjOk X.prog X.w H s.heap a (.tup xs) from I.hok a _ ea)
    obtain ⟨o, h1, h2, _⟩ := p
    exact PySem.W.kia_tup PySem.W.kitx_tuple I.kIn ⟨o, h1, h2⟩ e2 e (fun z => nomatch z) h
  | @dK a kvs ea =>
    cases (show u = Value.ref a from rx)
    obtain ⟨_, _, vs, _, p⟩ := (show ObjOk X.prog X.w H s.heap a (.dK kvs) from I.hok a _ ea)
    obtain ⟨o, es, ep, h1, h2, _⟩ := p
    exact PySem.W.kia_tup PySem.W.kitx_dict I.kIn ⟨o, h1, h2.1⟩ e2 e (fun z => nomatch z) h
  | @dT a kvs ea =>
    cases (show u = Value.ref a from rx)
    obtain ⟨_, _, xs, _, o, es, ep, h1, h2, _⟩ := (show ObjOk X.prog X.w H s.heap a (.dT kvs) from I.hok a _ ea)
    exact PySem.W.kia_tup PySem.W.kitx_dict I.kIn ⟨o, h1, h2.1⟩ e2 e (fun z => nomatch z) h
  | @ins a C dx fs ea cl ha hn htk hm => exact absurd rfl (hx C)
/-- the classes by name -/
def tyVs (ns : List String) : List V := ns.map V.ty
theorem tyVs_vals {ns : List String} : ∀ {us : List Value}, Vals (tyVs ns) us → us = ns.map Value.type := by
  induction ns with
  | nil => intro us r; cases r; rfl
  | cons a r ih =>
    intro us q
    cases q with
    | cons q1 q2 =>
      rw [List.map_cons, ← ih q2, show _ = Value.type a from q1]
theorem call_isinT : CallR X (.builtin "isinstance") (fun xs H Q => ∃ x p ns t b, xs = [x, .ref p] ∧ SqT X.K H p (tyVs ns) ∧ TyOf X.K H x t ∧ (∀ C, t ≠ .ref C) ∧ PySem.W.kitAny X.K t (ns.map Value.type) = some b ∧ Q (.bl b) H) := by
  intro pins s σ H xs us Q I r h
  obtain ⟨x, p, ns, t, b, rfl, hp, ty, hx, e, q⟩ := h
  obtain ⟨u, w', rfl, rx, rn⟩ := vals2 r
  cases (show w' = Value.ref p from rn)
  obtain ⟨its, r1, p1, _⟩ := I.tuple hp
  have ei := tyVs_vals r1
  subst ei
  exact isinst_tup I rx ty hx p1 e fun tk => ⟨.bl b, H, I.tok tk, rfl, q⟩
/-! ### xs != [] -/
theorem op_neLE (hu : X.A.units < cLine) : OpR X (compareOp .NotEq) (fun x y H Q => ∃ a b xs, x = .ref a ∧ y = .ref b ∧ SqL X.K H a xs ∧ SqL X.K H b [] ∧ Q (.bl (!xs.isEmpty)) H) := by
  intro pins s σ H x y v u Q I rx ry h
  obtain ⟨a, b, xs, rfl, rfl, hx, hy, q⟩ := h
  cases rx
  cases ry
  obtain ⟨its, r1, p1, _⟩ := I.list hx
  obtain ⟨its2, r2, p2, _⟩ := I.list hy
  have l1 := r1.length
  have l2 : its2 = [] := by cases r2; rfl
  subst l2
  cases xs with
  | nil =>
    cases r1
    refine SeqAt.RcNeAt.lists (e := fun _ => true) p1.isList p2.isList rfl hu (fun j h1 _ => by simp at h1) _ _ _ _ ?_
    exact ⟨.bl false, H, I, rfl, q⟩
  | cons x0 xr =>
    refine SeqAt.RcNeAt.lists_lengths p1.isList p2.isList ?_ hu _ _ _ _ ⟨.bl true, H, I, rfl, q⟩
    rw [List.size_toArray, List.size_toArray]
    simp only [List.length_cons] at l1
    simp only [List.length_nil, bne_iff_ne, ne_eq]
    omega
end
end L2
set_option Elab.async false
set_option linter.all false
set_option maxRecDepth 100000
set_option maxHeartbeats 4000000
namespace L2
open PySem PySem.Spec PyProof.Rows
section
variable {X : Cx}
theorem eqVs_len {xs ys : List V} (h : ¬ xs.length = ys.length) : eqVs xs ys = false := by
  rw [← eqVs_all, beq_eq_false_iff_ne.mpr h, Bool.and_false]
theorem op_eqL (hu : X.A.units < cLine) : OpR X (compareOp .Eq) (fun x y H Q => ∃ a b xs ys, x = .ref a ∧ y = .ref b ∧ SqL X.K H a xs ∧ SqL X.K H b ys ∧ xs.all flatV = true ∧ ys.all flatV = true ∧ Q (.bl (eqVs xs ys)) H) := by
  intro pins s σ H x y v u Q I rx ry h
  obtain ⟨a, b, xs, ys, rfl, rfl, hx, hy, fx, fy, q⟩ := h
  cases rx
  cases ry
  obtain ⟨its, r1, p1, _⟩ := I.list hx
  obtain ⟨its2, r2, p2, _⟩ := I.list hy
  have l1 := r1.length
  have l2 := r2.length
  by_cases hl : xs.length = ys.length
  · refine SeqAt.RcAt.lists (e := fun j => eqV (xs.getD j .non) (ys.getD j .non)) p1.isList p2.isList (by rw [List.size_toArray, List.size_toArray]; omega) hu (flat_at r1 r2 fx fy) _ _ _ _ ?_
    refine ⟨.bl _, H, I, ?_, q⟩
    show Value.bool _ = Value.bool (eqVs xs ys)
    rw [← eqVs_all, beq_iff_eq.mpr hl, Bool.and_true, List.size_toArray, ← l1, show min xs.length ys.length = xs.length by omega]
  · refine SeqAt.RcAt.lists_lengths p1.isList p2.isList ?_ hu _ _ _ _ ?_
    · rw [List.size_toArray, List.size_toArray, bne_iff_ne]; omega
    · rw [eqVs_len hl] at q
      exact ⟨.bl false, H, I, rfl, q⟩
end
/-- an int by a natural: a natural -/
theorem z_mod {X : Cx} : OpR X (binaryOp .Mod) (fun x y H Q => ∃ (i : Int) (m j : Nat), x = .int i ∧ y = .int (m : Int) ∧ 0 < m ∧ i % (m : Int) = (j : Int) ∧ Q (.int (j : Int)) H) :=
  op_mod.imp fun x y H Q ⟨i, m, j, e1, e2, h, e3, q⟩ => ⟨_, _, e1, e2, by show (0 : Int) < (m : Int); omega, by
    show Q (.int (i % (m : Int))) H
    rw [e3]; exact q⟩
theorem iteNot {c A B : Prop} [Decidable c] (h1 : ¬ c → A) (h2 : c → B) : if (!decide c) = true then A else B := by
  by_cases h : c
  · exact iteNS h (h2 h)
  · rw [decide_eq_false h]; exact iteT (h1 h)
end L2
set_option Elab.async false
set_option linter.all false
set_option maxRecDepth 100000
set_option maxHeartbeats 4000000
namespace L2
open PySem PySem.Spec PyProof.Rows
/-! ### lists of pairs as tables -/
section
variable {κ : Type} [DecidableEq κ]
def valV (kvs : List (κ × V)) (k : κ) : Option V := (kvs.find? fun kv => decide (kv.1 = k)).map (·.2)
/-- in its place, or at the end -/
def putK (kvs : List (κ × V)) (k : κ) (v : V) : List (κ × V) :=
  if (kvs.any fun kv => decide (kv.1 = k)) = true then kvs.map (fun kv => if kv.1 = k then (kv.1, v) else kv) else kvs ++ [(k, v)]
def dropK (kvs : List (κ × V)) (k : κ) : List (κ × V) := kvs.filter fun kv => decide (kv.1 ≠ k)
theorem valV_pos {p : κ × V} {r : List (κ × V)} {k : κ} (e : p.1 = k) : valV (p :: r) k = some p.2 := by simp [valV, List.find?_cons, e]
theorem valV_neg {p : κ × V} {r : List (κ × V)} {k : κ} (e : ¬ p.1 = k) : valV (p :: r) k = valV r k := by simp [valV, List.find?_cons, e]
theorem valV_any (k : κ) : ∀ kvs : List (κ × V), (kvs.any fun kv => decide (kv.1 = k)) = (valV kvs k).isSome
  | [] => rfl
  | p :: r => by
    rw [List.any_cons]
    by_cases e : p.1 = k
    · simp only [valV_pos e, decide_eq_true e, Bool.true_or, Option.isSome_some]
    · rw [valV_neg e, decide_eq_false e, Bool.false_or]; exact valV_any k r
theorem length_putK (kvs : List (κ × V)) (k : κ) (v : V) : (putK kvs k v).length ≤ kvs.length + 1 := by
  unfold putK
  split
  · rw [List.length_map]; omega
  · rw [List.length_append, List.length_cons, List.length_nil]; omega
theorem putK_new {kvs : List (κ × V)} {k : κ} (v : V) (h : valV kvs k = none) : putK kvs k v = kvs ++ [(k, v)] := by
  unfold putK
  rw [valV_any, h]
  exact if_neg (by decide)
theorem RelO.isSome_eq {o : Option V} {u : Option Value} (r : RelO o u) : o.isSome = u.isSome := by
  cases o with
  | none => cases u with
    | none => rfl
    | some _ => exact (show False from r).elim
  | some _ => cases u with
    | none => exact (show False from r).elim
    | some _ => rfl
theorem RelO.getD {o : Option V} {u : Option Value} {d : V} {d' : Value} (r : RelO o u) (rd : RelV d d') : RelV (o.getD d) (u.getD d') := by
  cases o with
  | none => cases u with
    | none => exact rd
    | some _ => exact (show False from r).elim
  | some _ => cases u with
    | none => exact (show False from r).elim
    | some _ => exact r
/-- raw tables of the same keys -/
theorem KV.val {kvs : List (κ × V)} {vs : List (κ × Value)} (r : KV kvs vs) (k : κ) : RelO (valV kvs k) (valueAt vs k) := by
  unfold KV at r
  induction r with
  | nil => exact True.intro
  | @cons p q ps qs h t ih =>
    obtain ⟨h1, h2⟩ := h
    by_cases e : p.1 = k
    · have e' : q.1 = k := h1.symm.trans e
      have b : valueAt (q :: qs) k = some q.2 := by simp [valueAt, List.find?_cons, e']
      rw [valV_pos e, b]; exact h2
    · have e' : ¬ q.1 = k := fun z => e (h1.trans z)
      have b : valueAt (q :: qs) k = valueAt qs k := by simp [valueAt, List.find?_cons, e']
      rw [valV_neg e, b]; exact ih
theorem KV.any {kvs : List (κ × V)} {vs : List (κ × Value)} (r : KV kvs vs) (k : κ) : (kvs.any fun kv => decide (kv.1 = k)) = vs.any fun kv => decide (kv.1 = k) := by
  unfold KV at r
  induction r with
  | nil => rfl
  | cons h t ih => rw [List.any_cons, List.any_cons, ih, h.1]
theorem KV.repl {kvs : List (κ × V)} {vs : List (κ × Value)} (r : KV kvs vs) (k : κ) {y : V} {u : Value} (ry : RelV y u) :
    KV (kvs.map fun kv => if kv.1 = k then (kv.1, y) else kv) (vs.map fun kv => if kv.1 = k then (kv.1, u) else kv) := by
  unfold KV at r ⊢
  induction r with
  | nil => exact .nil
  | @cons p q ps qs h t ih =>
    rw [List.map_cons, List.map_cons]
    refine .cons ?_ ih
    obtain ⟨h1, h2⟩ := h
    by_cases e : p.1 = k
    · rw [if_pos e, if_pos (h1.symm.trans e)]; exact ⟨h1, ry⟩
    · rw [if_neg e, if_neg (fun z => e (h1.trans z))]; exact ⟨h1, h2⟩
theorem KV.put {kvs : List (κ × V)} {vs : List (κ × Value)} (r : KV kvs vs) (k : κ) {y : V} {u : Value} (ry : RelV y u) : KV (putK kvs k y) (stored vs k u) := by
  unfold putK stored
  rw [r.any k]
  by_cases e : (vs.any fun kv => decide (kv.1 = k)) = true
  · rw [if_pos e, if_pos e]; exact r.repl k ry
  · rw [if_neg e, if_neg e]; exact Paired.snoc r ⟨rfl, ry⟩
theorem KV.drop {kvs : List (κ × V)} {vs : List (κ × Value)} (r : KV kvs vs) (k : κ) : KV (dropK kvs k) (without vs k) := by
  unfold KV at r ⊢
  unfold dropK without
  induction r with
  | nil => exact .nil
  | @cons p q ps qs h t ih =>
    obtain ⟨h1, h2⟩ := h
    rw [List.filter_cons, List.filter_cons]
    by_cases e : p.1 = k
    · have a : ¬ decide (p.1 ≠ k) = true := by simp [e]
      have b : ¬ decide (q.1 ≠ k) = true := by simp [h1.symm.trans e]
      rw [if_neg a, if_neg b]; exact ih
    · have e' : ¬ q.1 = k := fun z => e (h1.trans z)
      have a : decide (p.1 ≠ k) = true := by simp [e]
      have b : decide (q.1 ≠ k) = true := by simp [e']
      rw [if_pos a, if_pos b]; exact .cons ⟨h1, h2⟩ ih
theorem KV.keys {kvs : List (κ × V)} {vs : List (κ × Value)} (r : KV kvs vs) : kvs.map (·.1) = vs.map (·.1) := by
  unfold KV at r
  induction r with
  | nil => rfl
  | cons h t ih => rw [List.map_cons, List.map_cons, ih, h.1]
theorem KV.length {kvs : List (κ × V)} {vs : List (κ × Value)} (r : KV kvs vs) : kvs.length = vs.length := Paired.length r
end
/-! ### a tracked dict, its keys ints and texts or tuples of these -/
theorem kV_is {P : Program} {w : World} {k : Key} {u : Value} (r : RelV (kV k) u) : (mixKind P w).is k u = true := by
  cases k with
  | inl i => obtain ⟨t, e⟩ := (show ∃ t, u = Value.int i t from r); subst e; exact mixKind_int P w i t
  | inr x => obtain ⟨t, e⟩ := (show ∃ t, u = Value.str x t from r); subst e; exact mixKind_str P w x t
theorem items_are {P : Program} {w : World} : ∀ {ks : List Key} {us : List Value}, Vals (ks.map kV) us → ItemsAre (mixKind P w) ks us
  | [], _, r => by rw [List.map_nil] at r; cases r; exact .nil
  | k :: ks, _, r => by
    rw [List.map_cons] at r
    cases r with
    | cons h t => exact .cons (kV_is h) (items_are t)
/-- raw entries of a dict with tuple keys -/
abbrev KT (H : Hp) : List (List Key × V) → List (List Key × Addr × Value) → Prop := Paired fun p q => p.1 = q.1 ∧ H q.2.1 = some (.tup (p.1.map kV)) ∧ RelV p.2 q.2.2
theorem KT.val {H : Hp} {kvs : List (List Key × V)} {xs : List (List Key × Addr × Value)} (r : KT H kvs xs) (k : List Key) : RelO (valV kvs k) ((atKey xs k).map (·.2)) := by
  induction r with
  | nil => exact True.intro
  | @cons p q ps qs h t ih =>
    obtain ⟨h1, _, h2⟩ := h
    by_cases e : p.1 = k
    · have e' : q.1 = k := h1.symm.trans e
      have b : atKey (q :: qs) k = some q.2 := by simp [atKey, List.find?_cons, e']
      rw [valV_pos e, b]; exact h2
    · have e' : ¬ q.1 = k := fun z => e (h1.trans z)
      have b : atKey (q :: qs) k = atKey qs k := by simp [atKey, List.find?_cons, e']
      rw [valV_neg e, b]; exact ih
theorem KT.repl {H : Hp} {kvs : List (List Key × V)} {xs : List (List Key × Addr × Value)} (r : KT H kvs xs) (k : List Key) {y : V} {u : Value} (ry : RelV y u) :
    KT H (kvs.map fun kv => if kv.1 = k then (kv.1, y) else kv) (xs.map (putAt k u)) := by
  induction r with
  | nil => exact .nil
  | @cons p q ps qs h t ih =>
    rw [List.map_cons, List.map_cons]
    refine .cons ?_ ih
    obtain ⟨h1, h2, h3⟩ := h
    unfold putAt
    by_cases e : p.1 = k
    · rw [if_pos e, if_pos (h1.symm.trans e)]; exact ⟨h1, h2, ry⟩
    · rw [if_neg e, if_neg (fun z => e (h1.trans z))]; exact ⟨h1, h2, h3⟩
theorem KT.put {H : Hp} {kvs : List (List Key × V)} {xs : List (List Key × Addr × Value)} (r : KT H kvs xs) (k : List Key) {b : Addr} {y : V} {u : Value} (hb : H b = some (.tup (k.map kV))) (ry : RelV y u) :
    KT H (putK kvs k y) (storedH xs k b u) := by
  have e : (kvs.any fun kv => decide (kv.1 = k)) = (atKey xs k).isSome := by
    rw [valV_any, (r.val k).isSome_eq, Option.isSome_map]
  unfold putK storedH
  rw [e]
  by_cases q : (atKey xs k).isSome = true
  · rw [if_pos q, if_pos q]; exact r.repl k ry
  · rw [if_neg q, if_neg q]; exact Paired.snoc r ⟨rfl, hb, ry⟩
theorem KT.keeps {H H' : Hp} {kvs : List (List Key × V)} {xs : List (List Key × Addr × Value)} (r : KT H kvs xs) (ht : ∀ b ys, H b = some (.tup ys) → H' b = some (.tup ys)) : KT H' kvs xs :=
  Paired.mapP r fun _ _ z => ⟨z.1, ht _ _ z.2.1, z.2.2⟩
section
variable {P : Program} {w : World} {H : Hp} {h : Heap} {a : Addr}
theorem rd_of {u : HO} (ok : HOk P w H h) (e : Rd H a u) : ObjOk P w H h a u := e.ok ok
theorem dk_rd {kvs : List (Key × V)} (ok : HOk P w H h) (e : Rd H a (.dK kvs)) : kvs.length ≤ sizeLine ∧ (a == sysModules) = false ∧ ∃ vs, KV kvs vs ∧ h.DictOf (mixKind P w) a vs :=
  show ObjOk P w H h a (.dK kvs) from rd_of ok e
theorem dk_of {kvs : List (Key × V)} (ok : HOk P w H h) (e : H a = some (.dK kvs)) : kvs.length ≤ sizeLine ∧ (a == sysModules) = false ∧ ∃ vs, KV kvs vs ∧ h.DictOf (mixKind P w) a vs := dk_rd ok (.inl e)
/-- a tracked tuple of ints and texts is a key -/
theorem key_of {ks : List Key} (ok : HOk P w H h) (e : H a = some (.tup (ks.map kV))) : (tupleKind (mixKind P w)).is h ks a := by
  obtain ⟨_, its, r, o, h1, h2, n, h3⟩ := (show ObjOk P w H h a (.tup (ks.map kV)) from ok a _ e)
  exact ⟨o, its.toArray, n, h1, h2, h3, by simpa using items_are r⟩
theorem dt_rd {kvs : List (List Key × V)} (ok : HOk P w H h) (e : Rd H a (.dT kvs)) : kvs.length ≤ sizeLine ∧ (a == sysModules) = false ∧
    ∃ xs, KT H kvs xs ∧ h.DictOfH (tupleKind (mixKind P w)) a xs := by
  obtain ⟨z, y, xs, r, o, es, ep, h1, h2, h3, h4, h5⟩ := (show ObjOk P w H h a (.dT kvs) from rd_of ok e)
  refine ⟨z, y, xs, r, o, es, ep, h1, h2, h3, h4, fun x hx => ?_, h5⟩
  have all : ∀ {l : List (List Key × V)} {m : List (List Key × Addr × Value)}, KT H l m → ∀ x ∈ m, (tupleKind (mixKind P w)).is h x.1 x.2.1 := by
    intro l m q
    induction q with
    | nil => intro x hx; exact nomatch hx
    | @cons p q ps qs hq t ih =>
      intro x hx
      rcases List.mem_cons.mp hx with e | hx
      · subst e
        exact key_of ok (by rw [← hq.1]; exact hq.2.1)
      · exact ih x hx
  exact all r x hx
theorem dt_of {kvs : List (List Key × V)} (ok : HOk P w H h) (e : H a = some (.dT kvs)) : kvs.length ≤ sizeLine ∧ (a == sysModules) = false ∧
    ∃ xs, KT H kvs xs ∧ h.DictOfH (tupleKind (mixKind P w)) a xs := dt_rd ok (.inl e)
end
/-- what the dict at a holds at the key y -/
def DGet (H : Hp) (a : Addr) (y : V) (r : Option V) : Prop :=
  (∃ kvs k, Rd H a (.dK kvs) ∧ y = kV k ∧ r = valV kvs k) ∨ ∃ kvs k b, Rd H a (.dT kvs) ∧ y = .ref b ∧ H b = some (.tup (k.map kV)) ∧ r = valV kvs k
/-- the heap behind a[y] = v -/
def DPut (H : Hp) (a : Addr) (y v : V) (H' : Hp) : Prop :=
  (∃ kvs k, H a = some (.dK kvs) ∧ y = kV k ∧ kvs.length < sizeLine ∧ H' = upd H a (.dK (putK kvs k v))) ∨
  ∃ kvs k b, H a = some (.dT kvs) ∧ y = .ref b ∧ H b = some (.tup (k.map kV)) ∧ kvs.length < sizeLine ∧ H' = upd H a (.dT (putK kvs k v))
theorem DGet.k {H : Hp} {a : Addr} {kvs : List (Key × V)} {k : Key} (e : H a = some (.dK kvs)) : DGet H a (kV k) (valV kvs k) := .inl ⟨kvs, k, .inl e, rfl, rfl⟩
theorem DGet.t {H : Hp} {a b : Addr} {kvs : List (List Key × V)} {k : List Key} (e : H a = some (.dT kvs)) (eb : H b = some (.tup (k.map kV))) : DGet H a (.ref b) (valV kvs k) := .inr ⟨kvs, k, b, .inl e, rfl, eb, rfl⟩
theorem DPut.k {H : Hp} {a : Addr} {kvs : List (Key × V)} {k : Key} {v : V} (e : H a = some (.dK kvs)) (hl : kvs.length < sizeLine) : DPut H a (kV k) v (upd H a (.dK (putK kvs k v))) := .inl ⟨kvs, k, e, rfl, hl, rfl⟩
theorem DPut.t {H : Hp} {a b : Addr} {kvs : List (List Key × V)} {k : List Key} {v : V} (e : H a = some (.dT kvs)) (eb : H b = some (.tup (k.map kV))) (hl : kvs.length < sizeLine) :
    DPut H a (.ref b) v (upd H a (.dT (putK kvs k v))) := .inr ⟨kvs, k, b, e, rfl, eb, hl, rfl⟩
section
variable {X : Cx} {pins : List (Addr × Obj)} {σ : St} {H : Hp} {s : Shared} {a : Addr} {y v : V} {u r : Value} {o : Option V} {A : Around} {E : Value → Shared → Prop}
theorem Inv.big (I : Inv X pins σ H s) : sysModules < s.heap.objs.size := by
  have h : mainGlobals < s.heap.objs.size := (I.mod.glob.keeps I.bk).lt
  exact Nat.lt_trans (by decide) h
/-- d[y], there -/
theorem d_getItem {Q : Value → Shared → Prop} (hu : A.units + 1 < cLine) (I : Inv X pins σ H s) (g : DGet H a y (some v)) (ry : RelV y u) (h : ∀ w' s', Inv X pins σ H s' → RelV v w' → Q w' s') :
    wpAny (model X.prog X.w) A (getItem (.ref a) u) Q E s := by
  rcases g with ⟨kvs, k, e, ey, l⟩ | ⟨kvs, k, b, e, ey, eb, l⟩
  · subst ey
    obtain ⟨z, hd, vs, rel, dd⟩ := dk_rd I.hok e
    obtain ⟨w', hw, rw'⟩ := RelO.some_of (v := v) (o := valueAt vs k) (by rw [l]; exact rel.val k)
    exact wpAny_getItem_of (kV_is ry) dd.mapOf hw (h w' _ (I.tok _) rw')
  · subst ey
    cases (show u = Value.ref b from ry)
    obtain ⟨z, hd, xs, rel, dd⟩ := dt_rd I.hok e
    obtain ⟨w', hw, rw'⟩ := RelO.some_of (v := v) (o := (atKey xs k).map (·.2)) (by rw [l]; exact rel.val k)
    obtain ⟨p, hp, hp2⟩ := Option.map_eq_some_iff.mp hw
    refine wpAny_getItem_heap (tupleKind_room_in1 hu) (key_of I.hok eb) dd hp ?_
    rw [hp2]
    exact h w' _ (I.tok _) rw'
/-- y in d -/
theorem d_in {Q : Value → Shared → Prop} (hu : A.units + 1 < cLine) (I : Inv X pins σ H s) (g : DGet H a y o) (ry : RelV y u) (h : ∀ s', Inv X pins σ H s' → Q (.bool o.isSome) s') :
    wpAny (model X.prog X.w) A (compareOp .In u (.ref a)) Q E s := by
  rcases g with ⟨kvs, k, e, ey, l⟩ | ⟨kvs, k, b, e, ey, eb, l⟩
  · subst ey
    obtain ⟨z, hd, vs, rel, dd⟩ := dk_rd I.hok e
    refine wpAny_in_of (kV_is ry) hd dd.mapOf ?_
    rw [← (rel.val k).isSome_eq, ← l]
    exact h _ (I.tok _)
  · subst ey
    cases (show u = Value.ref b from ry)
    obtain ⟨z, hd, xs, rel, dd⟩ := dt_rd I.hok e
    refine wpAny_in_heap (tupleKind_room_in1 hu) (key_of I.hok eb) hd dd ?_
    have q := (rel.val k).isSome_eq
    rw [Option.isSome_map] at q
    rw [← q, ← l]
    exact h _ (I.tok _)
/-- a dict's object is replaced -/
theorem d_write {h' : Heap} {t' : Nat} {ob : HO} (I : Inv X pins σ H s) (mu : Mut (H a)) (hs : Heap.SameBut a s.heap h') (he : ∃ q, h'.get? a = some q) (new : ObjOk X.prog X.w (upd H a ob) h' a ob) :
    Inv X pins σ (upd H a ob) { s with heap := h', toks := t' } :=
  I.write (x := a) (e := a) mu (.inl rfl) (fun b q hb z => (hs.2 b hb).trans z) he new
theorem dk_new {P : Program} {w : World} {H' : Hp} {h' : Heap} {kvs : List (Key × V)} {vs : List (Key × Value)} (z : kvs.length ≤ sizeLine) (hd : (a == sysModules) = false) (rel : KV kvs vs) (dd : h'.DictOf (mixKind P w) a vs) :
    ObjOk P w H' h' a (.dK kvs) := ⟨z, hd, vs, rel, dd⟩
/-- d[y] = v -/
theorem d_setItem {H' : Hp} {Q : Unit → Shared → Prop} (hu : A.units + 1 < cLine) (I : Inv X pins σ H s) (g : DPut H a y v H') (ry : RelV y u) (rv : RelV v r) (h : ∀ s', Inv X pins σ H' s' → Q () s') :
    wpAny (model X.prog X.w) A (setItem (.ref a) u r) Q E s := by
  rcases g with ⟨kvs, k, e, ey, l, eH⟩ | ⟨kvs, k, b, e, ey, eb, l, eH⟩
  · subst ey eH
    obtain ⟨z, hd, vs, rel, dd⟩ := dk_of I.hok e
    have hz : vs.length ≤ sizeLine := by rw [← rel.length]; exact z
    have hl : (putK kvs k v).length ≤ sizeLine := by have := length_putK kvs k v; omega
    refine wpAny_setItem_pairs (hsz := hz) (kV_is ry) dd fun h' dd' hs => h _ ?_
    have he : ∃ q, h'.get? a = some q := let ⟨q, _, _, hq, _⟩ := dd'; ⟨q, hq⟩
    exact d_write I (by rw [e]; exact True.intro) hs he (dk_new hl hd (rel.put k rv) dd')
  · subst ey eH
    cases (show u = Value.ref b from ry)
    obtain ⟨z, hd, xs, rel, dd⟩ := dt_of I.hok e
    have hz : xs.length ≤ sizeLine := by rw [← Paired.length rel]; exact z
    have hl : (putK kvs k v).length ≤ sizeLine := by have := length_putK kvs k v; omega
    refine wpAny_setItem_heap (hsz := hz) (tupleKind_room_in1 hu) (key_of I.hok eb) dd fun h' dd' hs => h _ ?_
    obtain ⟨q, es, ep, hq, h2, h3, h4, _, h5⟩ := dd'
    refine d_write I (by rw [e]; exact True.intro) hs ⟨q, hq⟩ ⟨hl, hd, _, (rel.put k eb rv).keeps fun c ys ec => ?_, q, es, ep, hq, h2, h3, h4, h5⟩
    rw [upd_ne (ne_of ec e (fun z => nomatch z))]
    exact ec
end
section
variable {X : Cx} {pins : List (Addr × Obj)} {σ : St} {H : Hp} {s : Shared} {a : Addr} {kvs : List (Key × V)} {k : Key} {u : Value} {A : Around} {E : Value → Shared → Prop}
end
/-! ### readings and rules -/
/-- the element of a subscription, not a slice -/
def NoSl (i : Expr) : Prop := ∀ ov iv, subscripted i false ov iv = operate [ov, iv] (getItem ov iv)
theorem subD_of {prog : Program} {w : World} {A : Around} {E : Value → Shared → Prop} {s : Shared} {env : Env} {value slice : Expr} {pos : Pos} {T id : String} {Q : Value → Shared → Prop}
    (hl : typeLookup (.type T) "__getitem__" = pure (some (.builtin id))) (hs : NoSl slice)
    (h : wpAny (model prog w) A (eval value env) (fun o s₁ => wpAny (model prog w) A (eval slice env) (fun i s₂ => s₂.TypeIs o T ∧ wpAny (model prog w) A (getItem o i) Q E s₂) E s₁) E s) :
    wpAny (model prog w) A (eval (.Subscript value slice pos) env) Q E s := by
  refine Subscript_ (wpAny_mono h (fun o s₁ h₁ => wpAny_mono h₁ (fun i s₂ h₂ => ?_) fun _ _ x => x) fun _ _ x => x)
  obtain ⟨hT, h₂⟩ := h₂
  unfold subscriptTail
  refine wpAny_bind ?_
  rw [getitemInPython_of_ne hT.not_modules]
  refine wpAny_bind (wpAny_specialOf hT hl ?_)
  have fin : wpAny (model prog w) A (subscripted slice false o i) (fun r s₃ => wpAny (model prog w) A (letTemporaryGo value o r >>= fun _ => pure r) Q E s₃) E s₂ := by
    rw [hs o i]
    exact wpAny_operating (wpAny_mono h₂ (fun r s₃ h₃ => wpAny_bind (wpAny_letTemporaryGo (wpAny_pure h₃))) fun _ _ x => x)
  first
    | exact wpAny_pure (wpAny_bind fin)
    | exact wpAny_bind (wpAny_pure (wpAny_bind fin))
    | exact wpAny_bind fin
theorem dict_typeIs {X : Cx} {pins : List (Addr × Obj)} {σ : St} {H : Hp} {s : Shared} {a : Addr} {y : V} {o : Option V} (I : Inv X pins σ H s) (g : DGet H a y o) : s.TypeIs (.ref a) "dict" := by
  rcases g with ⟨kvs, k, e, _, _⟩ | ⟨kvs, k, b, e, _, _, _⟩
  · obtain ⟨_, _, vs, _, dd⟩ := dk_rd I.hok e
    exact dd.typeIs
  · obtain ⟨_, _, xs, _, dd⟩ := dt_rd I.hok e
    exact dd.typeIs
/-- d[y] -/
def tDGet (td ty : TE) : TE := fun σ H Q => td σ H fun x H1 => ty σ H1 fun y H2 => ∃ a v, x = .ref a ∧ DGet H2 a y (some v) ∧ Q v H2
/-- y in d, y not in d -/
def tDIn (ty td : TE) : TE := fun σ H Q => ty σ H fun y H1 => td σ H1 fun x H2 => ∃ a o, x = .ref a ∧ DGet H2 a y o ∧ Q (.bl o.isSome) H2
/-- d[y] = v -/
def sDPut (td ty tv : TE) : TS := fun D σ H => tv σ H fun v H1 => td σ H1 fun x H2 => ty σ H2 fun y H3 => ∃ a H4, x = .ref a ∧ DPut H3 a y v H4 ∧ D.nx σ H4
section
variable {X : Cx} {o i e value : Expr} {pos pos' tpos : Pos} {td ty tv : TE}
theorem pe_dget (hu : X.A.units + 1 < cLine) (ho : PE X o td) (hi : PE X i ty) (hs : NoSl i) : PE X (.Subscript o i pos) (tDGet td ty) := by
  intro pins s σ H Q I h
  refine subD_of PySem.F.slot_dict_getitem.lookup hs (thn (ho pins s σ H _ I h) fun u s1 ⟨x, H1, I1, rx, q1⟩ => thn (hi pins s1 σ H1 _ I1 q1) fun iv s2 ⟨y, H2, I2, ry, a, v, ex, g, q2⟩ => ?_)
  subst ex
  obtain rfl : u = Value.ref a := rx
  exact ⟨dict_typeIs I2 g, d_getItem hu I2 g ry fun w' s3 I3 rw' => ⟨v, H2, I3, rw', q2⟩⟩
theorem pc_din (hu : X.A.units + 1 < cLine) (hi : PE X i ty) (ho : PE X o td) : PC X .In i o (tDIn ty td) := by
  intro pins s σ H Q I h
  refine thn (hi pins s σ H _ I h) fun iv s1 ⟨y, H1, I1, ry, q1⟩ => thn (ho pins s1 σ H1 _ I1 q1) fun u s2 ⟨x, H2, I2, rx, a, ov, ex, g, q2⟩ => ?_
  subst ex
  obtain rfl : u = Value.ref a := rx
  exact d_in hu I2 g ry fun s3 I3 => ⟨.bl ov.isSome, H2, I3, rfl, q2⟩
theorem ps_dput (hu : X.A.units + 1 < cLine) (ho : PE X o td) (hi : PE X i ty) (hv : PE X value tv) (hs : swapsWith value (some (.Subscript o i pos')) pos.line X.env = pure false) :
    PS X (.Assign [.Subscript o i pos'] value pos) (sDPut td ty tv) := by
  intro pins s σ H D I h
  refine wpAny_Assign_Subscript (thn (hv pins s σ H _ I h) fun r s1 ⟨v, H1, I1, rv, q1⟩ => thn (ho pins s1 σ H1 _ I1 q1) fun u s2 ⟨x, H2, I2, rx, q2⟩ => thn (hi pins s2 σ H2 _ I2 q2) fun iv s3 ⟨y, H3, I3, ry, a, H4, ex, g, q3⟩ => ?_) hs
  subst ex
  obtain rfl : u = Value.ref a := rx
  exact d_setItem hu I3 g ry rv fun s4 I4 => ⟨σ, H4, I4, q3⟩
end
/-! ### displays -/
theorem dk_empty {P : Program} {w : World} {H : Hp} (h : Heap) (hb : sysModules < h.objs.size) : ObjOk P w H (h.push { cls := .type "dict", data := .dict #[] }) h.objs.size (.dK []) :=
  ⟨Nat.zero_le _, beq_eq_false_iff_ne.mpr (Ne.symm (Nat.ne_of_lt hb)), [], .nil, Heap.DictOf.new h⟩
/-- {}, to be a dict of the kind that is wanted -/
def tDNewK : TE := fun _ H Q => ∀ p, H p = none → Q (.ref p) (upd H p (.dK []))
section
variable {X : Cx} {pos : Pos}
theorem pe_dnewK : PE X (.Dict [] [] pos) tDNewK := fun pins s σ H Q I h =>
  wpAny_Dict_empty ⟨.ref s.heap.objs.size, _, I.laid (a := s.heap.objs.size) (o := .dK []) (t' := s.toks) (fun _ _ q => Heap.get?_push_of_some _ q) (Nat.le_refl _) (dk_empty s.heap I.big), rfl, h _ (I.hok.fresh (Nat.le_refl _))⟩
end
end L2
namespace L2
open PySem PySem.Spec PyProof.Rows
/-! ### a dict's pairs: keys that differ -/
section
variable {κ : Type} [DecidableEq κ]
theorem valV_in {kvs : List (κ × V)} {k : κ} {v : V} (h : valV kvs k = some v) : k ∈ kvs.map (·.1) := by
  have q : (kvs.any fun kv => decide (kv.1 = k)) = true := by
    rw [valV_any, h]
    all_goals rfl
  obtain ⟨p, hp, e⟩ := List.any_eq_true.mp q
  exact List.mem_map.mpr ⟨p, hp, of_decide_eq_true e⟩
theorem nd_snoc : ∀ {l : List κ} {k : κ}, l.Nodup → ¬ k ∈ l → (l ++ [k]).Nodup
  | [], k, _, _ => by simp
  | a :: r, k, h, hk => by
    obtain ⟨h1, h2⟩ := List.nodup_cons.mp h
    show (a :: (r ++ [k])).Nodup
    refine List.nodup_cons.mpr ⟨fun m => ?_, nd_snoc h2 fun m => hk (List.mem_cons.mpr (Or.inr m))⟩
    rcases List.mem_append.mp m with q | q
    · exact h1 q
    · exact hk (List.mem_cons.mpr (Or.inl (List.mem_singleton.mp q).symm))
end
end L2
set_option Elab.async false
set_option linter.all false
set_option maxRecDepth 100000
set_option maxHeartbeats 4000000
namespace L2
open PySem PySem.Spec PyProof.Rows
/-! ### enumerate(xs) walked by a tuple of targets -/
section
variable {X : Cx} {pins : List (Addr × Obj)} {σ : St} {H : Hp} {s : Shared}
end
section
variable {X : Cx} {elts : List Expr} {kt : Nat} {tp : Pos}
end
end L2
set_option Elab.async false
set_option linter.all false
set_option maxRecDepth 100000
set_option maxHeartbeats 4000000
namespace Srt
open PySem PySem.W PyProof.Rows
/-! ### the sort's own tree of questions, answered by a strict order without ties -/
structure Ord (n : Nat) (lt : Nat → Nat → Bool) : Prop where
  trans : ∀ a b c, lt a b = true → lt b c = true → lt a c = true
  asym : ∀ a b, lt a b = true → lt b a = false
  total : ∀ a b, a < n → b < n → a ≠ b → lt a b = false → lt b a = true
/-- how a question is answered: the state stays -/
def Ans (n : Nat) (lt : Nat → Nat → Bool) (cmp : Nat → Nat → (Bool → Shared → Prop) → Shared → Prop) (s : Shared) : Prop :=
  ∀ i j (C : Bool → Shared → Prop), i < n → j < n → C (lt i j) s → cmp i j C s
/-- a row of all numbers below n -/
structure Row (n : Nat) (p : Array Nat) : Prop where
  size : p.size = n
  perm : p.toList.Perm (List.range n)
variable {n : Nat} {lt : Nat → Nat → Bool} {cmp : Nat → Nat → (Bool → Shared → Prop) → Shared → Prop} {s : Shared}
theorem Row.below {p : Array Nat} (R : Row n p) {i : Nat} (h : i < n) : p.getD i 0 < n := by
  have e : p.getD i 0 = p[i]'(by rw [R.size]; exact h) := by simp [Array.getD, R.size, h]
  rw [e]
  exact List.mem_range.mp (R.perm.mem_iff.mp (by simp))
theorem Row.inj {p : Array Nat} (R : Row n p) {i j : Nat} (hi : i < n) (hj : j < n) (h : i ≠ j) : p.getD i 0 ≠ p.getD j 0 := by
  have nd : p.toList.Nodup := R.perm.nodup_iff.mpr List.nodup_range
  have e1 : p.getD i 0 = p.toList[i]'(by rw [Array.length_toList, R.size]; exact hi) := by simp [Array.getD, R.size, hi]
  have e2 : p.getD j 0 = p.toList[j]'(by rw [Array.length_toList, R.size]; exact hj) := by simp [Array.getD, R.size, hj]
  rw [e1, e2]
  intro z
  exact h ((List.getElem_inj nd).mp z)
def Asc (lt : Nat → Nat → Bool) (p : Array Nat) (k : Nat) : Prop := ∀ i, i + 1 < k → lt (p.getD i 0) (p.getD (i + 1) 0) = true
def Desc (lt : Nat → Nat → Bool) (p : Array Nat) (k : Nat) : Prop := ∀ i, i + 1 < k → lt (p.getD (i + 1) 0) (p.getD i 0) = true
theorem Asc.far (O : Ord n lt) {p : Array Nat} {k : Nat} (h : Asc lt p k) : ∀ d i, i + d + 1 < k → lt (p.getD i 0) (p.getD (i + d + 1) 0) = true
  | 0, i, hk => h i hk
  | d + 1, i, hk => O.trans _ _ _ (Asc.far O h d i (by omega)) (h (i + d + 1) (by omega))
theorem Asc.les (O : Ord n lt) {p : Array Nat} {k i j : Nat} (h : Asc lt p k) (hij : i < j) (hj : j < k) : lt (p.getD i 0) (p.getD j 0) = true := by
  have := h.far O (j - i - 1) i (by omega)
  have e : i + (j - i - 1) + 1 = j := by omega
  rwa [e] at this
theorem Desc.far (O : Ord n lt) {p : Array Nat} {k : Nat} (h : Desc lt p k) : ∀ d i, i + d + 1 < k → lt (p.getD (i + d + 1) 0) (p.getD i 0) = true
  | 0, i, hk => h i hk
  | d + 1, i, hk => O.trans _ _ _ (h (i + d + 1) (by omega)) (Desc.far O h d i (by omega))
theorem asc_ok (O : Ord n lt) (A : Ans n lt cmp s) {p : Array Nat} (R : Row n p) : ∀ (f k : Nat) (Q : Nat → Shared → Prop), 1 ≤ k → k + f ≤ n → Asc lt p k →
    (∀ k', k ≤ k' → k' ≤ k + f → Asc lt p k' → (k' = k + f ∨ lt (p.getD k' 0) (p.getD (k' - 1) 0) = true) → Q k' s) → (kas_asc p f k).kasWp cmp Q s
  | 0, k, Q, _, _, ha, h => h k (Nat.le_refl _) (Nat.le_refl _) ha (.inl rfl)
  | f + 1, k, Q, h1, hn, ha, h => by
    refine A _ _ _ (R.below (by omega)) (R.below (by omega)) ?_
    cases c : lt (p.getD k 0) (p.getD (k - 1) 0) with
    | true => exact h k (Nat.le_refl _) (by omega) ha (.inr c)
    | false =>
      show (kas_asc p f (k + 1)).kasWp cmp Q s
      refine asc_ok O A R f (k + 1) Q (by omega) (by omega) (fun i hi => ?_) fun k' a1 a2 a3 a4 => h k' (by omega) (by omega) a3 (a4.imp (fun z => by omega) id)
      by_cases e : i + 1 < k
      · exact ha i e
      · have ei : i = k - 1 := by omega
        subst ei
        have e2 : k - 1 + 1 = k := by omega
        rw [e2]
        exact O.total _ _ (R.below (by omega)) (R.below (by omega)) (R.inj (by omega) (by omega) (by omega)) c
theorem desc_ok (O : Ord n lt) (A : Ans n lt cmp s) {p : Array Nat} (R : Row n p) : ∀ (f k : Nat) (Q : Array Nat × Nat × Nat → Shared → Prop), 1 ≤ k → k + f ≤ n → Desc lt p k →
    (∀ k', k ≤ k' → k' ≤ k + f → Desc lt p k' → Q (p, k', 0) s) → (kas_desc f p k 0).kasWp cmp Q s
  | 0, k, Q, _, _, ha, h => h k (Nat.le_refl _) (Nat.le_refl _) ha
  | f + 1, k, Q, h1, hn, ha, h => by
    refine A _ _ _ (R.below (by omega)) (R.below (by omega)) ?_
    cases c : lt (p.getD k 0) (p.getD (k - 1) 0) with
    | true =>
      show (kas_desc f p (k + 1) 0).kasWp cmp Q s
      refine desc_ok O A R f (k + 1) Q (by omega) (by omega) (fun i hi => ?_) fun k' a1 a2 a3 => h k' (by omega) (by omega) a3
      by_cases e : i + 1 < k
      · exact ha i e
      · have ei : i = k - 1 := by omega
        subst ei
        have e2 : k - 1 + 1 = k := by omega
        rw [e2]
        exact c
    | false =>
      refine A _ _ _ (R.below (by omega)) (R.below (by omega)) ?_
      have d := O.total _ _ (R.below (by omega)) (R.below (by omega)) (R.inj (by omega) (by omega) (by omega)) c
      rw [d]
      exact h k (Nat.le_refl _) (by omega) ha
theorem rev_row {p : Array Nat} (R : Row n p) (k : Nat) : Row n (kas_rev p 0 k) := by
  refine ⟨?_, ?_⟩
  · unfold kas_rev; rw [mirror_size]; exact R.size
  · unfold kas_rev
    exact (Array.perm_iff_toList_perm.mp (mirror_perm p 0 k ((k - 0) / 2))).trans R.perm
theorem getD_of {p q : Array Nat} {i j : Nat} (h : p[i]? = q[j]?) : p.getD i 0 = q.getD j 0 := by
  rw [Array.getD_eq_getD_getElem?, Array.getD_eq_getD_getElem?, h]
theorem rev_asc (O : Ord n lt) {p : Array Nat} (R : Row n p) {k : Nat} (hk : k ≤ n) (h : Desc lt p k) : Asc lt (kas_rev p 0 k) k := fun i hi => by
  have g : ∀ j, j < k → (kas_rev p 0 k).getD j 0 = p.getD (k - 1 - j) 0 := fun j hj => by
    have e := getElem?_mirror_all (xs := p) (i := 0) (j := k) (by rw [R.size]; exact hk) j
    rw [if_pos ⟨Nat.zero_le _, hj⟩] at e
    have e2 : 0 + k - 1 - j = k - 1 - j := by omega
    rw [e2] at e
    exact getD_of e
  rw [g i (by omega), g (i + 1) (by omega)]
  have e : k - 1 - i = (k - 1 - (i + 1)) + 1 := by omega
  rw [e]
  exact h _ (by omega)
theorem count_ok (O : Ord n lt) (A : Ans n lt cmp s) {p : Array Nat} (R : Row n p) (h2 : 2 ≤ n) (Q : Nat × Array Nat → Shared → Prop)
    (h : ∀ k q, 1 ≤ k → k ≤ n → Row n q → Asc lt q k → Q (k, q) s) : (kas_count n p).kasWp cmp Q s := by
  unfold kas_count
  rw [KasT.kasWp_bind]
  refine asc_ok O A R (n - 1) 1 _ (Nat.le_refl _) (by omega) (fun i hi => by omega) fun k a1 a2 a3 a4 => ?_
  by_cases hk : k = n
  · subst hk
    simp only [beq_self_eq_true, if_true]
    exact h k p a1 (Nat.le_refl _) R a3
  · have hk' : (k == n) = false := beq_eq_false_iff_ne.mpr hk
    rw [hk']
    simp only [Bool.false_eq_true, if_false]
    by_cases h1 : k > 1
    · rw [if_pos h1]
      refine A _ _ _ (R.below (by omega)) (R.below (by omega)) ?_
      rw [a3.les O (i := 0) (j := k - 1) (by omega) (by omega)]
      exact h k p a1 (by omega) R a3
    · rw [if_neg h1]
      have k1 : k = 1 := by omega
      subst k1
      have d1 : lt (p.getD 1 0) (p.getD 0 0) = true := a4.resolve_left (by omega)
      unfold kas_descPart
      rw [KasT.kasWp_bind]
      refine desc_ok O A R (n - (1 + 1)) (1 + 1) _ (by omega) (by omega) (fun i hi => ?_) fun m b1 b2 b3 => ?_
      · have : i = 0 := by omega
        subst this
        exact d1
      · show (if (0 : Nat) > 0 then _ else kas_tail3 m n p).kasWp cmp Q s
        rw [if_neg (by omega)]
        unfold kas_tail3
        rw [KasT.kasWp_bind]
        have R2 := rev_row R m
        exact asc_ok O A R2 (n - m) m _ (by omega) (by omega) (rev_asc O R (by omega) b3) fun k' c1 c2 c3 _ => h k' _ (by omega) (by omega) R2 c3
theorem place_ok (O : Ord n lt) (A : Ans n lt cmp s) {p : Array Nat} (R : Row n p) {k : Nat} (hk : k < n) : ∀ (f l r : Nat) (Q : Nat → Shared → Prop), l ≤ r → r ≤ k → r - l ≤ f → (∀ i, i < l → lt (p.getD i 0) (p.getD k 0) = true) → (∀ i, r ≤ i → i < k → lt (p.getD k 0) (p.getD i 0) = true) → Asc lt p k →
    (∀ l', l' ≤ k → (∀ i, i < l' → lt (p.getD i 0) (p.getD k 0) = true) → (∀ i, l' ≤ i → i < k → lt (p.getD k 0) (p.getD i 0) = true) → Q l' s) → (kas_place p k f l r).kasWp cmp Q s
  | 0, l, r, Q, h1, h2, h3, hl, hr, ha, h => by
    have e : l = r := by omega
    subst e
    exact h l h2 hl hr
  | f + 1, l, r, Q, h1, h2, h3, hl, hr, ha, h => by
    unfold kas_place
    by_cases hlr : l ≥ r
    · rw [if_pos hlr]
      have e : l = r := by omega
      subst e
      exact h l h2 hl hr
    · rw [if_neg hlr]
      refine A _ _ _ (R.below (by omega)) (R.below (by omega)) ?_
      cases c : lt (p.getD k 0) (p.getD ((l + r) / 2) 0) with
      | true =>
        show (kas_place p k f l ((l + r) / 2)).kasWp cmp Q s
        refine place_ok O A R hk f l ((l + r) / 2) Q (by omega) (by omega) (by omega) hl (fun i a1 a2 => ?_) ha h
        by_cases e : i = (l + r) / 2
        · rw [e]; exact c
        · exact O.trans _ _ _ c (ha.les O (by omega) a2)
      | false =>
        show (kas_place p k f ((l + r) / 2 + 1) r).kasWp cmp Q s
        have d := O.total _ _ (R.below (by omega)) (R.below (by omega)) (R.inj (i := k) (j := (l + r) / 2) (by omega) (by omega) (by omega)) c
        refine place_ok O A R hk f ((l + r) / 2 + 1) r Q (by omega) h2 (by omega) (fun i a1 => ?_) hr ha h
        by_cases e : i = (l + r) / 2
        · rw [e]; exact d
        · exact O.trans _ _ _ (ha.les O (j := (l + r) / 2) (by omega) (by omega)) d
theorem bub_row {p : Array Nat} (R : Row n p) (k d : Nat) : Row n (bubble p k d) := by
  refine ⟨?_, ?_⟩
  · rw [bubble_size]; exact R.size
  · exact (Array.perm_iff_toList_perm.mp (bubble_perm p k d)).trans R.perm
theorem bub_asc (O : Ord n lt) {p : Array Nat} (R : Row n p) {k l : Nat} (hk : k < n) (hl : l ≤ k) (ha : Asc lt p k) (h1 : ∀ i, i < l → lt (p.getD i 0) (p.getD k 0) = true) (h2 : ∀ i, l ≤ i → i < k → lt (p.getD k 0) (p.getD i 0) = true) :
    Asc lt (bubble p k (k - l)) (k + 1) := fun i hi => by
  have g : ∀ j, (bubble p k (k - l)).getD j 0 = if j = l then p.getD k 0 else if l < j ∧ j ≤ k then p.getD (j - 1) 0 else p.getD j 0 := fun j => by
    have e := getElem?_bubble (xs := p) (src := k) (by rw [R.size]; exact hk) (k - l) (by omega) j
    have e2 : k - (k - l) = l := by omega
    rw [e2] at e
    by_cases q1 : j = l
    · rw [if_pos q1] at e ⊢; exact getD_of e
    · rw [if_neg q1] at e ⊢
      by_cases q2 : l < j ∧ j ≤ k
      · rw [if_pos q2] at e ⊢; exact getD_of e
      · rw [if_neg q2] at e ⊢; exact getD_of e
  rw [g i, g (i + 1)]
  by_cases q1 : i = l
  · subst q1
    rw [if_pos rfl, if_neg (by omega), if_pos ⟨by omega, by omega⟩]
    exact h2 i (Nat.le_refl _) (by omega)
  · rw [if_neg q1]
    by_cases q2 : i < l
    · rw [if_neg (by omega)]
      by_cases q3 : i + 1 = l
      · rw [if_pos q3]; exact h1 i q2
      · rw [if_neg q3, if_neg (by omega)]; exact ha i (by omega)
    · rw [if_pos ⟨by omega, by omega⟩, if_neg (by omega), if_pos ⟨by omega, by omega⟩]
      have e : i = i - 1 + 1 := by omega
      have e2 : i + 1 - 1 = i - 1 + 1 := by omega
      rw [e2]
      exact ha (i - 1) (by omega)
theorem bin_ok (O : Ord n lt) (A : Ans n lt cmp s) : ∀ (f k : Nat) (p : Array Nat) (Q : Array Nat → Shared → Prop), Row n p → 1 ≤ k → k + f = n → Asc lt p k →
    (∀ q, Row n q → Asc lt q n → Q q s) → (kas_bin f p k).kasWp cmp Q s
  | 0, k, p, Q, R, _, e, ha, h => by
    have e2 : k = n := by omega
    subst e2
    exact h p R ha
  | f + 1, k, p, Q, R, h1, e, ha, h => by
    unfold kas_bin
    rw [KasT.kasWp_bind]
    refine place_ok O A R (by omega) k 0 k _ (Nat.zero_le _) (Nat.le_refl _) (by omega) (fun i hi => by omega) (fun i a b => by omega) ha fun l b1 b2 b3 => ?_
    exact bin_ok O A f (k + 1) _ Q (bub_row R k (k - l)) (by omega) (by omega) (bub_asc O R (by omega) b1 ha b2 b3) h
theorem sort_ok (O : Ord n lt) (A : Ans n lt cmp s) (h2 : 2 ≤ n) (Q : Array Nat → Shared → Prop) (h : ∀ q, Row n q → Asc lt q n → Q q s) : (kas_sort n).kasWp cmp Q s := by
  unfold kas_sort
  rw [KasT.kasWp_bind]
  refine count_ok O A ⟨by simp, by simp⟩ h2 _ fun k q a1 a2 R ha => ?_
  by_cases hk : k < n
  · show (if k < n then _ else _ : KasT (Array Nat)).kasWp cmp Q s
    rw [if_pos hk]
    have em : max k 1 = k := by omega
    show (kas_bin (n - max k 1) q (max k 1)).kasWp cmp Q s
    rw [em]
    exact bin_ok O A (n - k) k q Q R a1 (by omega) ha h
  · show (if k < n then _ else _ : KasT (Array Nat)).kasWp cmp Q s
    rw [if_neg hk]
    have e : k = n := by omega
    subst e
    exact h q R ha
end Srt
set_option Elab.async false
set_option linter.all false
set_option maxRecDepth 100000
set_option maxHeartbeats 4000000
namespace Srt
open PySem PySem.W PyProof.Rows
section
variable {prog : Program} {w : World} {A : Around} {E : Value → Shared → Prop} {s : Shared}
/-- a list of one item or none is sorted -/
theorem sort_few {a : Addr} {vs : List Value} {n : Nat} {P : PySem.Fin → Shared → Prop} (hq : s.heap.get? a = some (seqObj "list" vs.toArray n)) (few : vs.length < 2)
    (k : ∀ h' c, (∀ b o, b ≠ a → s.heap.get? b = some o → h'.get? b = some o) → h'.get? a = some (seqObj "list" vs.toArray c) → P (.done (.ret .none)) { s with heap := h' }) : wpAny (model prog w) A (Builtin.«list.sort» ⟨[.ref a], []⟩) P E s := by
  rw [list_sort_plain]
  have lt0 : a < s.heap.objs.size := Heap.lt_size hq
  have line : sizeLine = 16777216 := sizeLine_eq
  obtain ⟨c1, g1⟩ : ∃ c1, (s.heap.update a (Obj.mapSeq fun _ => (#[] : Array Value))).get? a = some (seqObj "list" #[] c1) := ⟨_, get?_update_seq hq fun _ => #[]⟩
  refine wpAny_bind (listItems_at hq rfl (wpAny_bind (listUpdate_at hq rfl (wpAny_bind (seqEpoch_at g1 rfl
    (wpAny_bind (wpAny_newTuple (wpAny_bind (wpAny_newList (wpAny_holding ?_) (Nat.zero_le _))) (by show vs.length ≤ _; omega))))) (by rw [List.size_toArray]; omega) (Nat.zero_le _))))
  generalize hG : (s.heap.update a (Obj.mapSeq fun _ => (#[] : Array Value))).push (seqObj "tuple" vs.toArray 0) = G
  have g2 : (G.push (seqObj "list" #[] 0)).get? a = some (seqObj "list" #[] c1) := Heap.get?_push_of_some _ (hG ▸ Heap.get?_push_of_some _ g1)
  have oth : ∀ b o, b ≠ a → s.heap.get? b = some o → (G.push (seqObj "list" #[] 0)).get? b = some o := fun b o hb q =>
    Heap.get?_push_of_some _ (hG ▸ Heap.get?_push_of_some _ ((Heap.get?_update_other s.heap _ (Ne.symm hb)).trans q))
  show wpAny (model prog w) A _ P E { s with heap := G.push (seqObj "list" #[] 0) }
  dsimp only
  have sz2 : vs.toArray.size < 2 := by rw [List.size_toArray]; exact few
  rw [if_pos sz2, if_pos sz2]
  refine wpAny_bind (wpAny_pure ?_)
  rw [StateT.run_pure]
  refine wpAny_bind (wpAny_pure (wpAny_bind (seqEpoch_at g2 rfl (wpAny_bind ?_))))
  have eo : ((vs.toArray.zip vs.toArray).map (·.2)) = vs.toArray := by
    match vs, few with
    | [], _ => simp
    | [v], _ => simp
  refine listUpdate_at g2 rfl ?_ (Nat.zero_le _) (by show ((vs.toArray.zip vs.toArray).map (·.2)).size ≤ _; rw [eo, List.size_toArray]; omega)
  show wpAny (model prog w) A _ P E { s with heap := (G.push (seqObj "list" #[] 0)).update a (Obj.mapSeq fun _ => (vs.toArray.zip vs.toArray).map (·.2)) }
  rw [eo]
  obtain ⟨c3, g3⟩ : ∃ c3, ((G.push (seqObj "list" #[] 0)).update a (Obj.mapSeq fun _ => vs.toArray)).get? a = some (seqObj "list" vs.toArray c3) := ⟨_, get?_update_seq g2 fun _ => vs.toArray⟩
  simp only [bne_self_eq_false]
  refine wpAny_pure (k _ c3 (fun b o hb q => ?_) g3)
  exact (Heap.get?_update_other _ _ (Ne.symm hb)).trans (oth b o hb q)
theorem sorted_few {l : Addr} {vs : List Value} {Q : Value → Shared → Prop} (hl : s.heap.IsList l vs.toArray) (few : vs.length < 2)
    (k : ∀ h' c, (∀ b o, s.heap.get? b = some o → h'.get? b = some o) → h'.get? (s.heap.objs.size + 1) = some (seqObj "list" vs.toArray c) → Q (.ref (s.heap.objs.size + 1)) { s with heap := h' }) :
    wpAny (model prog w) A (call (.builtin "sorted") [.ref l]) Q E s := by
  have line : sizeLine = 16777216 := sizeLine_eq
  refine (Calls.call_function_entry kind_sorted plain_sorted entry_sorted (args_sorted1 _) ?body0)
  unfold Builtin.«sorted»
  refine wpAny_bind (m := checkCount "sorted" 1 1 _) (wpAny_pure (wpAny_bind (collect_list hl ?_ (by omega))))
  refine wpAny_bind (wpAny_newList ?_ (by omega))
  generalize hG : (s.heap.push (seqObj "list" #[] 0)).update s.heap.objs.size (Obj.mapSeq (· ++ vs.toArray)) = G
  have gz : G.objs.size = s.heap.objs.size + 1 := by rw [← hG, Heap.size_update, size_push']
  have own : (G.push (seqObj "list" vs.toArray 0)).get? (s.heap.objs.size + 1) = some (seqObj "list" vs.toArray 0) := by
    rw [← gz]; exact Heap.get?_push_size _ rfl
  have oth : ∀ b o, s.heap.get? b = some o → (G.push (seqObj "list" vs.toArray 0)).get? b = some o := fun b o q => by
    have lt0 : b < s.heap.objs.size := Heap.lt_size q
    refine Heap.get?_push_of_some _ ?_
    rw [← hG]
    exact (Heap.get?_update_other _ _ (Nat.ne_of_gt lt0)).trans (Heap.get?_push_of_some _ q)
  show wpAny _ _ _ _ _ { s with heap := G.push (seqObj "list" vs.toArray 0) }
  rw [gz]
  refine wpAny_bind (wpAny_holding (wpAny_call_entry slot_list_sort ⟨_, own, rfl⟩ entry_list_sort (sort_few own few fun h' c kk g => ⟨_, rfl, wpAny_pure ⟨_, rfl, k h' c (fun b o q => kk b o (fun z => ?_) (oth b o q)) g⟩⟩) (args_list_sort _)))
  have lt0 : b < s.heap.objs.size := Heap.lt_size q
  rw [z] at lt0
  exact absurd lt0 (Nat.not_lt.mpr (Nat.le_succ _))
end
end Srt
set_option Elab.async false
set_option linter.all false
set_option maxRecDepth 100000
set_option maxHeartbeats 4000000
namespace L2
open PySem PySem.Spec PyProof.Rows
/-- rows as they lie in the heap: address, key, value -/
abbrev RowA := Addr × Int × Int
def RowsAt (H : Hp) (rs : List RowA) : Prop := ∀ r ∈ rs, H r.1 = some (.tup [.int r.2.1, .int r.2.2])
def refsOf (rs : List RowA) : List V := rs.map fun r => V.ref r.1
theorem ns_inj {h : Heap} {a : Addr} {m m' : Str → Option Value} (x : h.Ns a m) (y : h.Ns a m') : m = m' := by
  obtain ⟨o, es, ep, ho, hd, _, hf⟩ := x
  obtain ⟨o', es', ep', ho', hd', _, hf'⟩ := y
  rw [ho] at ho'; cases ho'
  rw [hd] at hd'; cases hd'
  funext n
  rw [← hf n, ← hf' n]
theorem vals_refs {rs : List RowA} : ∀ {us : List Value}, Vals (refsOf rs) us → us = rs.map fun r => Value.ref r.1 := by
  induction rs with
  | nil => intro us r; cases r; rfl
  | cons a r ih =>
    intro us q
    cases q with
    | cons q1 q2 => rw [List.map_cons, ← ih q2, show _ = Value.ref a.1 from q1]
theorem vals_refs' (rs : List RowA) : Vals (refsOf rs) (rs.map fun r => Value.ref r.1) := by
  induction rs with
  | nil => exact .nil
  | cons a r ih => exact .cons rfl ih
section
variable {X : Cx} {pins : List (Addr × Obj)} {σ : St} {H : Hp} {s : Shared}
/-- a new list D stands, all else but the frame is as it was, the frame's map too -/
theorem Inv.newList {D : Addr} {h' : Heap} {ys : List V} {its : List Value} {c : Nat} {t' : Nat} (I : Inv X pins σ H s) (hD : s.heap.get? D = none) (hDL : D ≠ X.env.locals) (k : ∀ b o, b ≠ X.env.locals → s.heap.get? b = some o → h'.get? b = some o)
    (ns : ∀ m, s.heap.Ns X.env.locals m → h'.Ns X.env.locals m) (th : ∃ o, h'.get? X.env.locals = some o) (e : h'.get? D = some { cls := .type "list", data := .seq its.toArray c }) (r : Vals ys its) (hz : ys.length ≤ sizeLine) : H D = none ∧ Inv X pins σ (upd H D (.lst ys)) { s with heap := h', toks := t' } := by
  have hn : H D = none := by
    cases q : H D with
    | none => rfl
    | some u =>
      obtain ⟨o, z⟩ : ∃ o, s.heap.get? D = some o := by
        have ok := I.hok D u q
        cases u with
        | lst xs => obtain ⟨_, _, _, _, e⟩ := ok; exact ⟨_, e⟩
        | tup xs => obtain ⟨_, _, _, u, e, _⟩ := ok; exact ⟨_, e⟩
        | dK kvs => obtain ⟨_, _, _, _, o, _, _, e, _⟩ := ok; exact ⟨_, e⟩
        | dT kvs => obtain ⟨_, _, _, _, o, _, _, e, _⟩ := ok; exact ⟨_, e⟩
        | set S n => obtain ⟨o, _, _, _, e, _⟩ := ok; exact ⟨_, e⟩
        | ins C dx fs => obtain ⟨_, _, _, e, _⟩ := ok; exact ⟨_, e⟩
        | own y => exact ok
        | xd fs => obtain ⟨_, ⟨_, _, _, e, _⟩, _⟩ := ok; exact ⟨_, e⟩
        | rng lo hi => obtain ⟨_, _, _, e⟩ := ok; exact ⟨_, e⟩
        | frz ob u => obtain ⟨e, _⟩ := ok; exact ⟨_, e⟩
        | tbl ps => exact ⟨_, ok⟩
        | met f y => exact ⟨_, ok⟩
        | ext φ => obtain ⟨_, e, _⟩ := ok; exact e
      rw [hD] at z; cases z
  have nb : ∀ b o, s.heap.get? b = some o → b ≠ D := fun b o q z => by rw [z, hD] at q; cases q
  refine ⟨hn, I.step (g' := s.gens) (d' := s.drawn) (ch := []) (fun _ z => nomatch z) (fun b o hb _ _ q _ => k b o hb q) (fun b o hb _ _ q _ => ⟨o.slots, k b o hb q⟩) (fun b o _ q n => by rw [upd_ne (nb b o q)]; exact n) (fun b o _ q => ?_)
    (fun b xs q => by rw [upd_ne (ne_of_none q hn)]; exact q) (fun b o u q => by rw [upd_ne (ne_of_none q hn)]; exact q) (fun b ps q => ⟨#[], by rw [upd_ne (ne_of_none q hn), q]; simp⟩) ns (fun b u q => ?_) I.bare⟩
  · by_cases hb : b = X.env.locals
    · subst hb; exact th
    · exact ⟨o, k b o hb q⟩
  · by_cases hb : b = D
    · subst hb; rw [upd_same] at q; cases q; exact ⟨hz, its, c, r, e⟩
    · rw [upd_ne hb] at q
      refine (I.hok b u q).stay (fun c v hc z => k c v ?_ z) (fun c z => by rw [upd_ne (ne_of_none z hn)]; exact z) fun c xs z => by rw [upd_ne (ne_of_none z hn)]; exact z
      intro y
      rcases hc with z | z
      · rw [← z, y, I.free] at q; cases q
      · rw [y, I.free] at z; cases z
theorem rows_ord {rs : List RowA} (nd : (rs.map (·.2.1)).Nodup) : Srt.Ord rs.length fun i j => decide ((rs.getD i (0, 0, 0)).2.1 < (rs.getD j (0, 0, 0)).2.1) where
  trans := fun a b c h1 h2 => by
    have h1 := of_decide_eq_true h1
    have h2 := of_decide_eq_true h2
    exact decide_eq_true (by omega)
  asym := fun a b h1 => by
    have h1 := of_decide_eq_true h1
    exact decide_eq_false (by omega)
  total := fun a b ha hb hab h1 => by
    have h1 := of_decide_eq_false h1
    refine decide_eq_true ?_
    have ne : (rs.getD a (0, 0, 0)).2.1 ≠ (rs.getD b (0, 0, 0)).2.1 := by
      have e1 : (rs.getD a (0, 0, 0)).2.1 = (rs.map (·.2.1))[a]'(by rw [List.length_map]; exact ha) := by
        rw [List.getElem_map, List.getD_eq_getElem?_getD, List.getElem?_eq_getElem ha]; rfl
      have e2 : (rs.getD b (0, 0, 0)).2.1 = (rs.map (·.2.1))[b]'(by rw [List.length_map]; exact hb) := by
        rw [List.getElem_map, List.getD_eq_getElem?_getD, List.getElem?_eq_getElem hb]; rfl
      rw [e1, e2]
      intro z
      exact hab ((List.getElem_inj nd).mp z)
    omega
theorem perm_map {rs : List RowA} {q : Array Nat} (R : Srt.Row rs.length q) : (q.toList.map fun i => rs.getD i (0, 0, 0)).Perm rs := by
  have e : (List.range rs.length).map (fun i => rs.getD i (0, 0, 0)) = rs := by
    apply List.ext_getElem (by simp)
    intro i h1 h2
    rw [List.getElem_map, List.getElem_range, List.getD_eq_getElem?_getD, List.getElem?_eq_getElem h2]
    rfl
  have := R.perm.map (fun i => rs.getD i (0, 0, 0))
  rwa [e] at this
def Rise (rs : List RowA) : Prop := rs.Pairwise fun a b => a.2.1 < b.2.1
theorem rise_few : ∀ {rs : List RowA}, rs.length < 2 → Rise rs
  | [], _ => List.Pairwise.nil
  | [a], _ => List.pairwise_singleton _ _
  | a :: b :: r, h => by simp only [List.length_cons] at h; omega
theorem rise_map {rs : List RowA} (nd : (rs.map (·.2.1)).Nodup) {q : Array Nat} (R : Srt.Row rs.length q) (h : Srt.Asc (fun i j => decide ((rs.getD i (0, 0, 0)).2.1 < (rs.getD j (0, 0, 0)).2.1)) q rs.length) : Rise (q.toList.map fun i => rs.getD i (0, 0, 0)) := by
  unfold Rise
  rw [List.pairwise_map, List.pairwise_iff_getElem]
  intro i j hi hj hij
  have hj' : j < rs.length := by rw [Array.length_toList, R.size] at hj; exact hj
  have := of_decide_eq_true (h.les (rows_ord nd) hij hj')
  have g : ∀ (x : Nat) (hx : x < q.toList.length), q.toList[x] = q.getD x 0 := fun x hx => by
    have hx' : x < q.size := by simpa using hx
    simp [Array.getD, hx']
  rw [g i hi, g j hj]
  exact this
theorem call_sortRows : CallR X (.builtin "sorted") (fun xs H Q => ∃ p rs, xs = [.ref p] ∧ SqL X.K H p (refsOf rs) ∧ RowsAt H rs ∧ rs.length < 64 ∧ (rs.map (·.2.1)).Nodup ∧
    ∀ qs l, qs.Perm rs → Rise qs → H l = none → Q (.ref l) (upd H l (.lst (refsOf qs)))) := by
  intro pins s σ H xs us Q I r h
  obtain ⟨p, rs, rfl, hp, hrs, h64, nd, q⟩ := h
  obtain ⟨u, rfl, ru⟩ := vals1 r
  cases ru
  obtain ⟨its, r1, pl, hz⟩ := I.list hp
  have ei := vals_refs r1
  subst ei
  have line : sizeLine = 16777216 := sizeLine_eq
  have lenR : ∀ qs : List RowA, (refsOf qs).length = qs.length := fun qs => by unfold refsOf; rw [List.length_map]
  by_cases few : rs.length < 2
  · refine Srt.sorted_few pl.isList (by rw [List.length_map]; exact few) fun h' c k e => ?_
    have hD : s.heap.get? (s.heap.objs.size + 1) = none := Heap.get?_none_of_le (Nat.le_succ _)
    have hDL : s.heap.objs.size + 1 ≠ X.env.locals := fun z => adr_ne I.lt (Nat.le_succ s.heap.objs.size) z.symm
    obtain ⟨m, ⟨oL, es, ep, hoL, rL⟩, _⟩ := id I.loc
    obtain ⟨hn, I2⟩ := I.newList (t' := s.toks) (ys := refsOf rs) hD hDL (fun b o _ q => k b o q) (fun m hm => by
      obtain ⟨o, es, ep, ho, r⟩ := hm
      exact ⟨o, es, ep, k _ _ ho, r⟩) ⟨oL, k _ _ hoL⟩ e (vals_refs' rs) (by rw [lenR]; omega)
    refine ⟨.ref (s.heap.objs.size + 1), _, I2, rfl, q rs _ (List.Perm.refl _) ?_ hn⟩
    exact rise_few few
  · obtain ⟨m, F⟩ := I.fr
    have N : News X.base X.env.locals s.heap (allNews X.base s.heap X.env.locals) := news_all
    refine PySem.W.kat_sorted F N pl.isList (by rw [List.length_map]; omega) (by rw [List.length_map]; omega) fun D e1 h' F' N' hD => ?_
    have kept : ∀ {h2 : Heap} {o : Obj}, Fr X.base X.env.locals h2 m → News X.base X.env.locals h2 ((D, o) :: allNews X.base s.heap X.env.locals) → ∀ b o, b ≠ X.env.locals → s.heap.get? b = some o → h2.get? b = some o := fun {h2 o} F2 N2 b ob hb q => by
      cases g : X.base.get? b with
      | some u =>
        have := I.bk b u g
        rw [q] at this; cases this
        exact F2.keep b _ g
      | none => exact (N2 (b, ob) (List.mem_cons_of_mem _ (mem_allNews hb g q))).1
    have nD := N' (D, PyProof.Rows.seqObj "list" #[] e1) List.mem_cons_self
    have hDL : D ≠ X.env.locals := nD.2.1
    have hDn : s.heap.get? D = none := by
      cases g : s.heap.get? D with
      | none => rfl
      | some u => exact absurd (hD (D, u) (mem_allNews hDL nD.2.2 g)) (Nat.lt_irrefl _)
    -- the tuples as they lie
    have tup : ∀ r ∈ rs, ∃ o t u n, h'.get? r.1 = some o ∧ o.cls = .type "tuple" ∧ o.data = .seq #[.int r.2.1 t, .int r.2.2 u] n := fun r hr => by
      obtain ⟨its, rv, ⟨o, ho, hc, n, hd⟩, _⟩ := I.tuple (SqT.of (hrs r hr))
      obtain ⟨u1, u2, rfl, ⟨t, rfl⟩, ⟨t', rfl⟩⟩ := Vals.two rv
      refine ⟨o, t, t', n, kept F' N' r.1 o (fun z => ?_) ho, hc, hd⟩
      have := hrs r hr
      rw [z, I.free] at this; cases this
    have kts : ∀ l : List RowA, (∀ r ∈ l, r ∈ rs) → ∃ fs : List Value, PySem.W.KatTups h' (l.map fun r => Value.ref r.1) fs ∧ fs.length = l.length ∧ ∀ v ∈ fs, ∃ i t, v = Value.int i t := by
      intro l
      induction l with
      | nil => intro _; exact ⟨[], PySem.W.KatTups.nil, rfl, fun v hv => nomatch hv⟩
      | cons a l ih =>
        intro hl
        obtain ⟨fs, t1, t2, t3⟩ := ih fun r hr => hl r (List.mem_cons_of_mem _ hr)
        obtain ⟨o, t, u, n, ho, hc, hd⟩ := tup a (hl a List.mem_cons_self)
        refine ⟨.int a.2.1 t :: fs, PySem.W.KatTups.cons ho hc hd rfl t1, by simp [t2], fun v hv => ?_⟩
        rcases List.mem_cons.mp hv with z | z
        · exact ⟨_, _, z⟩
        · exact t3 v z
    obtain ⟨fs, kt, fl, fi⟩ := kts rs fun _ h => h
    refine PySem.W.kat_kind (s := { s with heap := h' }) (T := .type "int") kt (by omega) (fun v hv => ?_) (by decide) ?_
    · obtain ⟨i, t, rfl⟩ := fi v hv
      exact PySem.W.Looks.of_pure rfl
    have bt : (Value.type "int" != Value.type "tuple") = true := by decide
    rw [bt]
    have hlen : (rs.map fun r => Value.ref r.1).length = rs.length := List.length_map _
    rw [hlen]
    refine Srt.sort_ok (rows_ord nd) ?_ (by omega) _ fun qa R ha => ?_
    · intro i j C hi hj hC
      show wpAny _ _ (keyLt' _ ((rs.map fun r => Value.ref r.1).getD i Value.none) ((rs.map fun r => Value.ref r.1).getD j Value.none)) C _ _
      have gi : ∀ x, x < rs.length → (rs.map fun r => Value.ref r.1).getD x Value.none = Value.ref (rs.getD x (0, 0, 0)).1 := fun x hx => by
        rw [List.getD_eq_getElem?_getD, List.getElem?_map, List.getD_eq_getElem?_getD, List.getElem?_eq_getElem hx]; rfl
      have mi : ∀ x, x < rs.length → rs.getD x (0, 0, 0) ∈ rs := fun x hx => by
        rw [List.getD_eq_getElem?_getD, List.getElem?_eq_getElem hx]; exact List.getElem_mem hx
      rw [gi i hi, gi j hj]
      obtain ⟨o1, t1, u1, n1, ho1, hc1, hd1⟩ := tup _ (mi i hi)
      obtain ⟨o2, t2, u2, n2, ho2, hc2, hd2⟩ := tup _ (mi j hj)
      refine PySem.W.kat_lt (s := { s with heap := h' }) ho1 hd1 ho2 hd2 ?_
      refine PySem.W.kat_cons (wpAny_eqBool_int ?_)
      by_cases hk : (rs.getD i (0, 0, 0)).2.1 = (rs.getD j (0, 0, 0)).2.1
      · have hij : i = j := by
          refine Classical.byContradiction fun ne => ?_
          have a1 := (rows_ord nd).total i j hi hj ne (decide_eq_false (by omega))
          have := of_decide_eq_true a1
          omega
        subst hij
        rw [beq_self_eq_true]
        refine PySem.W.kat_yes (PySem.W.kat_cons (wpAny_eqBool_int ?_))
        rw [beq_self_eq_true]
        refine PySem.W.kat_yes (PySem.W.kat_nil ?_)
        have e : decide ((rs.getD i (0, 0, 0)).2.1 < (rs.getD i (0, 0, 0)).2.1) = false := decide_eq_false (by omega)
        simp only [e] at hC
        exact hC
      · rw [beq_eq_false_iff_ne.mpr hk]
        exact PySem.W.kat_no (oneLt_int hC)
    · have pm := perm_map R
      have ri := rise_map nd R ha
      have eo : (qa.toList.map fun i => (rs.map fun r => Value.ref r.1).getD i Value.none) = (qa.toList.map fun i => rs.getD i (0, 0, 0)).map fun r => Value.ref r.1 := by
        rw [List.map_map]
        refine List.map_congr_left fun x hx => ?_
        have hx' : x < rs.length := List.mem_range.mp (R.perm.mem_iff.mp hx)
        show _ = Value.ref (rs.getD x (0, 0, 0)).1
        rw [List.getD_eq_getElem?_getD, List.getElem?_map, List.getD_eq_getElem?_getD, List.getElem?_eq_getElem hx']; rfl
      rw [eo]
      generalize (qa.toList.map fun i => rs.getD i (0, 0, 0)) = qs at pm ri
      refine PySem.W.KasFin.intro (s := { s with heap := h' }) F' N' (.head fun pr hpr => ?_) fun h2 c F2 N2 => ?_
      · exact Nat.ne_of_lt (hD pr hpr)
      · have e2 := (N2 (D, PySem.W.listOf (List.toArray (qs.map fun r => Value.ref r.1)) c) List.mem_cons_self).1
        obtain ⟨oL, es, ep, hoL, rL⟩ := F2.ns
        obtain ⟨hn, I2⟩ := I.newList (t' := s.toks) (ys := refsOf qs) (its := qs.map fun r => Value.ref r.1) (c := c) hDn hDL (kept F2 N2) (fun m' hm' => by
          rw [ns_inj hm' F.ns]; exact F2.ns) ⟨oL, hoL⟩ e2 (vals_refs' qs) (by rw [lenR, pm.length_eq]; omega)
        exact ⟨.ref D, _, I2, rfl, q qs D pm ri hn⟩
end
end L2
set_option Elab.async false
set_option linter.all false
set_option maxRecDepth 100000
set_option maxHeartbeats 4000000
namespace L2
open PySem PySem.Spec PyProof.Rows
section
variable {X : Cx}
theorem args_one {e : Expr} {pos : Pos} {Q : List Value → Shared → Prop} {s : Shared} {E : Value → Shared → Prop} (hs : starEach [e] X.env = [(false, eval e X.env)]) (h : wpAny (model X.prog X.w) X.A (eval e X.env) (fun u s1 => Q [u] s1) E s) :
    wpAny (model X.prog X.w) X.A (spliced (backTo pos (starEach [e] X.env))) Q E s := by
  rw [hs]
  show wpAny _ _ (spliced ((false, eval e X.env) :: backTo pos [])) _ _ s
  exact Calls.spliced_cons (thn h fun u s1 q => Calls.spliced_nil q)
end
end L2
set_option Elab.async false
set_option linter.all false
set_option maxRecDepth 100000
set_option maxHeartbeats 4000000
namespace PySem
open Sem (wp)
abbrev IsZipG (h : Heap) (qz ti to : Addr) (f0 : Value) (b : Bool) : Prop :=
  h.get? qz = some { cls := .type "zip", dict := none, data := .fields #[f0, .bool b, .bool false, .ref ti, .ref to], slots := #[] }
section
variable {prog : Program} {w : World} {A : Around} {E : Value → Shared → Prop} {st : Shared}
theorem wpAny_alive {a : Addr} {Q : Option Obj → Shared → Prop} (h : Q (st.heap.get? a) st) : wpAny (model prog w) A (loadIfAlive a) Q E st := by
  intro Γ p hΓ
  exact h
/-- the tuple handed out is still there: a new one -/
theorem free_no {qz ti to T : Addr} {b : Bool} {oT : Obj} {Q : Bool → Shared → Prop} (hq : IsZipG st.heap qz ti to (rawInt (T : Nat)) b) (hT : st.heap.get? T = some oT)
    (hQ : ∀ h', IsZipG h' qz ti to (rawInt (T : Nat)) true → Heap.SameBut qz st.heap h' → Q false { st with heap := h' }) : wpAny (model prog w) A (Builtin.SmallTypes.ownedTupleIsFree (.ref qz)) Q E st := by
  unfold Builtin.SmallTypes.ownedTupleIsFree
  refine wpAny_bind (wpAny_field hq rfl (x := rawInt (T : Nat)) rfl ?_)
  show wpAny _ _ (loadIfAlive ((T : Nat) : Int).toNat >>= _) _ _ _
  refine wpAny_bind (wpAny_alive ?_)
  rw [Int.toNat_natCast, hT]
  simp only [Option.isNone_some, Bool.false_eq_true, if_false]
  refine wpAny_bind (wpAny_field hq rfl (x := .bool b) rfl ?_)
  cases b with
  | true =>
    show wpAny _ _ (pure false) _ _ _
    exact wpAny_pure (hQ st.heap hq (Heap.SameBut.refl _ _))
  | false =>
    show wpAny _ _ (setField (.ref qz) 1 (.bool true) >>= _) _ _ _
    exact wpAny_bind (wpAny_setField_rec hq (by simp) fun g₁ hq₁ gs₁ => wpAny_pure (hQ g₁ hq₁ gs₁))
end
end PySem
set_option Elab.async false
set_option linter.all false
set_option maxRecDepth 100000
set_option maxHeartbeats 4000000
namespace PySem
open Sem (wp)
section
variable {prog : Program} {w : World} {A : Around} {E : Value → Shared → Prop} {st : Shared}
theorem zip_next_item2 {qz ti to T j1 j2 l1 l2 : Addr} {bz : Bool} {oT : Obj} {n1 n2 : Nat} {xs ys : Array Value} {x y a b : Value} {Q : Value → Shared → Prop} (D : ZipApart qz ti to j1 j2 l1 l2)
    (hq : IsZipG st.heap qz ti to (rawInt (T : Nat)) bz) (hT : st.heap.get? T = some oT) (hTz : T ≠ qz) (hTi1 : T ≠ j1) (hTi2 : T ≠ j2) (hti : IsPair st.heap ti (.ref j1) (.ref j2))
    (h1 : st.heap.IsListIter j1 l1 n1) (h2 : st.heap.IsListIter j2 l2 n2) (hk1 : st.heap.IsList l1 xs) (hk2 : st.heap.IsList l2 ys) (hx : xs[n1]? = some x) (hy : ys[n2]? = some y)
    (hQ : ∀ h', IsZipG h' qz ti to (rawInt (T : Nat)) true → h'.IsListIter j1 l1 (n1 + 1) → h'.IsListIter j2 l2 (n2 + 1) → IsPair h' st.heap.objs.size x y → h'.objs.size = st.heap.objs.size + 1 →
      (∀ c o, c ≠ qz → c ≠ j1 → c ≠ j2 → st.heap.get? c = some o → h'.get? c = some o) → Q (.ref st.heap.objs.size) { st with heap := h' }) :
    wpAny (model prog w) A (Builtin.«zip.__next__» ⟨[.ref qz], []⟩) (fun fin s' => ∃ v, fin = .done (.ret v) ∧ Q v s') E st := by
  show wpAny _ _ (field (.ref qz) 2 >>= _) _ _ _
  refine wpAny_bind (wpAny_field hq rfl (x := .bool false) rfl ?_)
  show wpAny _ _ (field (.ref qz) 3 >>= _) _ _ _
  refine wpAny_bind (wpAny_field hq rfl (x := .ref ti) rfl ?_)
  refine wpAny_bind (wpAny_seqItems hti rfl ?_)
  show wpAny _ _ (Builtin.SmallTypes.ownedTupleIsFree (.ref qz) >>= _) _ _ _
  refine wpAny_bind (free_no hq hT fun g₁ hq₁ gs₁ => ?_)
  simp only [Bool.false_eq_true, if_false]
  refine wpAny_bind ?_
  rw [← Array.forIn_toList]
  simp only [List.forIn_cons, List.forIn_nil]
  refine wpAny_bind (wpAny_bind (wpAny_holding ?_))
  show wpAny _ _ (Builtin.SmallTypes.nextOf (.ref j1) >>= _) _ _ _
  refine wpAny_bind (wpAny_nextOf_list_item (h1.extBut gs₁.extBut D.i1z) (hk1.extBut gs₁.extBut D.l1z) hx fun g₂ h1₂ gs₂ => wpAny_pure ?_)
  refine wpAny_pure ?_
  refine wpAny_bind (wpAny_bind (wpAny_holding ?_))
  show wpAny _ _ (Builtin.SmallTypes.nextOf (.ref j2) >>= _) _ _ _
  refine wpAny_bind (wpAny_nextOf_list_item ((h2.extBut gs₁.extBut D.i2z).extBut gs₂.extBut D.i12.symm) ((hk2.extBut gs₁.extBut D.l2z).extBut gs₂.extBut D.l2i1) hy fun g₃ h2₃ gs₃ => wpAny_pure ?_)
  refine wpAny_pure ?_
  refine wpAny_pure ?_
  refine wpAny_bind (wpAny_newTuple (hsz := (by decide : 2 ≤ sizeLine)) ?_)
  have hsz : g₃.objs.size = st.heap.objs.size := by rw [gs₃.1, gs₂.1, gs₁.1]
  have up : ∀ c o, c ≠ qz → c ≠ j1 → c ≠ j2 → st.heap.get? c = some o → (g₃.push { cls := .type "tuple", data := .seq #[x, y] }).get? c = some o := fun c o c1 c2 c3 e =>
    Heap.get?_push_of_some _ (gs₃.extBut _ _ c3 (gs₂.extBut _ _ c2 (gs₁.extBut _ _ c1 e)))
  refine wpAny_pure ⟨_, rfl, ?_⟩
  have hq₃ : IsZipG g₃ qz ti to (rawInt (T : Nat)) true := gs₃.extBut _ _ D.i2z.symm (gs₂.extBut _ _ D.i1z.symm hq₁)
  have h1₃ : g₃.IsListIter j1 l1 (n1 + 1) := h1₂.extBut gs₃.extBut D.i12
  have hp : IsPair (g₃.push { cls := .type "tuple", data := .seq #[x, y] }) g₃.objs.size x y := Heap.get?_push_size _ rfl
  rw [hsz] at hp
  show Q (.ref g₃.objs.size) { st with heap := g₃.push { cls := .type "tuple", data := .seq #[x, y] } }
  rw [hsz]
  exact hQ _ (Heap.get?_push_of_some _ hq₃) (h1₃.at fun o e => Heap.get?_push_of_some _ e) (h2₃.at fun o e => Heap.get?_push_of_some _ e) hp (by rw [Heap.size_push, hsz]) up
theorem zip_next_end2 {qz ti to T j1 j2 l1 l2 : Addr} {bz : Bool} {oT : Obj} {n1 n2 : Nat} {xs ys : Array Value} {Q : Fin → Shared → Prop} (hh : A.handled = none) (D : ZipApart qz ti to j1 j2 l1 l2)
    (hq : IsZipG st.heap qz ti to (rawInt (T : Nat)) bz) (hT : st.heap.get? T = some oT) (hti : IsPair st.heap ti (.ref j1) (.ref j2))
    (h1 : st.heap.IsListIter j1 l1 n1) (hk1 : st.heap.IsList l1 xs) (hend : xs[n1]? = none)
    (hE : ∀ h' e, (∀ c o, c ≠ qz → c ≠ j1 → c ≠ j2 → st.heap.get? c = some o → h'.get? c = some o) → (∃ o, h'.get? e = some o ∧ o.cls = .type "StopIteration") → E (.ref e) { st with heap := h' }) :
    wpAny (model prog w) A (Builtin.«zip.__next__» ⟨[.ref qz], []⟩) Q E st := by
  show wpAny _ _ (field (.ref qz) 2 >>= _) _ _ _
  refine wpAny_bind (wpAny_field hq rfl (x := .bool false) rfl ?_)
  show wpAny _ _ (field (.ref qz) 3 >>= _) _ _ _
  refine wpAny_bind (wpAny_field hq rfl (x := .ref ti) rfl ?_)
  refine wpAny_bind (wpAny_seqItems hti rfl ?_)
  show wpAny _ _ (Builtin.SmallTypes.ownedTupleIsFree (.ref qz) >>= _) _ _ _
  refine wpAny_bind (free_no hq hT fun g₁ hq₁ gs₁ => ?_)
  simp only [Bool.false_eq_true, if_false]
  refine wpAny_bind ?_
  rw [← Array.forIn_toList]
  simp only [List.forIn_cons, List.forIn_nil]
  refine wpAny_bind (wpAny_bind (wpAny_holding ?_))
  show wpAny _ _ (Builtin.SmallTypes.nextOf (.ref j1) >>= _) _ _ _
  exact wpAny_bind (wpAny_nextOf_list_end hh (h1.extBut gs₁.extBut D.i1z) (hk1.extBut gs₁.extBut D.l1z) hend fun g₂ e gs₂ he => hE g₂ e (fun c o c1 c2 _ x => gs₂ _ _ c2 (gs₁.extBut _ _ c1 x)) he)
theorem pyNext_zip_item2 {qz ti to T j1 j2 l1 l2 : Addr} {bz : Bool} {oT : Obj} {n1 n2 : Nat} {xs ys : Array Value} {x y : Value} {Q : Option Value → Shared → Prop} (D : ZipApart qz ti to j1 j2 l1 l2)
    (hq : IsZipG st.heap qz ti to (rawInt (T : Nat)) bz) (hT : st.heap.get? T = some oT) (hTz : T ≠ qz) (hTi1 : T ≠ j1) (hTi2 : T ≠ j2) (hti : IsPair st.heap ti (.ref j1) (.ref j2))
    (h1 : st.heap.IsListIter j1 l1 n1) (h2 : st.heap.IsListIter j2 l2 n2) (hk1 : st.heap.IsList l1 xs) (hk2 : st.heap.IsList l2 ys) (hx : xs[n1]? = some x) (hy : ys[n2]? = some y)
    (hQ : ∀ h', IsZipG h' qz ti to (rawInt (T : Nat)) true → h'.IsListIter j1 l1 (n1 + 1) → h'.IsListIter j2 l2 (n2 + 1) → IsPair h' st.heap.objs.size x y → h'.objs.size = st.heap.objs.size + 1 →
      (∀ c o, c ≠ qz → c ≠ j1 → c ≠ j2 → st.heap.get? c = some o → h'.get? c = some o) → Q (some (.ref st.heap.objs.size)) { st with heap := h' }) :
    wpAny (model prog w) A (pyNext (.ref qz)) Q E st := by
  have hTy : st.TypeIs (.ref qz) "zip" := ⟨_, hq, rfl⟩
  unfold pyNext
  exact wpAny_bind (wpAny_attempt (wpAny_callSpecial?_slot (name := Str.ofString "__next__") hTy F.slot_zip_next
    (wpAny_call_entry F.slot_zip_next hTy F.entry_zip_next
      (zip_next_item2 (a := .none) (b := .none) D hq hT hTz hTi1 hTi2 hti h1 h2 hk1 hk2 hx hy fun h' a1 a2 a3 a4 a5 a6 => wpAny_pure (hQ h' a1 a2 a3 a4 a5 a6)) (F.args_zip_next_1 _))))
theorem pyNext_zip_end2 {qz ti to T j1 j2 l1 l2 : Addr} {bz : Bool} {oT : Obj} {n1 : Nat} {xs : Array Value} {Q : Option Value → Shared → Prop} (hh : A.handled = none) (D : ZipApart qz ti to j1 j2 l1 l2)
    (hq : IsZipG st.heap qz ti to (rawInt (T : Nat)) bz) (hT : st.heap.get? T = some oT) (hti : IsPair st.heap ti (.ref j1) (.ref j2))
    (h1 : st.heap.IsListIter j1 l1 n1) (hk1 : st.heap.IsList l1 xs) (hend : xs[n1]? = none)
    (hQ : ∀ h', (∀ c o, c ≠ qz → c ≠ j1 → c ≠ j2 → st.heap.get? c = some o → h'.get? c = some o) → Q none { st with heap := h' }) : wpAny (model prog w) A (pyNext (.ref qz)) Q E st := by
  have hTy : st.TypeIs (.ref qz) "zip" := ⟨_, hq, rfl⟩
  unfold pyNext
  refine wpAny_bind (wpAny_attempt (wpAny_callSpecial?_slot (name := Str.ofString "__next__") hTy F.slot_zip_next
    (wpAny_call_entry F.slot_zip_next hTy F.entry_zip_next (zip_next_end2 (ys := #[]) (n2 := 0) hh D hq hT hti h1 hk1 hend fun h' e hk he => ?_) (F.args_zip_next_1 _))))
  obtain ⟨o, ho, hc⟩ := he
  refine wpAny_bind (wpAny_isInstance (T := "StopIteration") (b := true) ⟨o, ho, hc⟩ isSubtype_stop ?_)
  exact wpAny_pure (hQ _ hk)
end
end PySem
set_option Elab.async false
set_option linter.all false
set_option maxRecDepth 100000
set_option maxHeartbeats 4000000
namespace PySem
open Sem (wp)
theorem zq_no_hook : typeLookup (.type "zip") "__getattr__" = pure none := by rw [typeLookup_type, builtinLookup_eq_fast]; kernel_rfl
theorem zq_no_keys : typeLookup (.type "zip") "keys" = pure none := by rw [typeLookup_type, builtinLookup_eq_fast]; kernel_rfl
theorem zq_entry : entryFor table "zip.__getattribute__" = some Builtin.«object.__getattribute__» := entryFor_alias (id' := "object.__getattribute__") (by kernel_rfl) (by decide +kernel) (by decide +kernel) (by kernel_rfl)
theorem zq_miss (q : Addr) (fs : Array Value) (tk0 : Tok) :
    Meets (Builtin.«object.__getattribute__» ⟨[.ref q, .str "keys" tk0], []⟩) (fun A R s => s.heap.get? q = some { cls := .type "zip", dict := none, data := .fields fs, slots := #[] } ∧ raisesAttr (.ref q) "keys" A R s) :=
  Meets.of_wp fun prog w A R st hs => by
    obtain ⟨hp, gg, dd, tt, oo⟩ := st
    obtain ⟨hq, hs⟩ := hs
    have hTy : (⟨hp, gg, dd, tt, oo⟩ : Shared).TypeIs (.ref q) "zip" := ⟨_, hq, rfl⟩
    have f0 := zq_no_keys
    unfold Builtin.«object.__getattribute__»
    repeat (any_goals (first | assumption | wp_step))
    exact wpAny_raiseAttrError hs.1 hs.2 (attrMsg_fits (by decide +kernel) (by decide +kernel))
theorem zip_no_keys {prog : Program} {w : World} {A : Around} {E : Value → Shared → Prop} {st : Shared} {q : Addr} {fs : Array Value} {Q : Option Value → Shared → Prop}
    (hq : st.heap.get? q = some { cls := .type "zip", dict := none, data := .fields fs, slots := #[] }) (hA : A.handled = none)
    (h : ∀ h' tk, (∀ c o, st.heap.get? c = some o → h'.get? c = some o) → Q none { st with heap := h', toks := tk }) : wpAny (model prog w) A (getAttr? (.ref q) "keys") Q E st := by
  obtain ⟨hp, gg, dd, tt, oo⟩ := st
  have hTy : ∀ t', (⟨hp, gg, dd, t', oo⟩ : Shared).TypeIs (.ref q) "zip" := fun _ => ⟨_, hq, rfl⟩
  have f1 := sub_AttributeError
  have f3 := F.slot_zip_getattribute.lookup
  have f4 := F.slot_zip_getattribute.bind (.ref q)
  have f5 := zq_no_hook
  unfold getAttr? getAttrBy? getAttrBy
  repeat (any_goals (first | assumption | exact hTy _ | ((with_reducible show wpAny _ _ (call (Value.builtin "zip.__getattribute__") _ _) _ _ _); refine call_meets F.slot_zip_getattribute (hTy _) zq_entry (F.args_zip_getattribute_2 _ _) (zq_miss q fs _) ⟨hq, hA, fun h' tk' e hx' => ?_⟩) | wp_step))
  obtain ⟨t1, u1, he1⟩ := hx'.there
  show wpAny _ _ (getattributeRaised _ _ _ _ _ _ _) _ _ _
  unfold getattributeRaised
  repeat (any_goals (first | assumption | wp_step))
  exact h _ _ hx'.keeps
end PySem
set_option Elab.async false
set_option linter.all false
set_option maxRecDepth 100000
set_option maxHeartbeats 4000000
namespace PySem
open Sem (wp)
theorem zq_plain_loop : plainId "dict.update.loop" = true := by decide +kernel
theorem zq_entry_loop : entryFor table "dict.update.loop" = some Builtin.«dict.update.loop» := entryFor_of_fast (by kernel_rfl)
section
variable {prog : Program} {w : World} {K : Type} [DecidableEq K] {kk : KeyKind prog w K}
/-- a dict whose object stays, its keys too -/
theorem dict_stay {h h' : Heap} {d : Addr} {xs : List (List K × Addr × Value)} (D : h.DictOfH (tupleKind kk) d xs) (hd : ∀ o, h.get? d = some o → h'.get? d = some o) (hk : ∀ x ∈ xs, (tupleKind kk).is h' x.1 x.2.1) : h'.DictOfH (tupleKind kk) d xs := by
  obtain ⟨o, es, ep, h1, h2, h3, h4, _, h5⟩ := D
  exact ⟨o, es, ep, hd o h1, h2, h3, h4, hk, h5⟩
theorem key_stay {h h' : Heap} {ks : List K} {a : Addr} (g : (tupleKind kk).is h ks a) (hk : ∀ o, h.get? a = some o → h'.get? a = some o) : (tupleKind kk).is h' ks a := by
  obtain ⟨o, its, n, h1, r⟩ := g
  exact ⟨o, its, n, hk o h1, r⟩
/-- between two turns of dict(zip(a, b)) -/
structure DzAt (kk : KeyKind prog w K) (h0 : Heap) (d q ti to i1 i2 l1 l2 : Addr) (ps : List (List K × Addr × Value)) (i : Nat) (h : Heap) : Prop where
  dd : h.DictOfH (tupleKind kk) d (ps.take i)
  zz : (i = 0 ∧ IsZip h q ti to .none) ∨ ∃ (t : Addr) (b : Bool) (ot : Obj), IsZipG h q ti to (rawInt (t : Nat)) b ∧ h.get? t = some ot ∧ t ≠ q ∧ t ≠ i1 ∧ t ≠ i2 ∧ t ≠ d
  pt : IsPair h ti (.ref i1) (.ref i2)
  po : ∃ a b, IsPair h to a b
  j1 : h.IsListIter i1 l1 i
  j2 : h.IsListIter i2 l2 i
  m1 : h.IsList l1 (ps.map fun p => Value.ref p.2.1).toArray
  m2 : h.IsList l2 (ps.map fun p => p.2.2).toArray
  kp : ∀ c o, h0.get? c = some o → h.get? c = some o
structure DzOk (kk : KeyKind prog w K) (h0 : Heap) (d q ti to i1 i2 l1 l2 : Addr) (ps : List (List K × Addr × Value)) : Prop where
  ap : ZipApart q ti to i1 i2 l1 l2
  dq : d ≠ q
  dti : d ≠ ti
  dto : d ≠ to
  di1 : d ≠ i1
  di2 : d ≠ i2
  dl1 : d ≠ l1
  dl2 : d ≠ l2
  nq : h0.get? q = none
  nto : h0.get? to = none
  ni1 : h0.get? i1 = none
  ni2 : h0.get? i2 = none
  nd : h0.get? d = none
  ks : ∀ p ∈ ps, (tupleKind kk).is h0 p.1 p.2.1
  un : (ps.map (·.1)).Nodup
  sz : ps.length < sizeLine
theorem dz_fresh {ps : List (List K × Addr × Value)} (un : (ps.map (·.1)).Nodup) {i : Nat} {p : List K × Addr × Value} (h : ps[i]? = some p) : storedH (ps.take i) p.1 p.2.1 p.2.2 = ps.take (i + 1) := by
  have hn : atKey (ps.take i) p.1 = none := by
    unfold atKey
    rw [Option.map_eq_none_iff, List.find?_eq_none]
    intro x hx hk
    have e : x.1 = p.1 := of_decide_eq_true hk
    obtain ⟨j, hj⟩ := List.getElem?_of_mem hx
    have hji : j < i := by
      have := (List.getElem?_eq_some_iff.mp hj).1
      rw [List.length_take] at this; omega
    rw [List.getElem?_take, if_pos hji] at hj
    have a1 : (ps.map (·.1))[j]? = some x.1 := by rw [List.getElem?_map, hj]; rfl
    have a2 : (ps.map (·.1))[i]? = some p.1 := by rw [List.getElem?_map, h]; rfl
    have := (List.getElem?_inj (i := j) (j := i) ((List.getElem?_eq_some_iff.mp a1).1) un).mp (by rw [a1, a2, e])
    omega
  rw [storedH_new hn, List.take_add_one, h]
  rfl
end
section
variable {prog : Program} {w : World} {K : Type} [DecidableEq K] {kk : KeyKind prog w K} {h0 : Heap} {d q ti to i1 i2 l1 l2 : Addr} {ps : List (List K × Addr × Value)}
theorem ne_lost {h : Heap} {c b : Addr} {o : Obj} (e : h.get? c = some o) (n : h.get? b = none) : c ≠ b := fun z => by
  rw [z, n] at e
  cases e
/-- one item of the zip -/
theorem dz_next {A : Around} {E : Value → Shared → Prop} {st : Shared} {i : Nat} {p : List K × Addr × Value} {Q : Option Value → Shared → Prop} (O : DzOk kk h0 d q ti to i1 i2 l1 l2 ps) (Z : DzAt kk h0 d q ti to i1 i2 l1 l2 ps i st.heap) (hp : ps[i]? = some p)
    (hQ : ∀ t h', IsPair h' t (.ref p.2.1) p.2.2 → h'.DictOfH (tupleKind kk) d (ps.take i) → (∃ (t : Addr) (b : Bool) (ot : Obj), IsZipG h' q ti to (rawInt (t : Nat)) b ∧ h'.get? t = some ot ∧ t ≠ q ∧ t ≠ i1 ∧ t ≠ i2 ∧ t ≠ d) → IsPair h' ti (.ref i1) (.ref i2) → (∃ a b, IsPair h' to a b) →
      h'.IsListIter i1 l1 (i + 1) → h'.IsListIter i2 l2 (i + 1) → h'.IsList l1 (ps.map fun p => Value.ref p.2.1).toArray → h'.IsList l2 (ps.map fun p => p.2.2).toArray → (∀ c o, h0.get? c = some o → h'.get? c = some o) → t ≠ d → Q (some (.ref t)) { st with heap := h' }) :
    wpAny (model prog w) A (pyNext (.ref q)) Q E st := by
  have x1 : (ps.map fun p => Value.ref p.2.1).toArray[i]? = some (.ref p.2.1) := by simp [hp]
  have x2 : (ps.map fun p => p.2.2).toArray[i]? = some p.2.2 := by simp [hp]
  have hne : ∀ {c o}, h0.get? c = some o → c ≠ q ∧ c ≠ to ∧ c ≠ i1 ∧ c ≠ i2 ∧ c ≠ d := fun e => ⟨ne_lost e O.nq, ne_lost e O.nto, ne_lost e O.ni1, ne_lost e O.ni2, ne_lost e O.nd⟩
  have lt : ∀ {c o}, st.heap.get? c = some o → st.heap.objs.size ≠ c := fun e => Nat.ne_of_gt (Heap.lt_size e)
  have hdl : ∃ o, st.heap.get? d = some o := let ⟨o, _, _, e, _⟩ := Z.dd; ⟨o, e⟩
  obtain ⟨od, hod⟩ := hdl
  have hi1 : ∃ o, st.heap.get? i1 = some o := let ⟨o, e, _⟩ := Z.j1; ⟨o, e⟩
  have hi2 : ∃ o, st.heap.get? i2 = some o := let ⟨o, e, _⟩ := Z.j2; ⟨o, e⟩
  obtain ⟨o1, ho1⟩ := hi1
  obtain ⟨o2, ho2⟩ := hi2
  rcases Z.zz with ⟨_, hz⟩ | ⟨t, b, ot, hz, ht, n1, n2, n3, n4⟩
  · obtain ⟨a, b, hto⟩ := Z.po
    refine wpAny_pyNext_zip_item O.ap hz Z.pt hto Z.j1 Z.j2 Z.m1 Z.m2 x1 x2 fun h' a1 a2 a3 a4 a5 a6 hk => ?_
    have kp : ∀ c o, h0.get? c = some o → h'.get? c = some o := fun c o e => by
      obtain ⟨b1, b2, b3, b4, _⟩ := hne e
      exact hk c o b1 b2 b3 b4 (Z.kp c o e)
    refine hQ _ h' a5 (dict_stay Z.dd (fun o e => hk d o O.dq O.dto O.di1 O.di2 e) fun x hx => key_stay (O.ks x (List.mem_of_mem_take hx)) fun o e => kp _ o e) ⟨_, false, _, a1, a5, lt hz, lt ho1, lt ho2, lt hod⟩
      (hk _ _ O.ap.TIz O.ap.TITO O.ap.TIi1 O.ap.TIi2 Z.pt) ⟨_, _, a2⟩ a3 a4 (Z.m1.at fun o e => hk _ o O.ap.l1z O.ap.l1TO O.ap.l1i1 O.ap.l1i2 e) (Z.m2.at fun o e => hk _ o O.ap.l2z O.ap.l2TO O.ap.l2i1 O.ap.l2i2 e) kp (lt hod)
  · refine pyNext_zip_item2 O.ap hz ht n1 n2 n3 Z.pt Z.j1 Z.j2 Z.m1 Z.m2 x1 x2 fun h' a1 a2 a3 a5 a6 hk => ?_
    have kp : ∀ c o, h0.get? c = some o → h'.get? c = some o := fun c o e => by
      obtain ⟨b1, b2, b3, b4, _⟩ := hne e
      exact hk c o b1 b3 b4 (Z.kp c o e)
    obtain ⟨a, b', hto⟩ := Z.po
    refine hQ _ h' a5 (dict_stay Z.dd (fun o e => hk d o O.dq O.di1 O.di2 e) fun x hx => key_stay (O.ks x (List.mem_of_mem_take hx)) fun o e => kp _ o e) ⟨t, true, ot, a1, hk t ot n1 n2 n3 ht, n1, n2, n3, n4⟩
      (hk _ _ O.ap.TIz O.ap.TIi1 O.ap.TIi2 Z.pt) ⟨a, b', hk _ _ O.ap.TOz O.ap.TOi1 O.ap.TOi2 hto⟩ a2 a3 (Z.m1.at fun o e => hk _ o O.ap.l1z O.ap.l1i1 O.ap.l1i2 e) (Z.m2.at fun o e => hk _ o O.ap.l2z O.ap.l2i1 O.ap.l2i2 e) kp (lt hod)
/-- the end of the zip -/
theorem dz_end {A : Around} {E : Value → Shared → Prop} {st : Shared} {Q : Option Value → Shared → Prop} (hh : A.handled = none) (O : DzOk kk h0 d q ti to i1 i2 l1 l2 ps) (Z : DzAt kk h0 d q ti to i1 i2 l1 l2 ps ps.length st.heap)
    (hQ : ∀ h', h'.DictOfH (tupleKind kk) d ps → (∀ c o, h0.get? c = some o → h'.get? c = some o) → Q none { st with heap := h' }) : wpAny (model prog w) A (pyNext (.ref q)) Q E st := by
  have x1 : (ps.map fun p => Value.ref p.2.1).toArray[ps.length]? = none := by simp
  have hne : ∀ {c o}, h0.get? c = some o → c ≠ q ∧ c ≠ to ∧ c ≠ i1 ∧ c ≠ i2 := fun e => ⟨ne_lost e O.nq, ne_lost e O.nto, ne_lost e O.ni1, ne_lost e O.ni2⟩
  have dd := Z.dd
  rw [List.take_length] at dd
  rcases Z.zz with ⟨_, hz⟩ | ⟨t, b, ot, hz, ht, n1, n2, n3, n4⟩
  · obtain ⟨a, b, hto⟩ := Z.po
    refine wpAny_pyNext_zip_end hh O.ap hz Z.pt hto Z.j1 Z.j2 Z.m1 Z.m2 (.inl x1) fun h' hk => ?_
    have kp : ∀ c o, h0.get? c = some o → h'.get? c = some o := fun c o e => by
      obtain ⟨b1, b2, b3, b4⟩ := hne e
      exact hk c o b1 b2 b3 b4 (Z.kp c o e)
    exact hQ h' (dict_stay dd (fun o e => hk d o O.dq O.dto O.di1 O.di2 e) fun x hx => key_stay (O.ks x hx) fun o e => kp _ o e) kp
  · refine pyNext_zip_end2 hh O.ap hz ht Z.pt Z.j1 Z.m1 x1 fun h' hk => ?_
    have kp : ∀ c o, h0.get? c = some o → h'.get? c = some o := fun c o e => by
      obtain ⟨b1, b2, b3, b4⟩ := hne e
      exact hk c o b1 b3 b4 (Z.kp c o e)
    exact hQ h' (dict_stay dd (fun o e => hk d o O.dq O.di1 O.di2 e) fun x hx => key_stay (O.ks x hx) fun o e => kp _ o e) kp
/-- the loop -/
theorem dz_loop {A : Around} {R : Result → Shared → Prop} (hh : A.handled = none) (hu : A.units + 1 < cLine) (O : DzOk kk h0 d q ti to i1 i2 l1 l2 ps) : ∀ (m i : Nat) (st : Shared), i + m = ps.length → DzAt kk h0 d q ti to i1 i2 l1 l2 ps i st.heap →
    (∀ h' tk, h'.DictOfH (tupleKind kk) d ps → (∀ c o, h0.get? c = some o → h'.get? c = some o) → R (.ok (.ret .none)) { st with heap := h', toks := tk }) →
    codeAny (model prog w) A (.builtin "dict.update.loop" ⟨[.ref d, .ref q, rawInt (i : Nat), .none], []⟩) R st
  | 0, i, st, hm, Z, h => by
    have ei : i = ps.length := by omega
    subst ei
    refine codeAny_builtin zq_entry_loop ?_
    rw [Around.under_plainId zq_plain_loop _]
    show wpAny _ _ (pyNext (.ref q) >>= _) _ _ _
    refine wpAny_bind (dz_end (A := A.in1) hh O Z fun h' a1 a2 => ?_)
    show wpAny _ _ (Builtin.Dict.addKeywords d [] >>= _) _ _ _
    exact wpAny_bind (wpAny_pure (wpAny_pure (h h' st.toks a1 a2)))
  | m + 1, i, st, hm, Z, h => by
    have hi : i < ps.length := by omega
    have hp : ps[i]? = some ps[i] := List.getElem?_eq_getElem hi
    have hmem := List.getElem_mem hi
    generalize ps[i] = p at hp hmem
    refine codeAny_builtin zq_entry_loop ?_
    rw [Around.under_plainId zq_plain_loop _]
    show wpAny _ _ (pyNext (.ref q) >>= _) _ _ _
    refine wpAny_bind (dz_next (A := A.in1) O Z hp fun t h' b1 b2 b3 b4 b5 b6 b7 b8 b9 b10 b11 => ?_)
    refine wpAny_bind (wpAny_holding ?_)
    refine wpAny_bind (wpAny_tryCatch ?_)
    unfold Builtin.Dict.pairItems
    refine wpAny_bind (wpAny_typeOf (T := "tuple") ⟨_, b1, rfl⟩ ?_)
    rw [if_pos (by decide)]
    refine wpAny_bind (wpAny_seqItems b1 rfl (wpAny_pure ?_))
    show wpAny _ _ (holding [Value.ref p.2.1, p.2.2] (dictSet d (.ref p.2.1) p.2.2)) _ _ _
    have hk' : ∀ x ∈ ps, (tupleKind kk).is h' x.1 x.2.1 := fun x hx => key_stay (O.ks x hx) fun o e => b10 _ o e
    have hsz : (ps.take i).length ≤ sizeLine := by
      have := O.sz
      rw [List.length_take]; omega
    refine wpAny_holding (wpAny_dictSet_heap (hsz := hsz) (tupleKind_room_in1 hu) (hk' p hmem) b2 fun h2 c1 c2 => ?_)
    rw [dz_fresh O.un hp] at c1
    have kp : ∀ c o, h0.get? c = some o → h2.get? c = some o := fun c o e => c2.extBut _ _ (ne_lost e O.nd) (b10 c o e)
    obtain ⟨t1, bb1, ot1, g1, g2, g3, g4, g5, g6⟩ := b3
    obtain ⟨aa, ab, hto⟩ := b5
    have Z2 : DzAt kk h0 d q ti to i1 i2 l1 l2 ps (i + 1) h2 := ⟨c1, .inr ⟨t1, bb1, ot1, c2.extBut _ _ (Ne.symm O.dq) g1, c2.extBut _ _ g6 g2, g3, g4, g5, g6⟩, c2.extBut _ _ (Ne.symm O.dti) b4, ⟨aa, ab, c2.extBut _ _ (Ne.symm O.dto) hto⟩,
      b6.extBut c2.extBut (Ne.symm O.di1), b7.extBut c2.extBut (Ne.symm O.di2), b8.extBut c2.extBut (Ne.symm O.dl1), b9.extBut c2.extBut (Ne.symm O.dl2), kp⟩
    have ec : ((i : Int) + 1) = ((i + 1 : Nat) : Int) := by omega
    rw [ec]
    exact wpAny_pure ⟨plainId_quiet zq_plain_loop _, dz_loop hh hu O m (i + 1) _ (by omega) Z2 fun h3 tk e1 e2 => h h3 tk e1 e2⟩
end
end PySem
set_option Elab.async false
set_option linter.all false
set_option maxRecDepth 100000
set_option maxHeartbeats 4000000
namespace PySem
open Sem (wp)
section
variable {prog : Program} {w : World} {K : Type} [DecidableEq K] {kk : KeyKind prog w K} {h0 : Heap} {q ti to i1 i2 l1 l2 : Addr} {ps : List (List K × Addr × Value)}
/-- dict(zip(..)), from the zip on -/
theorem call_dict_zip {A : Around} {E : Value → Shared → Prop} {st : Shared} {Q : Value → Shared → Prop} (hh : A.handled = none) (hu : A.units + 3 < cLine) (ap : ZipApart q ti to i1 i2 l1 l2) (hz : IsZip st.heap q ti to .none) (pt : IsPair st.heap ti (.ref i1) (.ref i2)) (po : IsPair st.heap to .none .none)
    (j1 : st.heap.IsListIter i1 l1 0) (j2 : st.heap.IsListIter i2 l2 0) (m1 : st.heap.IsList l1 (ps.map fun p => Value.ref p.2.1).toArray) (m2 : st.heap.IsList l2 (ps.map fun p => p.2.2).toArray) (kp : ∀ c o, h0.get? c = some o → st.heap.get? c = some o) (sz0 : h0.objs.size ≤ st.heap.objs.size)
    (nq : h0.get? q = none) (nto : h0.get? to = none) (ni1 : h0.get? i1 = none) (ni2 : h0.get? i2 = none) (ks : ∀ p ∈ ps, (tupleKind kk).is h0 p.1 p.2.1) (un : (ps.map (·.1)).Nodup) (sz : ps.length < sizeLine)
    (h : ∀ h' tk, h'.DictOfH (tupleKind kk) st.heap.objs.size ps → (∀ c o, h0.get? c = some o → h'.get? c = some o) → Q (.ref st.heap.objs.size) { st with heap := h', toks := tk }) : wpAny (model prog w) A (call (.type "dict") [.ref q]) Q E st := by
  refine callType_codes (Q₁ := fun ob s1 => ob = .ref st.heap.objs.size ∧ s1 = { st with heap := st.heap.push { cls := .type "dict", data := .dict #[] } }) F.kt_called_dict (F.kt_typeCall_dict_1 _) F.entry_dict_init (kt_code_dict_new _ ⟨rfl, rfl⟩) ?_
  rintro ob s1 ⟨rfl, rfl⟩
  have nw : (st.heap.push { cls := .type "dict", data := .dict #[] }).DictOfH (tupleKind kk) st.heap.objs.size [] := Heap.DictOfH.new st.heap
  have up : ∀ c o, st.heap.get? c = some o → (st.heap.push { cls := .type "dict", data := .dict #[] }).get? c = some o := fun c o e => Heap.get?_push_of_some _ e
  have lt : ∀ {c o}, st.heap.get? c = some o → st.heap.objs.size ≠ c := fun e => Nat.ne_of_gt (Heap.lt_size e)
  have la1 : ∃ o, st.heap.get? l1 = some o := let ⟨o, e, _⟩ := m1; ⟨o, e⟩
  have la2 : ∃ o, st.heap.get? l2 = some o := let ⟨o, e, _⟩ := m2; ⟨o, e⟩
  have ia1 : ∃ o, st.heap.get? i1 = some o := let ⟨o, e, _⟩ := j1; ⟨o, e⟩
  have ia2 : ∃ o, st.heap.get? i2 = some o := let ⟨o, e, _⟩ := j2; ⟨o, e⟩
  obtain ⟨_, el1⟩ := la1
  obtain ⟨_, el2⟩ := la2
  obtain ⟨_, ei1⟩ := ia1
  obtain ⟨_, ei2⟩ := ia2
  have O : DzOk kk h0 st.heap.objs.size q ti to i1 i2 l1 l2 ps := ⟨ap, lt hz, lt pt, lt po, lt ei1, lt ei2, lt el1, lt el2, nq, nto, ni1, ni2, Heap.get?_none_of_le sz0, ks, un, sz⟩
  refine ⟨nw.typeIs, F.args_dict_init_2 _ _, ?_⟩
  unfold Builtin.«dict.__init__»
  refine wpAny_bind ?_
  unfold Builtin.Dict.selfAndRest
  refine wpAny_bind (wpAny_notOrdered_dict nw.typeIs ?_)
  show wpAny _ _ (pure (st.heap.objs.size, [Value.ref q])) _ _ _
  refine wpAny_pure ?_
  show wpAny _ _ (Builtin.Dict.updateFrom "dict.__init__" st.heap.objs.size (.ref q) [] .none) _ _ _
  unfold Builtin.Dict.updateFrom
  refine wpAny_bind (wpAny_typeOf (T := "zip") ⟨_, up _ _ hz, rfl⟩ ?_)
  rw [if_pos (by decide)]
  refine wpAny_bind (zip_no_keys (up _ _ hz) hh fun h1 t1 k1 => ?_)
  simp only [Option.isNone_none, if_true]
  refine wpAny_bind (wpAny_rule ?_)
  have hz1 : IsZip h1 q ti to .none := k1 _ _ (up _ _ hz)
  refine wpAny_bind (wpAny_pyIter_zip hz1 ?_)
  have kp1 : ∀ c o, h0.get? c = some o → h1.get? c = some o := fun c o e => k1 c o (up c o (kp c o e))
  have Z : DzAt kk h0 st.heap.objs.size q ti to i1 i2 l1 l2 ps 0 h1 := ⟨dict_stay nw (fun o e => k1 _ o e) fun x hx => (nomatch hx), .inl ⟨rfl, hz1⟩, k1 _ _ (up _ _ pt), ⟨_, _, k1 _ _ (up _ _ po)⟩, j1.at fun o e => k1 _ o (up _ o e), j2.at fun o e => k1 _ o (up _ o e), m1.at fun o e => k1 _ o (up _ o e), m2.at fun o e => k1 _ o (up _ o e), kp1⟩
  exact wpAny_pure ⟨plainId_quiet zq_plain_loop _, dz_loop (A := A.in1) hh (by show A.units + 1 + 1 < cLine; omega) O ps.length 0 _ (by omega) Z fun h2 t2 c1 c2 => ⟨rfl, h h2 t2 c1 c2⟩⟩
end
end PySem
namespace L2
open PySem PySem.Spec PyProof.Rows
theorem apart_nat (n a b : Nat) (h1 : a < n) (h2 : b < n) : ZipApart (n + 4) (n + 2) (n + 3) n (n + 1) a b := by
  constructor
  all_goals (intro z; have z' : (_ : Nat) = _ := z; omega)
def pairUp (ks : List (Addr × List Key)) (us : List Value) : List (List Key × Addr × Value) := List.zipWith (fun p u => (p.2, p.1, u)) ks us
theorem pairUp_facts : ∀ {ks : List (Addr × List Key)} {us : List Value}, us.length = ks.length → (pairUp ks us).map (fun p => Value.ref p.2.1) = ks.map (fun p => Value.ref p.1) ∧ (pairUp ks us).map (fun p => p.2.2) = us ∧ (pairUp ks us).map (·.1) = ks.map (·.2) ∧ (pairUp ks us).length = ks.length
  | [], [], _ => ⟨rfl, rfl, rfl, rfl⟩
  | [], _ :: _, h => by cases h
  | _ :: _, [], h => by cases h
  | k :: ks, u :: us, h => by
    obtain ⟨a, b, c, d⟩ := pairUp_facts (ks := ks) (us := us) (Nat.succ.inj h)
    refine ⟨?_, ?_, ?_, ?_⟩
    · show Value.ref k.1 :: (pairUp ks us).map _ = Value.ref k.1 :: _
      rw [a]
    · show u :: (pairUp ks us).map _ = u :: us
      rw [b]
    · show k.2 :: (pairUp ks us).map _ = k.2 :: _
      rw [c]
    · show (pairUp ks us).length + 1 = ks.length + 1
      rw [d]
theorem pairUp_mem : ∀ {ks : List (Addr × List Key)} {us : List Value} {p : List Key × Addr × Value}, p ∈ pairUp ks us → (p.2.1, p.1) ∈ ks
  | [], us, p, h => by cases us <;> cases h
  | _ :: _, [], p, h => by cases h
  | k :: ks, u :: us, p, h => by
    have h' : p ∈ (k.2, k.1, u) :: pairUp ks us := h
    rcases List.mem_cons.mp h' with e | e
    · rw [e]; exact List.mem_cons_self
    · exact List.mem_cons_of_mem _ (pairUp_mem e)
theorem pairUp_kt {H : Hp} : ∀ {ks : List (Addr × List Key)} {vs : List V} {us : List Value}, Vals vs us → vs.length = ks.length → (∀ p ∈ ks, H p.1 = some (.tup (p.2.map kV))) → KT H ((ks.map (·.2)).zip vs) (pairUp ks us)
  | [], [], _, r, _, _ => by cases r; exact .nil
  | [], _ :: _, _, _, h, _ => by cases h
  | _ :: _, [], _, _, h, _ => by cases h
  | k :: ks, v :: vs, us, r, h, g => by
    cases r with
    | @cons x u xs us' r1 r2 => exact .cons ⟨rfl, g k List.mem_cons_self, r1⟩ (pairUp_kt r2 (Nat.succ.inj h) fun p hp => g p (List.mem_cons_of_mem _ hp))
section
variable {X : Cx}
def tDictZip (K : PySem.W.Frag) (t : TA) : TE := fun σ H Q => t σ H fun xs H2 => ∃ (a b : Addr) (ks : List (Addr × List Key)) (vs : List V), xs = [.ref a, .ref b] ∧ SqL K H2 a (ks.map fun p => V.ref p.1) ∧ SqL K H2 b vs ∧ vs.length = ks.length ∧
  (∀ p ∈ ks, H2 p.1 = some (.tup (p.2.map kV))) ∧ (ks.map (·.2)).Nodup ∧ ks.length < 1000 ∧ ∀ d, H2 d = none → Q (.ref d) (upd H2 d (.dT ((ks.map (·.2)).zip vs)))
theorem vals_refs2 : ∀ {ks : List (Addr × List Key)} {us : List Value}, Vals (ks.map fun p => V.ref p.1) us → us = ks.map fun p => Value.ref p.1
  | [], us, r => by cases r; rfl
  | k :: ks, us, r => by
    cases r with
    | cons r1 r2 =>
      cases r1
      rw [vals_refs2 r2]
      rfl
theorem pe_dictzip {ea eb : Expr} {t : TA} {p p2 pos pos2 : Pos} (hc : X.calm = true) (hu : X.A.units + 3 < cLine) (hg : Gl X "dict") (hm : X.mg "dict" = none) (hg2 : Gl X "zip") (hm2 : X.mg "zip" = none) (ha : PA X [ea, eb] t)
    (he : starEach [ea, eb] X.env = (false, eval ea X.env) :: starEach [eb] X.env := by rfl) (hpl : (backTo pos2 (starEach [eb] X.env)).any (·.1) = false := by rfl) (hs2 : starEach [.Call (.Name "zip" p2) [ea, eb] [] pos2] X.env = [(false, eval (.Call (.Name "zip" p2) [ea, eb] [] pos2) X.env)] := by rfl) :
    PE X (.Call (.Name "dict" p) [.Call (.Name "zip" p2) [ea, eb] [] pos2] [] pos) (tDictZip X.K t) := by
  intro pins s σ H Q I h
  refine wpAny_Call_Name_kw (ld_blt I hg hm PyProof.Rows.boot_dict (PyProof.Rows.callWith_type1 (args_one hs2 ?_) hs2 rfl))
  refine wpAny_Call_Name_kw (ld_blt I hg2 hm2 PyProof.Rows.boot_zip (PyProof.Rows.callWith_type1 (thn (ha pos2 pins s σ H _ I h) fun us s1 ⟨xs, H2, I1, r1, q1⟩ => ?_) he hpl))
  obtain ⟨a, b, ks, vs, rfl, hA, hB, hlen, hK, hN, h1000, q⟩ := q1
  obtain ⟨ua, ub, rfl, ra, rb⟩ := vals2 r1
  cases ra
  cases rb
  obtain ⟨its1, v1, pl1, _⟩ := I1.list hA
  obtain ⟨its2, v2, pl2, _⟩ := I1.list hB
  have e1 := vals_refs2 v1
  subst e1
  have hl2 : its2.length = ks.length := by rw [← v2.length]; exact hlen
  obtain ⟨f1, f2, f3, f4⟩ := pairUp_facts hl2
  have L1 : s1.heap.IsList a ((pairUp ks its2).map fun p => Value.ref p.2.1).toArray := by rw [f1]; exact pl1.isList
  have L2' : s1.heap.IsList b ((pairUp ks its2).map fun p => p.2.2).toArray := by rw [f2]; exact pl2.isList
  have lt1 : a < s1.heap.objs.size := by obtain ⟨o, ho, _⟩ := L1; exact Heap.lt_size ho
  have lt2 : b < s1.heap.objs.size := by obtain ⟨o, ho, _⟩ := L2'; exact Heap.lt_size ho
  have hsz : s1.heap.objs.size < s1.heap.objs.size + 5 := by omega
  refine call_zip_2 L1 L2' fun h' g1 g2 g3 g4 g5 g6 gk => ?_
  have no : ∀ j, s1.heap.get? (s1.heap.objs.size + j) = none := fun j => Heap.get?_none_of_le (Nat.le_add_right _ _)
  have ap : ZipApart (s1.heap.objs.size + 4) (s1.heap.objs.size + 2) (s1.heap.objs.size + 3) s1.heap.objs.size (s1.heap.objs.size + 1) a b := apart_nat _ _ _ lt1 lt2
  refine call_dict_zip (kk := mixKind X.prog X.w) (h0 := s1.heap) (st := { s1 with heap := h' }) (ps := pairUp ks its2) (I.ok.hd hc) hu ap g1 g2 g3 g4 g5 (L1.at fun o e => gk _ o e) (L2'.at fun o e => gk _ o e) gk (by show _ ≤ h'.objs.size; rw [g6]; omega)
    (no 4) (no 3) (no 0) (no 1) (fun x hx => key_of I1.hok (hK _ (pairUp_mem hx))) (by rw [f3]; exact hN) (by rw [f4]; exact small1000 (by omega)) fun h2 tk c1 c2 => ?_
  have hd : s1.heap.objs.size ≤ h'.objs.size := by rw [g6]; omega
  obtain ⟨o, es, ep, z1, z2, z3, z4, _, z5⟩ := c1
  have hH : H2 h'.objs.size = none := I1.hok.fresh hd
  refine ⟨.ref h'.objs.size, upd H2 h'.objs.size (.dT ((ks.map (·.2)).zip vs)), I1.laid (a := h'.objs.size) (t' := tk) c2 hd ⟨?_, ?_, pairUp ks its2, ?_, o, es, ep, z1, z2, z3, z4, z5⟩, rfl, q _ hH⟩
  · rw [List.length_zip, List.length_map, hlen, Nat.min_self]
    exact Nat.le_of_lt (small1000 (by omega))
  · have hb := I1.big
    exact beq_eq_false_iff_ne.mpr (by intro z; rw [z] at hd; exact absurd (Nat.lt_of_lt_of_le hb hd) (Nat.lt_irrefl _))
  · exact pairUp_kt v2 hlen fun p hp => by
      rw [upd_ne (ne_of_none (hK p hp) hH)]
      exact hK p hp
end
end L2
set_option Elab.async false
set_option linter.all false
set_option maxRecDepth 100000
set_option maxHeartbeats 4000000
namespace L2
open PySem PySem.Spec PyProof.Rows
section
variable {X : Cx}
/-! xs.insert(0, y) -/
def rIns0 : V → List V → Hp → VK → Prop := fun x vs H Q => ∃ l xs y, x = .ref l ∧ vs = [.int 0, y] ∧ H l = some (.lst xs) ∧ xs.length < sizeLine ∧ Q .non (upd H l (.lst (y :: xs)))
theorem mt_ins0 : MtM X "list.insert" rIns0 := by
  intro pins s σ H x vs v us Q I rx rv h
  obtain ⟨l, xs, y, rfl, rfl, hH, hz, q⟩ := h
  cases rx
  obtain ⟨u0, u1, rfl, r0, r1⟩ := vals2 rv
  obtain ⟨t0, rfl⟩ := r0
  obtain ⟨z, its, n, r, hl, e⟩ := I.lstM hH
  have hs : its.toArray.size ≤ sizeLine := by rw [List.size_toArray]; omega
  refine call_meets F.slot_list_insert ⟨_, e, rfl⟩ F.entry_list_insert (F.args_list_insert_3 _ _ _) (AutoSeq1.list_insert_list_int_val_1 l its.toArray n 0 t0 u1 (by decide) hs) ⟨e, ?_⟩
  refine ⟨.non, _, I.lset (its' := u1 :: its) hH e (by simp) (.cons r1 r) ?_, rfl, q⟩
  rw [List.length_cons]
  omega
/-! max of a list of ints -/
theorem vals_ints2 : ∀ {ns : List Int} {us : List Value}, Vals (ns.map V.int) us → ∃ xs : List (Int × Tok), us = xs.map (fun p => Value.int p.1 p.2) ∧ ns = xs.map (·.1)
  | [], us, r => by cases r; exact ⟨[], rfl, rfl⟩
  | n :: ns, us, r => by
    cases r with
    | cons r1 r2 =>
      obtain ⟨t, rfl⟩ := r1
      obtain ⟨xs, h1, h2⟩ := vals_ints2 r2
      exact ⟨(n, t) :: xs, by rw [h1]; rfl, by rw [h2]; rfl⟩
theorem call_maxL (hc : X.calm = true) : CallR X (.builtin "max") (fun xs H Q => ∃ (p : Addr) (ns : List Int), xs = [.ref p] ∧ SqL X.K H p (ns.map V.int) ∧ 0 < ns.length ∧ ∀ M, M ∈ ns → (∀ a ∈ ns, a ≤ M) → Q (.int M) H) := by
  intro pins s σ H xs us Q I r h
  obtain ⟨p, ns, rfl, hp, hn, q⟩ := h
  obtain ⟨u, rfl, ru⟩ := vals1 r
  cases ru
  obtain ⟨its, r1, p1, _⟩ := I.list hp
  obtain ⟨ys, rfl, rfl⟩ := vals_ints2 r1
  rw [List.length_map] at hn
  have e : intItems ys.toArray = (ys.map (fun p => Value.int p.1 p.2)).toArray := by simp [intItems]
  have val : ∀ j, j < ys.length → ∃ y, ys[j]? = some y ∧ PySem.numAt ys.toArray j = y.1 := fun j hj => ⟨ys[j], List.getElem?_eq_getElem hj, by simp [PySem.numAt, hj]⟩
  refine max_intList (xs := ys.toArray) (I.ok.hd hc) (by rw [e]; exact p1.isList) (by rw [List.size_toArray]; exact hn) fun v h' tk hv hk => ?_
  obtain ⟨t, rfl⟩ := intItems_at hv
  obtain ⟨h1, h2⟩ := argBest_gt (PySem.numAt ys.toArray) (ys.toArray.size - 1)
  generalize argBest (fun i j => decide (PySem.numAt ys.toArray i > PySem.numAt ys.toArray j)) (ys.toArray.size - 1) = b at h1 h2 ⊢
  have hs : ys.toArray.size = ys.length := List.size_toArray
  obtain ⟨y, y1, y2⟩ := val b (by omega)
  refine ⟨.int _, H, I.kept hk, ⟨t, rfl⟩, q _ ?_ fun a ha => ?_⟩
  · rw [y2]
    exact List.mem_map.mpr ⟨y, List.mem_of_getElem? y1, rfl⟩
  · obtain ⟨x, hx, rfl⟩ := List.mem_map.mp ha
    obtain ⟨j, hj⟩ := List.getElem?_of_mem hx
    have hjl := (List.getElem?_eq_some_iff.mp hj).1
    obtain ⟨x', x1, x2⟩ := val j hjl
    rw [hj] at x1
    cases x1
    rw [← x2]
    exact h2 j (by omega)
end
end L2
namespace Ts
open PySem L2
def top (i : Nat) : Stmt := PySem.Challenge.pw_topslip_k06_whole_spans.main.body.getD i (.Pass ⟨0, 0, 0, 0⟩)
abbrev sDepth : Stmt := top 8
abbrev sCRows : Stmt := top 9
abbrev sCKeys : Stmt := top 10
abbrev sCKey : Stmt := top 11
abbrev sCVal : Stmt := top 12
abbrev sCNums : Stmt := top 13
abbrev sCount : Stmt := top 14
abbrev sPair : Stmt := top 16
abbrev sBelow : Stmt := top 17
abbrev sPlace : Stmt := top 19
abbrev sNumBy : Stmt := top 20
abbrev sPaired : Stmt := top 21
abbrev sSpan : Stmt := top 23
abbrev sIsSpan : Stmt := top 24
abbrev sCSpan : Stmt := top 25
abbrev sWithin : Stmt := top 26
abbrev sLevelsOf : Stmt := top 27
abbrev sOutside : Stmt := top 28
abbrev sLeads : Stmt := top 29
abbrev sAt : Stmt := top 31
abbrev sBy : Stmt := top 32
abbrev sJoin : Stmt := top 33
abbrev sLevels : Stmt := top 34
abbrev sLeaves : Stmt := top 35
abbrev sStays : Stmt := top 36
abbrev sOuter : Stmt := top 37
abbrev sBent : Stmt := top 38
abbrev sLaw : Stmt := top 39
end Ts
namespace Ts
open PySem L2
def bb : Nat := 1000000
def pl : Nat := 17900
theorem two_dl : 2 < 2 ^ dl := Nat.lt_of_lt_of_le (show 2 < 2 ^ 2 by decide) (Nat.pow_le_pow_right (by decide) (by decide))
def spBelow : Sp := fun vs H Q _ => ∃ n : Nat, vs = [.int (n : Int)] ∧ n < 2 ^ (bb + 1) ∧ Q (.int ((tri n : Nat) : Int)) H
def spPair : Sp := fun vs H Q _ => ∃ a b : Nat, vs = [.int (a : Int), .int (b : Int)] ∧ a < 2 ^ bb ∧ b < 2 ^ bb ∧ Q (.int ((pairN a b : Nat) : Int)) H
section
variable {P : Program} {w : World} {K : PySem.W.Frag} {mg : Str → Option Value} {base : Heap} {f : Addr} {fd : FuncData}
theorem scBelow : FnScope ["total"] ["total"] (defScope sBelow) := ⟨rfl, rfl, rfl, by decide +kernel, rfl, by decide +kernel, by decide +kernel⟩
theorem ok_below (F : Fun K "pairs_below" "pairs_below" sBelow f fd) : FnOk P w K mg base CX0 1 f fd ["total"] spBelow := by
  refine F.ok scBelow (fun vs H Q E h => ?_) (fun cdv A outer s H vs Q E hr h => ?_)
  · obtain ⟨n, rfl, _⟩ := h
    rfl
  obtain ⟨n, rfl, hn, q⟩ := h
  refine ⟨_, pss_one (ps_ret (pe_op n_div (pe_op n_mul (pv 0) (pe_op n_add (pv 0) pe_int)) pe_int)), ?_⟩
  exact ⟨_, rfl, _, rfl, n, 1, n + 1, rfl, rfl, trivial, rfl, n, n + 1, n * (n + 1), rfl, rfl, ⟨bb + 1, bb + 2, hn, succ_lt hn, by decide⟩, rfl, n * (n + 1), 2, tri n, rfl, rfl, ⟨by decide, two_dl⟩, rfl, q⟩
theorem scPair : FnScope ["one", "two", "total"] ["one", "two"] (defScope sPair) := ⟨rfl, rfl, rfl, by decide +kernel, rfl, by decide +kernel, by decide +kernel⟩
theorem ok_pair {g : Addr} {gd : FuncData} (F : Fun K "pair_of" "pair_of" sPair f fd) (G : FnOk P w K mg base CX0 1 g gd ["total"] spBelow) (bG : Binds K gd ["total"] []) (kG : PySem.W.keepIn K (.ref g) = true) (mG : mg "pairs_below" = some (.ref g)) :
    FnOk P w K mg base CX0 2 f fd ["one", "two"] spPair := by
  refine F.ok scPair (fun vs H Q E h => ?_) (fun cdv A outer s H vs Q E hr h => ?_)
  · obtain ⟨a, b, rfl, _⟩ := h
    rfl
  obtain ⟨a, b, rfl, ha, hb, q⟩ := h
  refine ⟨_, pss_cons (ps_if (pw_or (pt_cmpR op_lt (pv 0) pe_int (nomark _)) (pw_or1 (pt_cmpR op_lt (pv 1) pe_int (nomark _)))).pt pss_never pss_nil)
    (pss_cons (ps_set (i := 2) scPair.nd rfl (Or.inl rfl) (pe_op n_add (pv 0) (pv 1)))
    (pss_one (ps_ret (pe_op n_add (pe_call G hr rfl mG kG bG .nil pass0 (pa_cons (pv 2) pa_nil)) (pv 1))))), ?_⟩
  refine ⟨_, rfl, _, _, rfl, rfl, _, rfl, iteN (by omega) ?_⟩
  refine ⟨_, rfl, _, _, rfl, rfl, _, rfl, iteN (by omega) ?_⟩
  refine ⟨_, rfl, _, rfl, a, b, a + b, rfl, rfl, trivial, rfl, ?_⟩
  exact ⟨_, rfl, a + b, rfl, add_lt ha hb, _, rfl, tri (a + b), b, pairN a b, rfl, rfl, trivial, rfl, q⟩
end
end Ts
namespace Ts
/-! trees -/
def up : List Nat → List Nat
  | a :: b :: r => pairN a b :: up r
  | _ => []
def down : List Nat → List Nat
  | [] => []
  | n :: r => oneN n :: twoN n :: down r
theorem down_up : ∀ xs : List Nat, xs.length % 2 = 0 → down (up xs) = xs
  | [], _ => rfl
  | [_], h => by simp at h
  | a :: b :: r, h => by
    show oneN (pairN a b) :: twoN (pairN a b) :: down (up r) = a :: b :: r
    rw [(parts_pair a b).1, (parts_pair a b).2, down_up r (by simp only [List.length_cons] at h; omega)]
theorem len_up : ∀ xs : List Nat, (up xs).length = xs.length / 2
  | [] => rfl
  | [x] => by show 0 = 1 / 2; rfl
  | a :: b :: r => by
    show (up r).length + 1 = (r.length + 1 + 1) / 2
    rw [len_up r]; omega
theorem up_get : ∀ (xs : List Nat) (i : Nat), 2 * i + 1 < xs.length → (up xs)[i]? = some (pairN (xs.getD (2 * i) 0) (xs.getD (2 * i + 1) 0))
  | [], i, h => by simp at h
  | [_], i, h => by simp only [List.length_singleton] at h; omega
  | a :: b :: r, 0, _ => rfl
  | a :: b :: r, i + 1, h => by
    have e1 : 2 * (i + 1) = 2 * i + 1 + 1 := by omega
    have e2 : 2 * (i + 1) + 1 = 2 * i + 1 + 1 + 1 := by omega
    show (up r)[i]? = _
    rw [up_get r i (by simp only [List.length_cons] at h; omega), e2, e1]
    rfl
/-- d times up, d times down -/
def ups : Nat → List Nat → List Nat
  | 0, xs => xs
  | d + 1, xs => ups d (up xs)
theorem ups_succ : ∀ (d : Nat) (xs : List Nat), ups (d + 1) xs = up (ups d xs)
  | 0, _ => rfl
  | d + 1, xs => ups_succ d (up xs)
theorem len_ups : ∀ (d : Nat) (xs : List Nat), (ups d xs).length = xs.length / 2 ^ d
  | 0, xs => by show xs.length = _; rw [Nat.pow_zero, Nat.div_one]
  | d + 1, xs => by
    show (ups d (up xs)).length = _
    rw [len_ups d (up xs), len_up, Nat.div_div_eq_div_mul, Nat.pow_succ, Nat.mul_comm]
/-- the top of 2^d places -/
def topN (d : Nat) (xs : List Nat) : Nat := (ups d xs).headD 0
theorem ups_one {d : Nat} {xs : List Nat} (h : xs.length = 2 ^ d) : ups d xs = [topN d xs] := by
  have l : (ups d xs).length = 1 := by rw [len_ups, h, Nat.div_self (Nat.two_pow_pos d)]
  unfold topN
  match e : ups d xs, l with
  | [x], _ => rfl
/-! rows -/
abbrev Row := Nat × Nat
def leaves (c : Nat) (rows : List Row) : List Nat := rows.foldl (fun xs r => xs.set r.1 (r.2 + 1)) (List.replicate c 0)
def Rising (rs : List Row) : Prop := rs.Pairwise fun a b => a.1 < b.1
theorem rising_ext : ∀ {xs ys : List Row}, Rising xs → Rising ys → (∀ r, r ∈ xs ↔ r ∈ ys) → xs = ys
  | [], [], _, _, _ => rfl
  | [], y :: ys, _, _, h => absurd ((h y).mpr List.mem_cons_self) (by simp)
  | x :: xs, [], _, _, h => absurd ((h x).mp List.mem_cons_self) (by simp)
  | x :: xs, y :: ys, hx, hy, h => by
    obtain ⟨h1, h2⟩ := List.pairwise_cons.mp hx
    obtain ⟨h3, h4⟩ := List.pairwise_cons.mp hy
    have e : x = y := by
      rcases List.mem_cons.mp ((h x).mp List.mem_cons_self) with q | q
      · exact q
      · rcases List.mem_cons.mp ((h y).mpr List.mem_cons_self) with q' | q'
        · exact q'.symm
        · have a := h3 x q
          have b := h1 y q'
          omega
    subst e
    congr 1
    refine rising_ext h2 h4 fun r => ⟨fun m => ?_, fun m => ?_⟩
    · rcases List.mem_cons.mp ((h r).mp (List.mem_cons_of_mem _ m)) with q | q
      · have := h1 r m; rw [q] at this; omega
      · exact q
    · rcases List.mem_cons.mp ((h r).mpr (List.mem_cons_of_mem _ m)) with q | q
      · have := h3 r m; rw [q] at this; omega
      · exact q
theorem len_fold : ∀ (rows : List Row) (xs : List Nat), (rows.foldl (fun xs r => xs.set r.1 (r.2 + 1)) xs).length = xs.length
  | [], _ => rfl
  | r :: rs, xs => by
    show (rs.foldl _ (xs.set r.1 (r.2 + 1))).length = _
    rw [len_fold rs, List.length_set]
theorem len_leaves (c : Nat) (rows : List Row) : (leaves c rows).length = c := by unfold leaves; rw [len_fold, List.length_replicate]
/-- rows that may be handed in: places, no key twice -/
structure RowsOk (c : Nat) (rows : List Row) : Prop where
  keys : ∀ r ∈ rows, r.1 < c
  nd : (rows.map (·.1)).Nodup
theorem fold_get : ∀ (rows : List Row) (xs : List Nat) (k : Nat), (∀ r ∈ rows, r.1 < xs.length) → (rows.map (·.1)).Nodup →
    (∀ v, (k, v) ∈ rows → (rows.foldl (fun xs r => xs.set r.1 (r.2 + 1)) xs)[k]? = some (v + 1)) ∧ ((∀ v, (k, v) ∉ rows) → (rows.foldl (fun xs r => xs.set r.1 (r.2 + 1)) xs)[k]? = xs[k]?)
  | [], xs, k, _, _ => ⟨fun v h => by simp at h, fun _ => rfl⟩
  | r :: rs, xs, k, hk, hn => by
    have hn' := List.nodup_cons.mp (by simpa using hn : (r.1 :: rs.map (·.1)).Nodup)
    obtain ⟨i1, i2⟩ := fold_get rs (xs.set r.1 (r.2 + 1)) k (fun q hq => by rw [List.length_set]; exact hk q (List.mem_cons_of_mem _ hq)) hn'.2
    constructor
    · intro v hv
      rcases List.mem_cons.mp hv with e | e
      · subst e
        show (rs.foldl _ (xs.set k (v + 1)))[k]? = _
        rw [i2 fun v' z => hn'.1 (List.mem_map.mpr ⟨(k, v'), z, rfl⟩)]
        exact List.getElem?_set_self (hk (k, v) List.mem_cons_self)
      · exact i1 v e
    · intro h
      show (rs.foldl _ (xs.set r.1 (r.2 + 1)))[k]? = _
      rw [i2 fun v z => h v (List.mem_cons_of_mem _ z)]
      have : r.1 ≠ k := fun e => h r.2 (by rw [← e]; exact List.mem_cons_self)
      exact List.getElem?_set_ne this
theorem leaves_get {c : Nat} {rows : List Row} (R : RowsOk c rows) {k v : Nat} : (leaves c rows)[k]? = some (v + 1) ↔ (k, v) ∈ rows := by
  have h := fold_get rows (List.replicate c 0) k (fun r hr => by rw [List.length_replicate]; exact R.keys r hr) R.nd
  constructor
  · intro e
    refine Classical.byContradiction fun no => ?_
    by_cases z : ∃ v', (k, v') ∈ rows
    · obtain ⟨v', hv'⟩ := z
      have := h.1 v' hv'
      unfold leaves at e
      rw [e] at this
      have q : v = v' := by have := Option.some.inj this; omega
      exact no (q ▸ hv')
    · have := h.2 fun v' hv' => z ⟨v', hv'⟩
      unfold leaves at e
      rw [e] at this
      rw [List.getElem?_replicate] at this
      split at this
      · have := Option.some.inj this; omega
      · cases this
  · exact fun hv => h.1 v hv
end Ts
namespace Ts
open PySem L2
/-- a def of the text that may be called by its name -/
def Has (P : Program) (w : World) (K : PySem.W.Frag) (mg : Str → Option Value) (base : Heap) (x : Str) (k : Nat) (ps : List Str) (sp : Sp) : Prop :=
  ∃ g gd, FnOk P w K mg base CX0 k g gd ps sp ∧ Binds K gd ps [] ∧ PySem.W.keepIn K (.ref g) = true ∧ mg x = some (.ref g)
theorem pe_has {X : Cx} {x : Str} {k : Nat} {ps : List Str} {sp : Sp} {e : Expr} {es : List Expr} {t : TA} {p pos : Pos} (h : Has X.prog X.w X.K X.mg X.base x k ps sp) (hr : Room k X.A) (ha : PA X (e :: es) t) (hg : Gl X x := by rfl)
    (hdb : (x == ("__debug__" : Str)) = false := by decide) (he : starEach (e :: es) X.env = (false, eval e X.env) :: starEach es X.env := by rfl) (hpl : (backTo pos (starEach es X.env)).any (·.1) = false := by rfl) :
    PE X (.Call (.Name x p) (e :: es) [] pos) (tCall sp [] E0 t) := by
  obtain ⟨g, gd, G, bG, kG, mG⟩ := h
  exact pe_call G hr hg mG kG bG .nil pass0 ha hdb he hpl
/-! heaps -/
theorem _root_.L2.Same.new {H H' : Hp} {m : Addr} {o : HO} (e : Same H H') (h : H m = none) : Same H (upd H' m o) := fun b u q => by
  rw [upd_ne (ne_of_none q h)]; exact e b u q
theorem _root_.L2.Same.upd {H : Hp} {m : Addr} {o : HO} (h : H m = none) : Same H (upd H m o) := Same.new (Same.refl H) h
/-! numbers, rows -/
def vn (xs : List Nat) : List V := xs.map fun (n : Nat) => V.int (n : Int)
theorem len_vn (xs : List Nat) : (vn xs).length = xs.length := by unfold vn; rw [List.length_map]
theorem vn_get {xs : List Nat} {i n : Nat} (h : xs[i]? = some n) : (vn xs)[i]? = some (.int (n : Int)) := by unfold vn; rw [List.getElem?_map, h]; rfl
theorem vn_set (xs : List Nat) (i n : Nat) : (vn xs).set i (.int (n : Int)) = vn (xs.set i n) := by unfold vn; rw [List.map_set]
theorem vn_app (xs ys : List Nat) : vn xs ++ vn ys = vn (xs ++ ys) := by unfold vn; rw [List.map_append]
theorem vn_zeros (k : Nat) : (List.replicate ((k : Nat) : Int).toNat [V.int 0]).flatten = vn (List.replicate k 0) := by
  rw [Int.toNat_natCast]
  unfold vn
  rw [List.map_replicate]
  induction k with
  | zero => rfl
  | succ k ih => rw [List.replicate_succ, List.flatten_cons, ih, List.replicate_succ]; rfl
abbrev RowN := Addr × Nat × Nat
def RowsN (H : Hp) (rs : List RowN) : Prop := ∀ r ∈ rs, H r.1 = some (.tup [.int (r.2.1 : Int), .int (r.2.2 : Int)])
def refsN (rs : List RowN) : List V := rs.map fun r => V.ref r.1
def bare (rs : List RowN) : List Row := rs.map (·.2)
theorem len_refs (rs : List RowN) : (refsN rs).length = rs.length := by unfold refsN; rw [List.length_map]
theorem refs_get {rs : List RowN} {i : Nat} {x : V} (h : (refsN rs)[i]? = some x) : ∃ r, rs[i]? = some r ∧ x = .ref r.1 ∧ r ∈ rs := by
  unfold refsN at h
  rw [List.getElem?_map] at h
  cases q : rs[i]? with
  | none => rw [q] at h; cases h
  | some r => rw [q] at h; cases h; exact ⟨r, rfl, rfl, List.mem_of_getElem? q⟩
theorem RowsN.same {H H' : Hp} {rs : List RowN} (h : RowsN H rs) (e : Same H H') : RowsN H' rs := fun r hr => e _ _ (h r hr)
theorem take_one {α : Type} {xs : List α} {i : Nat} {x : α} (h : xs[i]? = some x) : xs.take (i + 1) = xs.take i ++ [x] := by
  rw [List.take_add_one, h]; rfl
theorem leaves_snoc (c : Nat) (rs : List Row) (r : Row) : leaves c (rs ++ [r]) = (leaves c rs).set r.1 (r.2 + 1) := by
  unfold leaves; rw [List.foldl_append]; rfl
theorem ixN_nat {n j : Nat} (h : j < n) : ixN n (j : Int) = some j := by
  unfold ixN
  rw [if_pos (by omega), if_pos (by omega)]; simp
def metK (rs : List RowN) : List (Key × V) := rs.map fun r => (Sum.inl (r.2.1 : Int), V.bl true)
theorem len_metK (rs : List RowN) : (metK rs).length = rs.length := by unfold metK; rw [List.length_map]
theorem metK_none {rs : List RowN} {k : Nat} (h : k ∉ rs.map (·.2.1)) : valV (metK rs) (Sum.inl (k : Int)) = none := by
  cases q : valV (metK rs) (Sum.inl (k : Int)) with
  | none => rfl
  | some v =>
    exfalso
    have m := valV_in q
    unfold metK at m
    rw [List.map_map] at m
    obtain ⟨r, hr, e⟩ := List.mem_map.mp m
    have e2 : ((r.2.1 : Nat) : Int) = (k : Int) := Sum.inl.inj e
    exact h (List.mem_map.mpr ⟨r, hr, by omega⟩)
theorem metK_put {rs : List RowN} {i : Nat} {r : RowN} (h : rs[i]? = some r) (hn : valV (metK (rs.take i)) (Sum.inl (r.2.1 : Int)) = none) : putK (metK (rs.take i)) (Sum.inl (r.2.1 : Int)) (.bl true) = metK (rs.take (i + 1)) := by
  rw [putK_new _ hn, take_one h]
  unfold metK
  rw [List.map_append]; rfl
theorem not_before {rs : List RowN} (nd : ((bare rs).map (·.1)).Nodup) {i : Nat} {r : RowN} (h : rs[i]? = some r) : r.2.1 ∉ (rs.take i).map (·.2.1) := by
  intro m
  obtain ⟨q, hq, e⟩ := List.mem_map.mp m
  obtain ⟨j, hj⟩ := List.getElem?_of_mem hq
  have hji : j < i := by
    have := (List.getElem?_eq_some_iff.mp hj).1
    rw [List.length_take] at this; omega
  rw [List.getElem?_take, if_pos hji] at hj
  have nd' : (rs.map (·.2.1)).Nodup := by
    have z : (bare rs).map (·.1) = rs.map (·.2.1) := by unfold bare; rw [List.map_map]; rfl
    rw [← z]; exact nd
  have h1 : (rs.map (·.2.1))[j]? = some q.2.1 := by rw [List.getElem?_map, hj]; rfl
  have h2 : (rs.map (·.2.1))[i]? = some r.2.1 := by rw [List.getElem?_map, h]; rfl
  have hi := (List.getElem?_eq_some_iff.mp h2).1
  have := (List.getElem?_inj (i := j) (j := i) (by omega) nd').mp (by rw [h1, h2, e])
  omega
def spDepth : Sp := fun vs H Q _ => ∃ d : Nat, vs = [.int (d : Int)] ∧ d ≤ 8 ∧ Q .non H
def spCount : Sp := fun vs H Q _ => ∃ d c : Nat, vs = [.int (d : Int)] ∧ d ≤ 8 ∧ c = 2 ^ d ∧ Q (.int (c : Int)) H
def spCKey : Sp := fun vs H Q _ => ∃ d k : Nat, vs = [.int (d : Int), .int (k : Int)] ∧ d ≤ 8 ∧ k < 2 ^ d ∧ Q .non H
def spCVal : Sp := fun vs H Q _ => ∃ v : Nat, vs = [.int (v : Int)] ∧ Q .non H
def spCRows (K : PySem.W.Frag) : Sp := fun vs H Q _ => ∃ (d : Nat) (l : Addr) (rs : List RowN), vs = [.int (d : Int), .ref l] ∧ d ≤ 8 ∧ SqL K H l (refsN rs) ∧ RowsN H rs ∧ RowsOk (2 ^ d) (bare rs) ∧ rs.length ≤ 1000 ∧ ∀ H', Same H H' → Q .non H'
def spPlace (K : PySem.W.Frag) : Sp := fun vs H Q _ => ∃ (d : Nat) (l : Addr) (rs : List RowN), vs = [.int (d : Int), .ref l] ∧ d ≤ 8 ∧ SqL K H l (refsN rs) ∧ RowsN H rs ∧ RowsOk (2 ^ d) (bare rs) ∧
  ∀ p H', Same H H' → H p = none → H' p = some (.lst (vn (leaves (2 ^ d) (bare rs)))) → Q (.ref p) H'
/-- the number of a place by a value, or by none -/
inductive NumOf : V → Nat → Prop
  | non : NumOf .non 0
  | int (v : Nat) : NumOf (.int (v : Int)) (v + 1)
def spNumBy : Sp := fun vs H Q _ => ∃ (x : V) (n : Nat), vs = [x] ∧ NumOf x n ∧ Q (.int (n : Int)) H
section
variable {P : Program} {w : World} {K : PySem.W.Frag} {mg : Str → Option Value} {base : Heap} {f : Addr} {fd : FuncData}
theorem scDepth : FnScope ["depth"] ["depth"] (defScope sDepth) := ⟨rfl, rfl, rfl, by decide +kernel, rfl, by decide +kernel, by decide +kernel⟩
theorem ok_depth (F : Fun K "check_depth" "check_depth" sDepth f fd) {tk : Tok} (hG : mg "GREATEST_DEPTH" = some (.int 8 tk)) : FnOk P w K mg base CX0 1 f fd ["depth"] spDepth := by
  refine F.ok scDepth (fun vs H Q E h => ?_) (fun cdv A outer s H vs Q E hr h => ?_)
  · obtain ⟨d, rfl, _⟩ := h
    rfl
  obtain ⟨d, rfl, hd, q⟩ := h
  refine ⟨_, pss_one (ps_if (PW.pt (pw_or (pt_cmpR op_lt (pv 0) pe_int (nomark _)) (pw_or1 (pt_cmpR op_gt (pv 0) (pe_glob (v := .int 8) rfl hG ⟨tk, rfl⟩) (nomark _))))) pss_never pss_nil), ?_⟩
  refine ⟨_, rfl, _, _, rfl, rfl, _, rfl, iteN (by omega) ?_⟩
  exact ⟨_, rfl, _, _, rfl, rfl, _, rfl, iteN (by omega) q⟩
theorem scCount : FnScope ["depth"] ["depth"] (defScope sCount) := ⟨rfl, rfl, rfl, by decide +kernel, rfl, by decide +kernel, by decide +kernel⟩
theorem ok_count (F : Fun K "count_of_places" "count_of_places" sCount f fd) : FnOk P w K mg base CX0 1 f fd ["depth"] spCount := by
  refine F.ok scCount (fun vs H Q E h => ?_) (fun cdv A outer s H vs Q E hr h => ?_)
  · obtain ⟨d, c, rfl, _⟩ := h
    rfl
  obtain ⟨d, c, rfl, hd, rfl, q⟩ := h
  refine ⟨_, pss_one (ps_ret (pe_op n_shl pe_int (pv 0))), ?_⟩
  exact ⟨_, rfl, 1, d, 2 ^ d, rfl, rfl, ⟨1, by decide, by omega⟩, (Nat.one_mul _).symm, q⟩
theorem scCKey : FnScope ["depth", "key"] ["depth", "key"] (defScope sCKey) := ⟨rfl, rfl, rfl, by decide +kernel, rfl, by decide +kernel, by decide +kernel⟩
theorem ok_ckey (F : Fun K "check_key" "check_key" sCKey f fd) (C : Has P w K mg base "count_of_places" 1 ["depth"] spCount) : FnOk P w K mg base CX0 2 f fd ["depth", "key"] spCKey := by
  refine F.ok scCKey (fun vs H Q E h => ?_) (fun cdv A outer s H vs Q E hr h => ?_)
  · obtain ⟨d, k, rfl, _⟩ := h
    rfl
  obtain ⟨d, k, rfl, hd, hk, q⟩ := h
  refine ⟨_, pss_one (ps_if (PW.pt (pw_or (pt_cmpR op_lt (pv 1) pe_int (nomark _)) (pw_or1 (pt_cmpR op_ge (pv 1) (pe_has C hr (pa_cons (pv 0) pa_nil)) (nomark _))))) pss_never pss_nil), ?_⟩
  refine ⟨_, rfl, _, _, rfl, rfl, _, rfl, iteN (by omega) ?_⟩
  exact ⟨_, rfl, _, rfl, d, 2 ^ d, rfl, hd, rfl, _, _, rfl, rfl, _, rfl, iteN (by omega) q⟩
theorem scCVal : FnScope ["value"] ["value"] (defScope sCVal) := ⟨rfl, rfl, rfl, by decide +kernel, rfl, by decide +kernel, by decide +kernel⟩
theorem ok_cval (F : Fun K "check_value" "check_value" sCVal f fd) : FnOk P w K mg base CX0 1 f fd ["value"] spCVal := by
  refine F.ok scCVal (fun vs H Q E h => ?_) (fun cdv A outer s H vs Q E hr h => ?_)
  · obtain ⟨v, rfl, _⟩ := h
    rfl
  obtain ⟨v, rfl, q⟩ := h
  refine ⟨_, pss_one (ps_if (pt_cmpR op_lt (pv 0) pe_int (nomark _)) pss_never pss_nil), ?_⟩
  exact ⟨_, rfl, _, _, rfl, rfl, _, rfl, iteN (by omega) q⟩
theorem scCKeys : FnScope ["depth", "rows", "met", "row", "key"] ["depth", "rows"] (defScope sCKeys) := ⟨rfl, rfl, rfl, by decide +kernel, rfl, by decide +kernel, by decide +kernel⟩
theorem ok_ckeys (F : Fun K "check_keys_of_rows" "check_keys_of_rows" sCKeys f fd) (C : Has P w K mg base "check_key" 2 ["depth", "key"] spCKey) : FnOk P w K mg base CX0 3 f fd ["depth", "rows"] (spCRows K) := by
  refine F.ok scCKeys (fun vs H Q E h => ?_) (fun cdv A outer s H vs Q E hr h => ?_)
  · obtain ⟨d, l, rs, rfl, _⟩ := h
    rfl
  obtain ⟨d, l, rs, rfl, hd, hl, hR, ok, h1000, q⟩ := h
  refine ⟨_, pss_cons (ps_set (i := 2) scCKeys.nd rfl (Or.inl rfl) pe_dnewK)
    (pss_one (ps_for PassesOwn.never rfl (pi_list (pv 1)) (pg_name (i := 3) scCKeys.nd rfl (Or.inl rfl))
      (pss_cons (ps_set (i := 4) scCKeys.nd rfl (Or.inl rfl) (pe_ix ix_tup (pv 3) pe_int (fun _ _ => rfl)))
      (pss_cons (ps_expr (pe_has C hr (pa_cons (pv 0) (pa_cons (pv 4) pa_nil))))
      (pss_cons (ps_if (pt_cmp (pc_din (hu_of hr) (pv 4) (pv 2))) pss_never pss_nil)
      (pss_one (ps_dput (hu_of hr) (pv 2) (pv 4) pe_bl rfl))))))), ?_⟩
  intro m hm
  have hS0 : Same H (upd H m (.dK [])) := Same.upd hm
  refine ⟨_, rfl, l, rfl, ⟨_, hS0.seq hl⟩, ?_⟩
  refine for_list (xs := refsN rs) (fun i σ H' => ∃ t3 t4 : Option V, σ = [some (.int (d : Int)), some (.ref l), some (.ref m), t3, t4] ∧ Same H H' ∧ H' m = some (.dK (metK (rs.take i)))) ⟨_, _, rfl, hS0, upd_same⟩ ?_ ?_ ?_
  · rintro i σ H' _ ⟨_, _, _, hS, _⟩
    exact hS.seq hl
  · rintro i x σ H' hx ⟨t3, t4, rfl, hS, hm'⟩
    obtain ⟨r, hr', rfl, hmem⟩ := refs_get hx
    have hk : r.2.1 < 2 ^ d := ok.keys r.2 (List.mem_map.mpr ⟨r, hmem, rfl⟩)
    have hn := metK_none (not_before ok.nd hr')
    refine ⟨_, rfl, r.1, _, _, _, rfl, rfl, SqT.of (hS _ _ (hR r hmem)), atI_nat (j := 0) rfl, ?_⟩
    refine ⟨_, rfl, _, rfl, d, r.2.1, rfl, hd, hk, ?_⟩
    refine ⟨_, rfl, _, rfl, m, _, rfl, DGet.k (k := Sum.inl (r.2.1 : Int)) hm', _, rfl, ?_⟩
    rw [hn]
    refine iteF ?_
    have hlen : (metK (rs.take i)).length < sizeLine := by
      rw [len_metK, List.length_take]
      exact small1000 (by omega)
    refine ⟨_, rfl, _, rfl, m, _, rfl, DPut.k (k := Sum.inl (r.2.1 : Int)) hm' hlen, _, _, rfl, hS.new hm, ?_⟩
    rw [upd_same, metK_put hr' hn]
  · rintro σ H' ⟨_, _, _, hS, _⟩
    exact q H' hS
theorem scCRows : FnScope ["depth", "rows", "row"] ["depth", "rows"] (defScope sCRows) := ⟨rfl, rfl, rfl, by decide +kernel, rfl, by decide +kernel, by decide +kernel⟩
theorem ok_crows (F : Fun K "check_rows" "check_rows" sCRows f fd) (C : Has P w K mg base "check_keys_of_rows" 3 ["depth", "rows"] (spCRows K)) (W : Has P w K mg base "check_value" 1 ["value"] spCVal) : FnOk P w K mg base CX0 4 f fd ["depth", "rows"] (spCRows K) := by
  refine F.ok scCRows (fun vs H Q E h => ?_) (fun cdv A outer s H vs Q E hr h => ?_)
  · obtain ⟨d, l, rs, rfl, _⟩ := h
    rfl
  obtain ⟨d, l, rs, rfl, hd, hl, hR, ok, h1000, q⟩ := h
  have hr1 : Room 1 _ := hr.mono (by decide)
  refine ⟨_, pss_cons (ps_expr (pe_has C hr (pa_cons (pv 0) (pa_cons (pv 1) pa_nil))))
    (pss_one (ps_for PassesOwn.never rfl (pi_list (pv 1)) (pg_name (i := 2) scCRows.nd rfl (Or.inl rfl))
      (pss_one (ps_expr (pe_has W hr1 (pa_cons (pe_ix ix_tup (pv 2) pe_int (fun _ _ => rfl)) pa_nil)))))), ?_⟩
  refine ⟨_, rfl, _, rfl, d, l, rs, rfl, hd, hl, hR, ok, h1000, fun H1 hS1 => ?_⟩
  refine ⟨_, rfl, l, rfl, ⟨_, hS1.seq hl⟩, ?_⟩
  refine for_list (xs := refsN rs) (fun i σ H' => ∃ t2 : Option V, σ = [some (.int (d : Int)), some (.ref l), t2] ∧ Same H H') ⟨_, rfl, hS1⟩ ?_ ?_ ?_
  · rintro i σ H' _ ⟨_, _, hS⟩
    exact hS.seq hl
  · rintro i x σ H' hx ⟨t2, rfl, hS⟩
    obtain ⟨r, hr', rfl, hmem⟩ := refs_get hx
    exact ⟨_, rfl, r.1, _, _, _, rfl, rfl, SqT.of (hS _ _ (hR r hmem)), atI_nat (j := 1) rfl, r.2.2, rfl, _, rfl, hS⟩
  · rintro σ H' ⟨_, _, hS⟩
    exact q H' hS
theorem scNumBy : FnScope ["value"] ["value"] (defScope sNumBy) := ⟨rfl, rfl, rfl, by decide +kernel, rfl, by decide +kernel, by decide +kernel⟩
theorem ok_numby (F : Fun K "number_by" "number_by" sNumBy f fd) : FnOk P w K mg base CX0 1 f fd ["value"] spNumBy := by
  refine F.ok scNumBy (fun vs H Q E h => ?_) (fun cdv A outer s H vs Q E hr h => ?_)
  · obtain ⟨x, n, rfl, _⟩ := h
    rfl
  obtain ⟨x, n, rfl, hx, q⟩ := h
  refine ⟨_, pss_one (ps_ret (pe_ifExp (pt_cmp (pc_isN (pv 0))) pe_int (pe_op n_add (pv 0) pe_int))), ?_⟩
  cases hx with
  | non => exact ⟨_, rfl, _, rfl, iteY rfl q⟩
  | int v => exact ⟨_, rfl, _, rfl, iteN (by intro z; cases z) ⟨_, rfl, v, 1, v + 1, rfl, rfl, trivial, rfl, q⟩⟩
theorem scPlace : FnScope ["depth", "rows", "numbers", "row"] ["depth", "rows"] (defScope sPlace) := ⟨rfl, rfl, rfl, by decide +kernel, rfl, by decide +kernel, by decide +kernel⟩
theorem ok_place (F : Fun K "place_numbers" "place_numbers" sPlace f fd) (C : Has P w K mg base "count_of_places" 1 ["depth"] spCount) (N : Has P w K mg base "number_by" 1 ["value"] spNumBy) : FnOk P w K mg base CX0 2 f fd ["depth", "rows"] (spPlace K) := by
  refine F.ok scPlace (fun vs H Q E h => ?_) (fun cdv A outer s H vs Q E hr h => ?_)
  · obtain ⟨d, l, rs, rfl, _⟩ := h
    rfl
  obtain ⟨d, l, rs, rfl, hd, hl, hR, ok, q⟩ := h
  refine ⟨_, pss_cons (ps_set (i := 2) scPlace.nd rfl (Or.inl rfl) (pe_op op_rep (pe_lst (pa_cons pe_int pa_nil)) (pe_has C hr (pa_cons (pv 0) pa_nil))))
    (pss_cons (ps_for PassesOwn.never rfl (pi_list (pv 1)) (pg_name (i := 3) scPlace.nd rfl (Or.inl rfl))
      (pss_one (ps_asg (pe_has N hr (pa_cons (pe_ix ix_tup (pv 3) pe_int (fun _ _ => rfl)) pa_nil)) (pg_sub (pv 2) (pe_ix ix_tup (pv 3) pe_int (fun _ _ => rfl)) set_list))))
    (pss_one (ps_ret (pv 2)))), ?_⟩
  have h256 : 2 ^ d ≤ 256 := Nat.pow_le_pow_right (n := 2) (by decide) hd
  obtain ⟨c, hc⟩ : ∃ c, c = 2 ^ d := ⟨_, rfl⟩
  rw [← hc] at h256 ok q
  refine ⟨by show 1 ≤ sizeLine; decide, fun z hz => ?_⟩
  refine ⟨_, rfl, d, c, rfl, hd, hc, z, _, _, rfl, rfl, upd_same, by omega, by omega, ?_, fun m hm => ?_⟩
  · rw [Int.toNat_natCast]
    exact Nat.le_of_lt (small1000 (show 1 * c ≤ 1000 by omega))
  rw [vn_zeros]
  have hm0 : H m = none := (Same.upd hz).free hm
  have hS0 : Same H (upd (upd H z (.lst [.int 0])) m (.lst (vn (List.replicate c 0)))) := (Same.upd hz).new hm0
  refine ⟨_, rfl, l, rfl, ⟨_, hS0.seq hl⟩, ?_⟩
  refine for_list (xs := refsN rs) (fun i σ H' => ∃ t3 : Option V, σ = [some (.int (d : Int)), some (.ref l), some (.ref m), t3] ∧ Same H H' ∧ H' m = some (.lst (vn (leaves c (bare (rs.take i)))))) ⟨_, rfl, hS0, upd_same⟩ ?_ ?_ ?_
  · rintro i σ H' _ ⟨_, _, hS, _⟩
    exact hS.seq hl
  · rintro i x σ H' hx ⟨t3, rfl, hS, hm'⟩
    obtain ⟨r, hr', rfl, hmem⟩ := refs_get hx
    have hk : r.2.1 < c := ok.keys r.2 (List.mem_map.mpr ⟨r, hmem, rfl⟩)
    have hT := hS _ _ (hR r hmem)
    refine ⟨_, rfl, r.1, _, _, _, rfl, rfl, SqT.of hT, atI_nat (j := 1) rfl, _, r.2.2 + 1, rfl, .int _, ?_⟩
    refine ⟨_, rfl, _, rfl, r.1, _, _, _, rfl, rfl, SqT.of hT, atI_nat (j := 0) rfl, m, _, _, r.2.1, rfl, rfl, hm', ixN_nat (by rw [len_vn, len_leaves]; exact hk), _, rfl, hS.new hm0, ?_⟩
    rw [upd_same, vn_set, take_one hr']
    have e : bare (rs.take i ++ [r]) = bare (rs.take i) ++ [r.2] := by unfold bare; rw [List.map_append]; rfl
    rw [e, leaves_snoc]
  · rintro σ H' ⟨t3, rfl, hS, hm'⟩
    rw [len_refs, List.take_length] at hm'
    exact ⟨_, rfl, q m H' hS hm0 hm'⟩
end
end Ts
namespace L2
open PySem PySem.Spec PyProof.Rows
theorem ix_listK {X : Cx} {K : PySem.W.Frag} (h : X.K = K := by rfl) : IxR X (rIxL K) := h ▸ ix_list
theorem ix_tupK {X : Cx} {K : PySem.W.Frag} (h : X.K = K := by rfl) : IxR X (rIxT K) := h ▸ ix_tup
theorem pg_tupK {X : Cx} {K : PySem.W.Frag} {es : List Expr} {k : Nat} {t : TGs} {n : Nat} {pos : Pos} (hc : X.calm = true) (h : PGs X es t) (hK : X.K = K := by rfl)
    (hn : (assignEach es X.env).length = n := by rfl) (hst : (assignEach es X.env).findIdx? (·.1) = none := by rfl) : PG X (.Tuple es k pos) (gTup K n t) := hK ▸ pg_tup hc h hn hst
theorem tYes_if {σ : St} {H : Hp} {A B : Hp → Prop} (h : A H) : tYes σ H (fun b H3 => if b = true then A H3 else B H3) := (iteT h : if true = true then A H else B H)
end L2
namespace Ts
open PySem L2
/-! how large the numbers of a level are -/
theorem up_lt {k : Nat} : ∀ {xs : List Nat}, (∀ x ∈ xs, x < 2 ^ k) → ∀ x ∈ up xs, x < 2 ^ (2 * k + 1)
  | [], _, x, h => by cases h
  | [_], _, x, h => by cases h
  | a :: b :: r, hx, x, h => by
    rcases List.mem_cons.mp h with e | e
    · rw [e]
      exact pair_lt (hx a (by simp)) (hx b (by simp))
    · exact up_lt (xs := r) (fun y hy => hx y (by simp [hy])) x e
def bitsAt : Nat → Nat → Nat
  | k, 0 => k
  | k, j + 1 => 2 * bitsAt k j + 1
theorem ups_lt {k : Nat} {xs : List Nat} (h : ∀ x ∈ xs, x < 2 ^ k) : ∀ j, ∀ x ∈ ups j xs, x < 2 ^ bitsAt k j
  | 0 => h
  | j + 1 => by
    rw [ups_succ]
    exact up_lt (ups_lt h j)
theorem bits_le {j : Nat} (h : j ≤ 8) : bitsAt 67 j ≤ 17407 := by
  rcases (by omega : j = 0 ∨ j = 1 ∨ j = 2 ∨ j = 3 ∨ j = 4 ∨ j = 5 ∨ j = 6 ∨ j = 7 ∨ j = 8) with e | e | e | e | e | e | e | e | e <;> subst e <;> decide
theorem fold_lt {B : Nat} : ∀ (rows : List Row) (xs : List Nat), (∀ x ∈ xs, x < B) → (∀ r ∈ rows, r.2 + 1 < B) → ∀ x ∈ rows.foldl (fun xs r => xs.set r.1 (r.2 + 1)) xs, x < B
  | [], xs, h, _ => h
  | r :: rs, xs, h, hr => by
    refine fold_lt rs (xs.set r.1 (r.2 + 1)) (fun x hx => ?_) fun q hq => hr q (List.mem_cons_of_mem _ hq)
    rcases List.mem_or_eq_of_mem_set hx with e | e
    · exact h x e
    · rw [e]; exact hr r List.mem_cons_self
theorem leaves_lt {B c : Nat} {rows : List Row} (hB : 0 < B) (h : ∀ r ∈ rows, r.2 + 1 < B) : ∀ x ∈ leaves c rows, x < B :=
  fold_lt rows _ (fun x hx => by rw [(List.mem_replicate.mp hx).2]; exact hB) h
theorem getD_mem {xs : List Nat} {i : Nat} (h : i < xs.length) : xs[i]? = some (xs.getD i 0) ∧ xs.getD i 0 ∈ xs := by
  have e : xs[i]? = some xs[i] := List.getElem?_eq_getElem h
  have g : xs.getD i 0 = xs[i] := by rw [List.getD_eq_getElem?_getD, e]; rfl
  rw [g]
  exact ⟨e, List.getElem_mem h⟩
def spPaired (K : PySem.W.Frag) : Sp := fun vs H Q _ => ∃ (l : Addr) (xs : List Nat), vs = [.ref l] ∧ SqL K H l (vn xs) ∧ xs.length ≤ 256 ∧ xs.length % 2 = 0 ∧ (∀ x ∈ xs, x < 2 ^ bb) ∧
  ∀ p H', Same H H' → H p = none → H' p = some (.lst (vn (up xs))) → Q (.ref p) H'
section
variable {P : Program} {w : World} {K : PySem.W.Frag} {mg : Str → Option Value} {base : Heap} {f : Addr} {fd : FuncData}
theorem scPaired : FnScope ["numbers"] ["numbers"] (defScope sPaired) := ⟨rfl, rfl, rfl, by decide +kernel, rfl, by decide +kernel, by decide +kernel⟩
theorem two_even {n : Nat} (h : n % 2 = 0) : (n + 1) / 2 = n / 2 := by omega
theorem ok_paired (F : Fun K "paired" "paired" sPaired f fd) (mR : mg "range" = none) (mL : mg "len" = none) (C : Has P w K mg base "pair_of" 2 ["one", "two"] spPair) : FnOk P w K mg base CX0 3 f fd ["numbers"] (spPaired K) := by
  refine F.ok scPaired (fun vs H Q E h => ?_) (fun cdv A outer s H vs Q E hr h => ?_)
  · obtain ⟨l, xs, rfl, _⟩ := h
    rfl
  obtain ⟨l, xs, rfl, hl, h256, hev, hb, q⟩ := h
  refine ⟨_, pss_one (ps_ret (pe_comp (cl := [("numbers", s.heap.objs.size + 1)]) (N := ["left", "numbers"]) (fr := [none, some 0]) rfl
    (block_one rfl (by decide +kernel) (by decide +kernel) (by show ∀ p ∈ relS _ (defScope sPaired), _; decide +kernel) rfl) rfl ⟨⟨rfl, rfl, .inl rfl⟩, trivial⟩
    (pi_range3 rfl mR (pa_cons pe_int (pa_cons (pe_callB call_len_seq rfl mL PySem.boot_len (pa_cons (pv 0) pa_nil)) (pa_cons pe_int pa_nil))))
    (fun _ _ _ _ _ => pg_name (i := 0) (show (["left", "numbers"] : List Str).Nodup by decide) rfl (Or.inl rfl)) (fun _ _ _ _ _ => pifs_nil)
    (fun _ _ _ _ _ => pe_has C hr (pa_cons (pe_ix ix_listK (pv 1) (pv 0) (fun _ _ => rfl)) (pa_cons (pe_ix ix_listK (pv 1) (pe_op n_add (pv 0) pe_int) (fun _ _ => rfl)) pa_nil))))), ?_⟩
  obtain ⟨sm1, sm2⟩ := small_two (n := (vn xs).length) (by rw [len_vn]; omega)
  rw [len_vn, two_even hev] at sm2
  have hlv := len_vn xs
  refine ⟨_, rfl, l, _, rfl, .inl hl, 0, _, 2, xs.length / 2, rfl, by decide, ⟨by omega, by omega⟩, sm1, by rw [len_vn]; exact sm2, by decide, ?_⟩
  refine comp_on (xs.length / 2) (by omega) (fun i ys τ H' => ∃ t0 : Option V, τ = [t0, some (.ref l)] ∧ H' = H ∧ ys = vn ((up xs).take i)) ⟨_, rfl, rfl, rfl⟩ ?_ ?_ ?_
  · rintro i ys τ H' ⟨_, _, _, rfl⟩
    rw [len_vn, List.length_take]; omega
  · rintro i ys τ H' hi ⟨t0, rfl, rfl, rfl⟩
    refine ⟨hi, fun x H' y => ?_⟩
    obtain ⟨e1, e2⟩ := y
    subst e1 e2
    rw [show (0 + (i : Int) * 2) = ((2 * i : Nat) : Int) by omega]
    obtain ⟨g1, m1⟩ := getD_mem (xs := xs) (i := 2 * i) (by omega)
    obtain ⟨g2, m2⟩ := getD_mem (xs := xs) (i := 2 * i + 1) (by omega)
    unfold gName
    show tYes ([t0, some (V.ref l)].set 0 (some (V.int ((2 * i : Nat) : Int)))) H' _
    refine tYes_if ?_
    refine ⟨_, rfl, _, rfl, l, _, _, _, rfl, rfl, hl, atI_nat (vn_get g1), _, rfl, _, rfl, 2 * i, 1, 2 * i + 1, rfl, rfl, trivial, rfl, l, _, _, _, rfl, rfl, hl, atI_nat (vn_get g2), _, _, rfl, hb _ m1, hb _ m2, _, rfl, rfl, ?_⟩
    rw [take_one (up_get xs i (by omega)), ← vn_app]
    rfl
  · rintro ys τ H' ⟨t0, rfl, rfl, rfl⟩
    refine ⟨Nat.le_refl _, fun p hp => ?_⟩
    rw [List.take_of_length_le (by rw [len_up]; omega)]
    exact q p _ (Same.upd hp) hp upd_same
end
end Ts
namespace L2
open PySem PySem.Spec PyProof.Rows
theorem kit_bb {T U : String} {b : Bool} (K : PySem.W.Frag) (h : (if (Value.type T == Value.type U) = true then some true else if PySem.W.kitMeta U = true then (fastBuiltinMro T).map (fun l => l.contains (.type U)) else none) = some b) : PySem.W.kitOne K (.type T) (.type U) = some b := h
theorem kit_any2 {K : PySem.W.Frag} {t u v : Value} {a b : Bool} (h1 : PySem.W.kitOne K t u = some a) (h2 : PySem.W.kitOne K t v = some b) : PySem.W.kitAny K t [u, v] = some (a || b) := by
  unfold PySem.W.kitAny
  rw [h1]
  cases a with
  | true => rfl
  | false =>
    show PySem.W.kitAny K t [v] = some (false || b)
    unfold PySem.W.kitAny
    rw [h2]
    cases b <;> rfl
/-- a walk of n turns -/
theorem for_on {J : It} {g : TG} {tb : TS} {D : Ends} {σ : St} {H : Hp} (n : Nat) (Pv : Nat → St → Hp → Prop) (h0 : Pv 0 σ H)
    (go : ∀ i σ H, i < n → Pv i σ H → J.go i H ∧ ∀ x H', J.yld i H x H' → g x σ H' fun σ2 H2 => tb { D with nx := Pv (i + 1), ct := Pv (i + 1), bk := D.nx } σ2 H2) (stop : ∀ σ H, Pv n σ H → J.stop n H ∧ D.nx σ H) :
    ∃ W : Nat → Nat → St → Hp → Prop, (∃ m, W 0 m σ H) ∧ ∀ i m σ H, W i m σ H →
      (J.stop i H ∧ D.nx σ H) ∨ (J.go i H ∧ ∃ N : St → Hp → Prop, (∀ σ' H', N σ' H' → ∃ m', m' < m ∧ W (i + 1) m' σ' H') ∧ ∀ x H', J.yld i H x H' → g x σ H' fun σ2 H2 => tb { D with nx := N, ct := N, bk := D.nx } σ2 H2) := by
  refine ⟨fun i m σ H => m = n - i ∧ i ≤ n ∧ Pv i σ H, ⟨n, by simp, Nat.zero_le _, h0⟩, ?_⟩
  rintro i m σ H ⟨rfl, hi, p⟩
  by_cases hlt : i < n
  · obtain ⟨g1, g2⟩ := go i σ H hlt p
    exact .inr ⟨g1, Pv (i + 1), fun σ' H' p' => ⟨n - (i + 1), by omega, rfl, hlt, p'⟩, g2⟩
  · have e : i = n := by omega
    subst e
    exact .inl (stop σ H p)
end L2
namespace Ts
open PySem L2
/-- the names that mean what Python means by them -/
structure Blt (mg : Str → Option Value) : Prop where
  len : mg "len" = none
  range : mg "range" = none
  min : mg "min" = none
  isi : mg "isinstance" = none
  int : mg "int" = none
  bool : mg "bool" = none
  tuple : mg "tuple" = none
  list : mg "list" = none
  str : mg "str" = none
def spAt (K : PySem.W.Frag) : Sp := fun vs H Q _ => ∃ (a : Addr) (ns : List Int) (k : Nat), vs = [.ref a, .int (k : Int)] ∧ SqL K H a (ns.map V.int) ∧ Q (.int (ns.getD k 0)) H
def spJoin : Sp := fun vs H Q _ => ∃ a b : Nat, vs = [.int (a : Int), .int (b : Int)] ∧ a < 2 ^ bb ∧ b < 2 ^ bb ∧ Q (.int ((pairN a b : Nat) : Int)) H
def spLeaves (K : PySem.W.Frag) : Sp := fun vs H Q _ => ∃ (c : Nat) (l : Addr) (rs : List RowN), vs = [.ref l, .int (c : Int)] ∧ c ≤ 256 ∧ SqL K H l (refsN rs) ∧ RowsN H rs ∧ RowsOk c (bare rs) ∧
  ∀ p H', Same H H' → H p = none → H' p = some (.lst (vn (leaves c (bare rs)))) → Q (.ref p) H'
def spBy (K : PySem.W.Frag) : Sp := fun vs H Q _ => ∃ (a : Addr) (ns : List Int) (o c : Nat), vs = [.ref a, .int (o : Int), .int (c : Int)] ∧ SqL K H a (ns.map V.int) ∧ ns.length ≤ 63 ∧ 0 < c ∧ c ≤ 256 ∧
  ∀ p rs H', Same H H' → H p = none → H' p = some (.lst (refsN rs)) → RowsN H' rs → RowsOk c (bare rs) → (∀ r ∈ bare rs, r.2 < 10 ^ 20) → rs.length ≤ 32 → Q (.ref p) H'
def LevelsAt (H : Hp) (xs : List Nat) (ls : List Addr) : Prop := ∀ j < ls.length, ∃ q, ls[j]? = some q ∧ H q = some (.lst (vn (ups j xs)))
def spLevels (K : PySem.W.Frag) : Sp := fun vs H Q _ => ∃ (d : Nat) (l : Addr) (xs : List Nat), vs = [.ref l] ∧ d ≤ 8 ∧ SqL K H l (vn xs) ∧ xs.length = 2 ^ d ∧ (∀ x ∈ xs, x < 2 ^ 67) ∧
  ∀ p ls q H', Same H H' → H p = none → H' p = some (.lst ((ls ++ [q]).map V.ref)) → ls.length = d → LevelsAt H' xs (ls ++ [q]) → H' q = some (.lst [.int ((topN d xs : Nat) : Int)]) → Q (.ref p) H'
/-! two stacks of things that are the same: n things in all -/
def flatX : V → Prop := fun x => (∃ i, x = .int i) ∨ x = .non
inductive Stk (H : Hp) : Nat → List V → List V → Prop
  | nil : Stk H 0 [] []
  | flat {n us ws x} : Stk H n us ws → flatX x → Stk H (n + 1) (us ++ [x]) (ws ++ [x])
  | lst {n m us ws xs ys a b} : Stk H n us ws → Stk H m xs ys → H a = some (.lst xs) → H b = some (.lst ys) → Stk H (n + m + 1) (us ++ [.ref a]) (ws ++ [.ref b])
  | tup {n m us ws xs ys a b} : Stk H n us ws → Stk H m xs ys → H a = some (.tup xs) → H b = some (.tup ys) → Stk H (n + m + 1) (us ++ [.ref a]) (ws ++ [.ref b])
theorem Stk.app {H : Hp} {n m : Nat} {us ws xs ys : List V} (h : Stk H n us ws) (g : Stk H m xs ys) : Stk H (n + m) (us ++ xs) (ws ++ ys) := by
  induction g with
  | nil => rw [List.append_nil, List.append_nil]; exact h
  | flat q hx ih => rw [← List.append_assoc, ← List.append_assoc]; exact .flat ih hx
  | @lst n' m' _ _ _ _ _ _ q1 q2 e1 e2 ih1 ih2 =>
    rw [← List.append_assoc, ← List.append_assoc, show n + (n' + m' + 1) = n + n' + m' + 1 by omega]
    exact .lst ih1 q2 e1 e2
  | @tup n' m' _ _ _ _ _ _ q1 q2 e1 e2 ih1 ih2 =>
    rw [← List.append_assoc, ← List.append_assoc, show n + (n' + m' + 1) = n + n' + m' + 1 by omega]
    exact .tup ih1 q2 e1 e2
theorem Stk.len {H : Hp} {n : Nat} {us ws : List V} (h : Stk H n us ws) : us.length = ws.length ∧ us.length ≤ n := by
  induction h with
  | nil => exact ⟨rfl, Nat.le_refl _⟩
  | flat _ _ ih => simp only [List.length_append, List.length_singleton]; omega
  | lst _ _ _ _ ih _ => simp only [List.length_append, List.length_singleton]; omega
  | tup _ _ _ _ ih _ => simp only [List.length_append, List.length_singleton]; omega
theorem Stk.same {H H' : Hp} {n : Nat} {us ws : List V} (e : Same H H') (h : Stk H n us ws) : Stk H' n us ws := by
  induction h with
  | nil => exact .nil
  | flat _ hx ih => exact .flat ih hx
  | lst _ _ e1 e2 ih1 ih2 => exact .lst ih1 ih2 (e _ _ e1) (e _ _ e2)
  | tup _ _ e1 e2 ih1 ih2 => exact .tup ih1 ih2 (e _ _ e1) (e _ _ e2)
def spStays : Sp := fun vs H Q _ => ∃ (x y : V) (n : Nat), vs = [x, y] ∧ Stk H n [x] [y] ∧ n ≤ 100000 ∧ ∀ H', Same H H' → Q (.bl true) H'
theorem RowsN.lst {H : Hp} {rs : List RowN} {a : Addr} {xs : List V} {o : HO} (h : RowsN H rs) (ha : H a = some (.lst xs)) : RowsN (upd H a o) rs := fun r hr => by
  rw [upd_ne (ne_of (h r hr) ha (by intro z; cases z))]; exact h r hr
theorem Stk.rows {H : Hp} : ∀ {rs qs : List RowN}, RowsN H rs → RowsN H qs → bare rs = bare qs → ∃ n, n ≤ 3 * rs.length ∧ Stk H n (refsN rs) (refsN qs) := by
  have one : ∀ i j : Int, Stk H 2 [.int i, .int j] [.int i, .int j] := fun i j => .flat (.flat .nil (.inl ⟨i, rfl⟩)) (.inl ⟨j, rfl⟩)
  have row : ∀ {a b : Addr} {i j : Int}, H a = some (.tup [.int i, .int j]) → H b = some (.tup [.int i, .int j]) → Stk H 3 [.ref a] [.ref b] := fun e1 e2 => .tup .nil (one _ _) e1 e2
  intro rs
  induction rs with
  | nil =>
    intro qs _ _ e
    cases qs with
    | nil => exact ⟨0, Nat.le_refl _, .nil⟩
    | cons q r => cases e
  | cons p ps ih =>
    intro qs h1 h2 e
    cases qs with
    | nil => cases e
    | cons q r =>
      obtain ⟨e1, e2⟩ := List.cons.inj e
      obtain ⟨n, hn, S⟩ := ih (fun x hx => h1 x (List.mem_cons_of_mem _ hx)) (fun x hx => h2 x (List.mem_cons_of_mem _ hx)) e2
      have t1 := h1 p List.mem_cons_self
      have t2 := h2 q List.mem_cons_self
      have e1' : p.2 = q.2 := e1
      rw [← e1'] at t2
      exact ⟨3 + n, by simp only [List.length_cons]; omega, Stk.app (row t1 t2) S⟩
section
variable {P : Program} {w : World} {K : PySem.W.Frag} {mg : Str → Option Value} {base : Heap} {f : Addr} {fd : FuncData}
theorem scAt : FnScope ["_law_script", "_law_k"] ["_law_script", "_law_k"] (defScope sAt) := ⟨rfl, rfl, rfl, by decide +kernel, rfl, by decide +kernel, by decide +kernel⟩
theorem ok_at (F : Fun K "_law_at" "_law_at" sAt f fd) (T : Blt mg) : FnOk P w K mg base CX0 1 f fd ["_law_script", "_law_k"] (spAt K) := by
  refine F.ok scAt (fun vs H Q E h => ?_) (fun cdv A outer s H vs Q E hr h => ?_)
  · obtain ⟨a, ns, k, rfl, _⟩ := h
    rfl
  obtain ⟨a, ns, k, rfl, hS, q⟩ := h
  refine ⟨_, pss_cons (ps_if (pt_cmpR op_lt (pv 1) (pe_callB call_len_seq rfl T.len PySem.boot_len (pa_cons (pv 0) pa_nil)) (nomark _)) (pss_one (ps_ret (pe_ix ix_list (pv 0) (pv 1) (fun _ _ => rfl)))) pss_nil)
    (pss_one (ps_ret pe_int)), ?_⟩
  have hl : (ns.map V.int).length = ns.length := List.length_map _
  refine ⟨_, rfl, _, rfl, a, _, rfl, .inl hS, _, _, rfl, rfl, _, rfl, ite3 (fun c => ?_) (fun c => ?_)⟩
  · rw [hl] at c
    have hk : k < ns.length := by omega
    refine ⟨_, rfl, _, rfl, a, _, _, _, rfl, rfl, hS, atI_nat (v := .int (ns.getD k 0)) ?_, q⟩
    rw [List.getElem?_map, List.getD_eq_getElem?_getD, List.getElem?_eq_getElem hk]
    rfl
  · rw [hl] at c
    have e : ns.getD k 0 = 0 := by rw [List.getD_eq_getElem?_getD, List.getElem?_eq_none (by omega)]; rfl
    rw [e] at q
    exact q
theorem scJoin : FnScope ["_law_one", "_law_two", "_law_both"] ["_law_one", "_law_two"] (defScope sJoin) := ⟨rfl, rfl, rfl, by decide +kernel, rfl, by decide +kernel, by decide +kernel⟩
theorem ok_join (F : Fun K "_law_joined_up" "_law_joined_up" sJoin f fd) : FnOk P w K mg base CX0 1 f fd ["_law_one", "_law_two"] spJoin := by
  refine F.ok scJoin (fun vs H Q E h => ?_) (fun cdv A outer s H vs Q E hr h => ?_)
  · obtain ⟨a, b, rfl, _⟩ := h
    rfl
  obtain ⟨a, b, rfl, ha, hb, q⟩ := h
  refine ⟨_, pss_cons (ps_set (i := 2) scJoin.nd rfl (Or.inl rfl) (pe_op n_add (pv 0) (pv 1)))
    (pss_one (ps_ret (pe_op n_add (pe_op n_div (pe_op n_add (pe_op n_mul (pv 2) (pv 2)) (pv 2)) pe_int) (pv 1)))), ?_⟩
  refine ⟨_, rfl, _, rfl, a, b, a + b, rfl, rfl, trivial, rfl, ?_⟩
  have hs := add_lt ha hb
  have ht : tri (a + b) = ((a + b) * (a + b) + (a + b)) / 2 := rfl
  refine ⟨_, rfl, _, rfl, a + b, a + b, (a + b) * (a + b), rfl, rfl, ⟨bb + 1, bb + 1, hs, hs, by decide⟩, rfl, _, rfl, (a + b) * (a + b), a + b, (a + b) * (a + b) + (a + b), rfl, rfl, trivial, rfl, (a + b) * (a + b) + (a + b), 2, tri (a + b), rfl, rfl, ⟨by decide, two_dl⟩, ht, ?_⟩
  exact ⟨_, rfl, tri (a + b), b, pairN a b, rfl, rfl, trivial, rfl, q⟩
theorem scLeaves : FnScope ["_law_rows", "_law_count", "_law_row", "_law_key", "_law_value"] ["_law_rows", "_law_count"] (defScope sLeaves) := ⟨rfl, rfl, rfl, by decide +kernel, rfl, by decide +kernel, by decide +kernel⟩
theorem ok_leaves (F : Fun K "_law_leaves" "_law_leaves" sLeaves f fd) : FnOk P w K mg base CX0 1 f fd ["_law_rows", "_law_count"] (spLeaves K) := by
  refine F.ok scLeaves (fun vs H Q E h => ?_) (fun cdv A outer s H vs Q E hr h => ?_)
  · obtain ⟨c, l, rs, rfl, _⟩ := h
    rfl
  obtain ⟨c, l, rs, rfl, h256, hl, hR, ok, q⟩ := h
  refine ⟨_, pss_cons (ps_set (i := 2) scLeaves.nd rfl (Or.inl rfl) (pe_op op_rep (pe_lst (pa_cons pe_int pa_nil)) (pv 1)))
    (pss_cons (ps_for PassesOwn.never rfl (pi_list (pv 0)) (pg_tup (n := 2) rfl (pgs_cons (pg_name (i := 3) scLeaves.nd rfl (Or.inl rfl)) (pgs_cons (pg_name (i := 4) scLeaves.nd rfl (Or.inl rfl)) pgs_nil)))
      (pss_one (ps_asg (pe_op n_add (pv 4) pe_int) (pg_sub (pv 2) (pv 3) set_list))))
    (pss_one (ps_ret (pv 2)))), ?_⟩
  refine ⟨by show 1 ≤ sizeLine; decide, fun z hz => ?_⟩
  refine ⟨_, rfl, z, _, _, rfl, rfl, upd_same, by omega, by omega, ?_, fun m hm => ?_⟩
  · rw [Int.toNat_natCast]
    exact Nat.le_of_lt (small1000 (show 1 * c ≤ 1000 by omega))
  rw [vn_zeros]
  have hm0 : H m = none := (Same.upd hz).free hm
  have hS0 : Same H (upd (upd H z (.lst [.int 0])) m (.lst (vn (List.replicate c 0)))) := (Same.upd hz).new hm0
  refine ⟨_, rfl, l, rfl, ⟨_, hS0.seq hl⟩, ?_⟩
  refine for_list (xs := refsN rs) (fun i σ H' => ∃ t3 t4 : Option V, σ = [some (.ref l), some (.int (c : Int)), some (.ref m), t3, t4] ∧ Same H H' ∧ H' m = some (.lst (vn (leaves c (bare (rs.take i)))))) ⟨_, _, rfl, hS0, upd_same⟩ ?_ ?_ ?_
  · rintro i σ H' _ ⟨_, _, _, hS, _⟩
    exact hS.seq hl
  · rintro i x σ H' hx ⟨t3, t4, rfl, hS, hm'⟩
    obtain ⟨r, hr', rfl, hmem⟩ := refs_get hx
    have hk : r.2.1 < c := ok.keys r.2 (List.mem_map.mpr ⟨r, hmem, rfl⟩)
    have hT := hS _ _ (hR r hmem)
    refine ⟨r.1, _, rfl, SqT.of hT, rfl, _, _, rfl, _, _, rfl, rfl, ?_⟩
    refine ⟨_, rfl, r.2.2, 1, r.2.2 + 1, rfl, rfl, trivial, rfl, ?_⟩
    refine ⟨_, rfl, _, rfl, m, _, _, r.2.1, rfl, rfl, hm', ixN_nat (by rw [len_vn, len_leaves]; exact hk), _, _, rfl, hS.new hm0, ?_⟩
    rw [upd_same, vn_set, take_one hr']
    have e : bare (rs.take i ++ [r]) = bare (rs.take i) ++ [r.2] := by unfold bare; rw [List.map_append]; rfl
    rw [e, leaves_snoc]
  · rintro σ H' ⟨t3, t4, rfl, hS, hm'⟩
    rw [len_refs, List.take_length] at hm'
    exact ⟨_, rfl, q m H' hS hm0 hm'⟩
end
end Ts
namespace Ts
open PySem L2
theorem vn_erase : ∀ (xs : List Nat) (k : Nat), (vn xs).eraseIdx k = vn (xs.eraseIdx k)
  | [], _ => rfl
  | _ :: _, 0 => rfl
  | x :: r, k + 1 => by
    show V.int (x : Int) :: (vn r).eraseIdx k = V.int (x : Int) :: vn (r.eraseIdx k)
    rw [vn_erase r k]
theorem erase_perm : ∀ {ks : List Nat} {k y : Nat}, ks[k]? = some y → (y :: ks.eraseIdx k).Perm ks
  | [], _, _, h => by simp at h
  | x :: r, 0, y, h => by
    have e : x = y := by simpa using h
    rw [e]; exact List.Perm.refl _
  | x :: r, k + 1, y, h => by
    have ih := erase_perm (ks := r) (k := k) (y := y) (by simpa using h)
    show (y :: x :: r.eraseIdx k).Perm (x :: r)
    exact (List.Perm.swap x y _).trans (ih.cons x)
theorem pop_perm {ks keys : List Nat} {k y c : Nat} (h : (ks ++ keys).Perm (List.range c)) (hy : ks[k]? = some y) : (ks.eraseIdx k ++ (keys ++ [y])).Perm (List.range c) := by
  have p1 := erase_perm hy
  refine List.Perm.trans ?_ h
  refine List.Perm.trans ?_ (p1.append_right keys)
  rw [← List.append_assoc]
  exact List.perm_append_comm
theorem len_range_perm {ks keys : List Nat} {c : Nat} (h : (ks ++ keys).Perm (List.range c)) : ks.length + keys.length = c := by
  have := h.length_eq
  rw [List.length_append, List.length_range] at this
  exact this
def keysN (rs : List RowN) : List Nat := rs.map (·.2.1)
theorem keys_bare (rs : List RowN) : (bare rs).map (·.1) = keysN rs := by unfold bare keysN; rw [List.map_map]; rfl
theorem ok_of_perm {ks : List Nat} {rs : List RowN} {c : Nat} (h : (ks ++ keysN rs).Perm (List.range c)) : RowsOk c (bare rs) where
  keys := fun r hr => by
    have m : r.1 ∈ keysN rs := by rw [← keys_bare]; exact List.mem_map.mpr ⟨r, hr, rfl⟩
    exact List.mem_range.mp (h.mem_iff.mp (List.mem_append.mpr (.inr m)))
  nd := by
    rw [keys_bare]
    exact (List.nodup_append.mp (h.nodup_iff.mpr List.nodup_range)).2.1
theorem at5 {a b c d e j : Int} (h : 0 ≤ j) (h4 : j < 5) {p : Int → Prop} (ha : p a) (hb : p b) (hc : p c) (hd : p d) (he : p e) : ∃ v, atI [V.int a, V.int b, V.int c, V.int d, V.int e] j = some (.int v) ∧ p v := by
  rcases (by omega : j = 0 ∨ j = 1 ∨ j = 2 ∨ j = 3 ∨ j = 4) with rfl | rfl | rfl | rfl | rfl
  · exact ⟨a, rfl, ha⟩
  · exact ⟨b, rfl, hb⟩
  · exact ⟨c, rfl, hc⟩
  · exact ⟨d, rfl, hd⟩
  · exact ⟨e, rfl, he⟩
section
variable {P : Program} {w : World} {K : PySem.W.Frag} {mg : Str → Option Value} {base : Heap} {f : Addr} {fd : FuncData}
abbrev nBy : List Str := ["_law_script", "_law_first", "_law_count", "_law_rows", "_law_keys", "_law_many", "_law_k", "_law_key", "_law_cell", "_law_menu", "_law_value"]
theorem scBy : FnScope nBy ["_law_script", "_law_first", "_law_count"] (defScope sBy) := ⟨rfl, rfl, rfl, by decide +kernel, rfl, by decide +kernel, by decide +kernel⟩
theorem ok_by (F : Fun K "_law_rows_by" "_law_rows_by" sBy f fd) (T : Blt mg) (C : Has P w K mg base "_law_at" 1 ["_law_script", "_law_k"] (spAt K)) : FnOk P w K mg base CX0 2 f fd ["_law_script", "_law_first", "_law_count"] (spBy K) := by
  refine F.ok scBy (fun vs H Q E h => ?_) (fun cdv A outer s H vs Q E hr h => ?_)
  · obtain ⟨a, ns, o, c, rfl, _⟩ := h
    rfl
  obtain ⟨a, ns, o, c, rfl, hA, h63, hc0, hc, q⟩ := h
  have hnl : (ns.map V.int).length = ns.length := List.length_map _
  -- the walk
  obtain ⟨t2, p2, r2⟩ : ∃ t, PSs (cxOf CX0 P w K mg base nBy "_law_rows_by" (defScope sBy) f cdv A outer s H E).nox ((defBody sBy).drop 5) t ∧
      ∀ (r k : Addr) (M : Int) (H' : Hp), 0 ≤ M → M ≤ c → M ≤ 32 → Same H H' → H r = none → H k = none → r ≠ k → H' r = some (.lst []) → H' k = some (.lst (vn (List.range c))) →
        t { nx := fun _ H' => Q .non H', rt := Q } [some (.ref a), some (.int (o : Int)), some (.int (c : Int)), some (.ref r), some (.ref k), some (.int M), none, none, none, none, none] H' := by
    refine ⟨_, pss_cons (ps_if (pt_cmpR op_gt (pe_callB call_len_seq rfl T.len PySem.boot_len (pa_cons (pv 0) pa_nil)) pe_int (nomark _)) pss_never pss_nil)
      (pss_cons (ps_for PassesOwn.never rfl (pi_range1 rfl T.range (pa_cons (pv 5) pa_nil)) (pg_name (i := 6) scBy.nd rfl (Or.inl rfl))
        (pss_cons (ps_set (i := 7) scBy.nd rfl (Or.inl rfl) (pe_bm PySem.F.plainAttrs_list PySem.F.slot_list_pop PySem.F.type_list_pop mt_popAt (pv 4) (pa_cons (pe_op op_mod (pe_has C hr (pa_cons (pv 0) (pa_cons (pe_op n_add (pe_op n_add (pv 1) pe_int) (pv 6)) pa_nil))) (pe_callB call_len_seq rfl T.len PySem.boot_len (pa_cons (pv 4) pa_nil))) pa_nil)))
        (pss_cons (ps_set (i := 8) scBy.nd rfl (Or.inl rfl) (pe_has C hr (pa_cons (pv 0) (pa_cons (pe_op n_add (pe_op n_add (pv 1) pe_int) (pv 6)) pa_nil))))
        (pss_cons (ps_set (i := 9) scBy.nd rfl (Or.inl rfl) (pe_lst (pa_cons (pe_op op_mod (pe_op op_fdiv (pv 8) pe_int) pe_int) (pa_cons (pe_op op_mod (pe_op op_fdiv (pv 8) pe_int) pe_int) (pa_cons pe_int (pa_cons pe_int (pa_cons (pe_op op_mod (pe_op op_fdiv (pv 8) pe_int) (pe_op op_pow pe_int pe_int)) pa_nil)))))))
        (pss_cons (ps_set (i := 10) scBy.nd rfl (Or.inl rfl) (pe_ix ix_list (pv 9) (pe_op op_mod (pv 8) pe_int) (fun _ _ => rfl)))
        (pss_one (ps_expr (pe_bm PySem.F.plainAttrs_list PySem.F.slot_list_append PySem.F.type_list_append mt_append (pv 3) (pa_cons (pe_tup (pa_cons (pv 7) (pa_cons (pv 10) pa_nil))) pa_nil)))))))))
      (pss_one (ps_ret (pv 3)))), ?_⟩
    intro r k M H' hM0 hMc hM32 hS hr0 hk0 hrk hr' hk'
    refine ⟨_, rfl, a, _, rfl, .inl (hS.seq hA), _, _, rfl, rfl, _, rfl, iteN (by rw [hnl]; omega) ?_⟩
    obtain ⟨M, rfl⟩ := Int.eq_ofNat_of_zero_le hM0
    refine ⟨_, rfl, _, rfl, by omega, by omega, ?_⟩
    rw [Int.toNat_natCast]
    refine for_range (n := M) (fun i σ H' => ∃ (t6 t7 t8 t9 t10 : Option V) (ks : List Nat) (rs : List RowN), σ = [some (.ref a), some (.int (o : Int)), some (.int (c : Int)), some (.ref r), some (.ref k), some (.int (M : Int)), t6, t7, t8, t9, t10] ∧
      Same H H' ∧ H' r = some (.lst (refsN rs)) ∧ H' k = some (.lst (vn ks)) ∧ RowsN H' rs ∧ (ks ++ keysN rs).Perm (List.range c) ∧ rs.length = i ∧ ∀ x ∈ bare rs, x.2 < 10 ^ 20)
      ⟨_, _, _, _, _, List.range c, [], rfl, hS, hr', hk', fun r hr => (nomatch hr), by rw [show keysN [] = [] from rfl, List.append_nil], rfl, fun r hr => (nomatch hr)⟩ ?_ ?_
    · rintro i σ H1 hi ⟨t6, t7, t8, t9, t10, ks, rs, rfl, hS1, hr1, hk1, hR, hP, hl, hV⟩
      have hlen := len_range_perm hP
      have hkl : (keysN rs).length = rs.length := by unfold keysN; rw [List.length_map]
      have hks : 0 < ks.length := by omega
      rw [show (0 : Int) + (i : Int) = ((i : Nat) : Int) by omega]
      refine ⟨_, rfl, .inl ⟨rfl, _, SqL.of hk1⟩, ?_⟩
      refine ⟨_, rfl, _, rfl, o, 1, o + 1, rfl, rfl, trivial, rfl, _, rfl, o + 1, i, o + 1 + i, rfl, rfl, trivial, rfl, a, ns, o + 1 + i, rfl, hS1.seq hA, ?_⟩
      refine ⟨_, rfl, k, _, rfl, .inl (SqL.of hk1), _, _, rfl, rfl, by rw [len_vn]; omega, ?_⟩
      have hx0 : 0 ≤ ns.getD (o + 1 + i) 0 % ((vn ks).length : Int) := Int.emod_nonneg _ (by rw [len_vn]; omega)
      have hx1 : ns.getD (o + 1 + i) 0 % ((vn ks).length : Int) < ((vn ks).length : Int) := Int.emod_lt_of_pos _ (by rw [len_vn]; omega)
      obtain ⟨j, ej⟩ := Int.eq_ofNat_of_zero_le hx0
      rw [ej, len_vn] at hx1
      have hj : j < ks.length := by omega
      obtain ⟨g, gm⟩ := getD_mem hj
      generalize ks.getD j 0 = y at g gm
      refine ⟨k, vn ks, (j : Int), j, .int (y : Int), rfl, congrArg (fun z => [V.int z]) ej, hk1, by omega, by omega, (ixN_seq (ixN_nat (by rw [len_vn]; exact hj))).1, vn_get g, ?_⟩
      rw [vn_erase]
      have hr2 : (upd H1 k (.lst (vn (ks.eraseIdx j)))) r = some (.lst (refsN rs)) := by rw [upd_ne hrk]; exact hr1
      have hk2 : (upd H1 k (.lst (vn (ks.eraseIdx j)))) k = some (.lst (vn (ks.eraseIdx j))) := upd_same
      have hS2 : Same H (upd H1 k (.lst (vn (ks.eraseIdx j)))) := hS1.new hk0
      have hR2 := hR.lst (o := .lst (vn (ks.eraseIdx j))) hk1
      generalize upd H1 k (.lst (vn (ks.eraseIdx j))) = H2 at hr2 hk2 hS2 hR2 ⊢
      refine ⟨_, rfl, _, rfl, o, 20, o + 20, rfl, rfl, trivial, rfl, _, rfl, o + 20, i, o + 20 + i, rfl, rfl, trivial, rfl, a, ns, o + 20 + i, rfl, hS2.seq hA, ?_⟩
      generalize ns.getD (o + 20 + i) 0 = cell
      refine ⟨_, rfl, _, _, rfl, rfl, ⟨by decide, by decide⟩, _, _, rfl, rfl, (by show (0 : Int) < 5; decide), ?_⟩
      refine ⟨_, rfl, _, _, rfl, rfl, ⟨by decide, by decide⟩, _, _, rfl, rfl, (by show (0 : Int) < 1000; decide), ?_⟩
      refine ⟨_, rfl, _, _, rfl, rfl, ⟨by decide, by decide⟩, _, _, rfl, rfl, ⟨by decide, by decide, by decide⟩, _, _, rfl, rfl, (by show (0 : Int) < 10 ^ (20 : Int).toNat; decide), ?_⟩
      refine ⟨by show 5 ≤ sizeLine; decide, fun m hm => ?_⟩
      obtain ⟨v, hv, hv0, hv1⟩ := at5 (a := cell / 4 % 5) (b := cell / 4 % 1000) (c := 0) (d := 1000000000000) (e := cell / 5 % 10 ^ (20 : Int).toNat) (j := cell % 5) (by omega) (by omega) (p := fun v => 0 ≤ v ∧ v < 100000000000000000000)
        (by omega) (by omega) (by omega) (by omega) (by
          have e20 : (10 : Int) ^ (20 : Int).toNat = 100000000000000000000 := by decide
          rw [e20]; omega)
      obtain ⟨u, rfl⟩ := Int.eq_ofNat_of_zero_le hv0
      have hr3 := (Same.upd (o := .lst [.int (cell / 4 % 5), .int (cell / 4 % 1000), .int 0, .int 1000000000000, .int (cell / 5 % 10 ^ (20 : Int).toNat)]) hm) _ _ hr2
      have hk3 := (Same.upd (o := .lst [.int (cell / 4 % 5), .int (cell / 4 % 1000), .int 0, .int 1000000000000, .int (cell / 5 % 10 ^ (20 : Int).toNat)]) hm) _ _ hk2
      have hS3 := hS2.trans (Same.upd (o := .lst [.int (cell / 4 % 5), .int (cell / 4 % 1000), .int 0, .int 1000000000000, .int (cell / 5 % 10 ^ (20 : Int).toNat)]) hm)
      have hR3 := hR2.same (Same.upd (o := .lst [.int (cell / 4 % 5), .int (cell / 4 % 1000), .int 0, .int 1000000000000, .int (cell / 5 % 10 ^ (20 : Int).toNat)]) hm)
      refine ⟨_, rfl, _, rfl, _, _, rfl, rfl, (by show (0 : Int) < 5; decide), m, _, _, _, rfl, rfl, SqL.of upd_same, hv, ?_⟩
      generalize upd H2 m (.lst [.int (cell / 4 % 5), .int (cell / 4 % 1000), .int 0, .int 1000000000000, .int (cell / 5 % 10 ^ (20 : Int).toNat)]) = H3 at hr3 hk3 hS3 hR3 ⊢
      refine ⟨_, rfl, .inl ⟨rfl, _, SqL.of hr3⟩, _, rfl, _, rfl, by show 2 ≤ sizeLine; decide, fun t ht => ?_⟩
      have hr4 := (Same.upd (o := .tup [.int (y : Int), .int (u : Int)]) ht) _ _ hr3
      refine ⟨r, _, _, rfl, rfl, hr4, by rw [len_refs]; exact small1000 (by omega), _, _, _, _, _, ks.eraseIdx j, rs ++ [(t, y, u)], rfl, (hS3.trans (Same.upd ht)).new hr0, ?_, ?_, ?_, ?_, ?_, ?_⟩
      · rw [upd_same]
        unfold refsN
        rw [List.map_append]; rfl
      · rw [upd_ne (Ne.symm hrk)]
        exact (Same.upd ht) _ _ hk3
      · refine RowsN.lst (fun x hx => ?_) hr4
        rcases List.mem_append.mp hx with z | z
        · exact (Same.upd ht) _ _ (hR3 x z)
        · rw [List.mem_singleton.mp z]; exact upd_same
      · have e : keysN (rs ++ [(t, y, u)]) = keysN rs ++ [y] := by unfold keysN; rw [List.map_append]; rfl
        rw [e]
        exact pop_perm hP g
      · rw [List.length_append, hl]; rfl
      · intro x hx
        have e : bare (rs ++ [(t, y, u)]) = bare rs ++ [(y, u)] := by unfold bare; rw [List.map_append]; rfl
        rw [e] at hx
        rcases List.mem_append.mp hx with z | z
        · exact hV x z
        · rw [List.mem_singleton.mp z]
          show u < 10 ^ 20
          omega
    · rintro σ H1 ⟨t6, t7, t8, t9, t10, ks, rs, rfl, hS1, hr1, hk1, hR, hP, hl, hV⟩
      exact ⟨_, rfl, q r rs H1 hS1 hr0 hr1 hR (ok_of_perm hP) hV (by omega)⟩
  -- from the third test on
  obtain ⟨t1, p1, r1⟩ : ∃ t, PSs (cxOf CX0 P w K mg base nBy "_law_rows_by" (defScope sBy) f cdv A outer s H E).nox ((defBody sBy).drop 4) t ∧
      ∀ (r k : Addr) (M : Int) (H' : Hp), 0 ≤ M → M ≤ c → M ≤ 32 → Same H H' → H r = none → H k = none → r ≠ k → H' r = some (.lst []) → H' k = some (.lst (vn (List.range c))) →
        t { nx := fun _ H' => Q .non H', rt := Q } [some (.ref a), some (.int (o : Int)), some (.int (c : Int)), some (.ref r), some (.ref k), some (.int M), none, none, none, none, none] H' := by
    refine ⟨_, pss_cons (ps_if (pt_cmpR op_gt (pv 2) pe_int (nomark _)) (pss_one (ps_set (i := 5) scBy.nd rfl (Or.inl rfl) (pe_op op_mod (pv 5) pe_int))) pss_nil) p2, ?_⟩
    intro r k M H' hM0 hMc hM32 hS hr0 hk0 hrk hr' hk'
    refine ⟨_, rfl, _, _, rfl, rfl, _, rfl, ite3 (fun z => ?_) (fun z => ?_)⟩
    · exact ⟨_, rfl, _, _, rfl, rfl, (by show (0 : Int) < 4; decide), r2 r k (M % 4) H' (by omega) (by omega) (by omega) hS hr0 hk0 hrk hr' hk'⟩
    · exact r2 r k M H' hM0 hMc hM32 hS hr0 hk0 hrk hr' hk'
  refine ⟨_, pss_cons (ps_set (i := 3) scBy.nd rfl (Or.inl rfl) (pe_lst pa_nil))
    (pss_cons (ps_set (i := 4) scBy.nd rfl (Or.inl rfl) (pe_callTy (call_listRng rfl) rfl T.list PyProof.Rows.boot_list (pa_cons (pe_callTy call_rng rfl T.range PyProof.Rows.boot_range (pa_cons (pv 2) pa_nil)) pa_nil)))
    (pss_cons (ps_set (i := 5) scBy.nd rfl (Or.inl rfl) (pe_callB (call_min2 rfl) rfl T.min PyProof.Rows.boot_min (pa_cons pe_int (pa_cons (pe_op op_mod (pe_has C hr (pa_cons (pv 0) (pa_cons (pv 1) pa_nil))) (pe_op op_add (pv 2) pe_int)) pa_nil))))
    (pss_cons (ps_if (pt_cmpR op_eq (pe_op op_mod (pe_op op_fdiv (pe_has C hr (pa_cons (pv 0) (pa_cons (pv 1) pa_nil))) pe_int) pe_int) pe_int (nomark _))
      (pss_one (ps_set (i := 5) scBy.nd rfl (Or.inl rfl) (pe_op op_mod (pe_op op_fdiv (pe_has C hr (pa_cons (pv 0) (pa_cons (pv 1) pa_nil))) pe_int) (pe_op op_add (pe_callB (call_min2 rfl) rfl T.min PyProof.Rows.boot_min (pa_cons (pv 2) (pa_cons pe_int pa_nil))) pe_int)))) pss_nil) p1))), ?_⟩
  refine ⟨by show 0 ≤ sizeLine; decide, fun r hr0 => ?_⟩
  refine ⟨_, rfl, _, rfl, fun g hg => ?_⟩
  refine ⟨g, c, rfl, upd_same, by omega, fun k hk => ?_⟩
  have hg0 : H g = none := (Same.upd hr0).free hg
  have hk1 : (upd H r (.lst [])) k = none := (Same.upd hg).free hk
  have hk0 : H k = none := (Same.upd hr0).free hk1
  have hrk : r ≠ k := ne_of_none (H := upd H r (.lst [])) upd_same hk1
  have hrg : r ≠ g := ne_of_none (H := upd H r (.lst [])) upd_same hg
  have hS : Same H (upd (upd (upd H r (.lst [])) g (.rng 0 (c : Int))) k (.lst (upto c))) := ((Same.upd hr0).new hg0).new hk0
  have hr' : (upd (upd (upd H r (.lst [])) g (.rng 0 (c : Int))) k (.lst (upto c))) r = some (.lst []) := by rw [upd_ne hrk, upd_ne hrg, upd_same]
  have hk' : (upd (upd (upd H r (.lst [])) g (.rng 0 (c : Int))) k (.lst (upto c))) k = some (.lst (vn (List.range c))) := upd_same
  generalize upd (upd (upd H r (.lst [])) g (.rng 0 (c : Int))) k (.lst (upto c)) = H' at hS hr' hk' ⊢
  refine ⟨_, rfl, _, rfl, a, ns, o, rfl, hS.seq hA, ?_⟩
  refine ⟨_, rfl, _, _, rfl, rfl, _, _, rfl, rfl, (by show (0 : Int) < (c : Int) + 1; omega), _, _, rfl, ?_⟩
  have b0 : 0 ≤ ns.getD o 0 % ((c : Int) + 1) := Int.emod_nonneg _ (by omega)
  have b1 : ns.getD o 0 % ((c : Int) + 1) < (c : Int) + 1 := Int.emod_lt_of_pos _ (by omega)
  refine ⟨_, rfl, _, rfl, a, ns, o, rfl, hS.seq hA, _, _, rfl, rfl, ⟨by decide, by decide⟩, _, _, rfl, rfl, (by show (0 : Int) < 8; decide), rfl, _, rfl, ite3 (fun z => ?_) (fun z => ?_)⟩
  · refine ⟨_, rfl, _, rfl, a, ns, o, rfl, hS.seq hA, _, _, rfl, rfl, ⟨by decide, by decide⟩, _, rfl, _, _, rfl, _, _, rfl, rfl, _, _, rfl, rfl, ?_, ?_⟩
    · show (0 : Int) < (if (32 : Int) < (c : Int) then 32 else (c : Int)) + 1
      split <;> omega
    · have d0 : 0 ≤ ns.getD o 0 / 512 % ((if (32 : Int) < (c : Int) then 32 else (c : Int)) + 1) := Int.emod_nonneg _ (by split <;> omega)
      have d1 : ns.getD o 0 / 512 % ((if (32 : Int) < (c : Int) then 32 else (c : Int)) + 1) < (if (32 : Int) < (c : Int) then 32 else (c : Int)) + 1 := Int.emod_lt_of_pos _ (by split <;> omega)
      have m1 : (if (32 : Int) < (c : Int) then 32 else (c : Int)) ≤ (c : Int) := by split <;> omega
      have m2 : (if (32 : Int) < (c : Int) then 32 else (c : Int)) ≤ 32 := by split <;> omega
      exact r1 r k _ H' d0 (Int.le_trans (Int.lt_add_one_iff.mp d1) m1) (Int.le_trans (Int.lt_add_one_iff.mp d1) m2) hS hr0 hk0 hrk hr' hk'
  · refine r1 r k _ H' ?_ ?_ ?_ hS hr0 hk0 hrk hr' hk'
    · split <;> omega
    · split <;> omega
    · split <;> omega
end
end Ts
namespace Ts
open PySem L2
theorem refs_last (ls : List Addr) (q : Addr) : (ls ++ [q]).map V.ref = ls.map V.ref ++ [.ref q] := by rw [List.map_append]; rfl
section
variable {P : Program} {w : World} {K : PySem.W.Frag} {mg : Str → Option Value} {base : Heap} {f : Addr} {fd : FuncData}
abbrev nLevels : List Str := ["_law_row", "_law_levels", "_law_here", "_law_above", "_law_k"]
theorem scLevels : FnScope nLevels ["_law_row"] (defScope sLevels) := ⟨rfl, rfl, rfl, by decide +kernel, rfl, by decide +kernel, by decide +kernel⟩
theorem ok_levels (F : Fun K "_law_by_levels" "_law_by_levels" sLevels f fd) (T : Blt mg) (C : Has P w K mg base "_law_joined_up" 1 ["_law_one", "_law_two"] spJoin) : FnOk P w K mg base CX0 2 f fd ["_law_row"] (spLevels K) := by
  refine F.ok scLevels (fun vs H Q E h => ?_) (fun cdv A outer s H vs Q E hr h => ?_)
  · obtain ⟨d, l, xs, rfl, _⟩ := h
    rfl
  obtain ⟨d, l, xs, rfl, hd, hl, hxl, hxb, q⟩ := h
  refine ⟨_, pss_cons (ps_set (i := 1) scLevels.nd rfl (Or.inl rfl) (pe_lst (pa_cons (pe_callTy call_list_of rfl T.list PyProof.Rows.boot_list (pa_cons (pv 0) pa_nil)) pa_nil)))
    (pss_cons (ps_while PassesOwn.never (pt_cmpR op_gt (pe_callB call_len_seq rfl T.len PySem.boot_len (pa_cons (pe_ix ix_list (pv 1) (pe_un un_neg pe_int) (fun _ _ => rfl)) pa_nil)) pe_int (nomark _))
      (pss_cons (ps_set (i := 2) scLevels.nd rfl (Or.inl rfl) (pe_ix ix_list (pv 1) (pe_un un_neg pe_int) (fun _ _ => rfl)))
      (pss_cons (ps_set (i := 3) scLevels.nd rfl (Or.inl rfl) (pe_lst pa_nil))
      (pss_cons (ps_for PassesOwn.never rfl (pi_range3 rfl T.range (pa_cons pe_int (pa_cons (pe_callB call_len_seq rfl T.len PySem.boot_len (pa_cons (pv 2) pa_nil)) (pa_cons pe_int pa_nil)))) (pg_name (i := 4) scLevels.nd rfl (Or.inl rfl))
        (pss_one (ps_expr (pe_bm PySem.F.plainAttrs_list PySem.F.slot_list_append PySem.F.type_list_append mt_append (pv 3) (pa_cons (pe_has C hr (pa_cons (pe_ix ix_list (pv 2) (pv 4) (fun _ _ => rfl)) (pa_cons (pe_ix ix_list (pv 2) (pe_op n_add (pv 4) pe_int) (fun _ _ => rfl)) pa_nil))) pa_nil)))))
      (pss_one (ps_expr (pe_bm PySem.F.plainAttrs_list PySem.F.slot_list_append PySem.F.type_list_append mt_append (pv 1) (pa_cons (pv 3) pa_nil))))))))
    (pss_one (ps_ret (pv 1)))), ?_⟩
  refine ⟨_, rfl, l, _, rfl, .inl hl, fun q0 hq0 => ?_⟩
  refine ⟨by show 1 ≤ sizeLine; decide, fun p hp1 => ?_⟩
  have hp : H p = none := (Same.upd hq0).free hp1
  have hq0p : q0 ≠ p := ne_of_none (H := upd H q0 (.lst (vn xs))) upd_same hp1
  refine while_on (fun m σ H' => m ≤ d ∧ ∃ (t2 t3 t4 : Option V) (ls : List Addr) (q : Addr), σ = [some (.ref l), some (.ref p), t2, t3, t4] ∧ Same H H' ∧ H' p = some (.lst ((ls ++ [q]).map V.ref)) ∧ ls.length = d - m ∧ q ≠ p ∧ (∀ z ∈ ls, z ≠ p) ∧ LevelsAt H' xs (ls ++ [q]) ∧ H' q = some (.lst (vn (ups (d - m) xs)))) d
    ⟨Nat.le_refl _, _, _, _, [], q0, rfl, (Same.upd hq0).new hp, upd_same, by rw [Nat.sub_self]; rfl, hq0p, fun z hz => (nomatch hz), ?_, ?_⟩ ?_
  · intro j hj
    have hj0 : j = 0 := by
      have : j < 1 := hj
      omega
    subst hj0
    exact ⟨q0, rfl, by rw [upd_ne hq0p, upd_same]; rfl⟩
  · rw [Nat.sub_self, upd_ne hq0p, upd_same]; rfl
  rintro m σ H' ⟨hm, t2, t3, t4, ls, q1, rfl, hS, hp', hll, hqp, hlp, hLv, hq1⟩
  have hlen : (ups (d - m) xs).length = 2 ^ m := by
    rw [len_ups, hxl, Nat.pow_div (Nat.sub_le _ _) (by decide)]
    congr 1
    omega
  have hlast : atI ((ls ++ [q1]).map V.ref) (-1) = some (.ref q1) := by rw [refs_last]; exact atI_last _ _
  refine ⟨_, rfl, _, rfl, p, _, _, _, rfl, rfl, SqL.of hp', hlast, q1, _, rfl, .inl (SqL.of hq1), _, _, rfl, rfl, _, rfl, ite3 (fun c => ?_) (fun c => ?_)⟩
  · rw [len_vn, hlen] at c
    obtain ⟨m', rfl⟩ : ∃ m', m = m' + 1 := by
      cases m with
      | zero => exact absurd c (by decide)
      | succ m' => exact ⟨m', rfl⟩
    have h256 : 2 ^ (m' + 1) ≤ 2 ^ 8 := Nat.pow_le_pow_right (by decide) (by omega)
    have hev : (ups (d - (m' + 1)) xs).length % 2 = 0 := by rw [hlen, Nat.pow_succ]; omega
    have hb : ∀ x ∈ ups (d - (m' + 1)) xs, x < 2 ^ bb := fun x hx => lt_pow_mono (ups_lt hxb _ x hx) (Nat.le_trans (bits_le (by omega)) (by decide))
    have hup : ups (d - m') xs = up (ups (d - (m' + 1)) xs) := by rw [show d - m' = (d - (m' + 1)) + 1 by omega, ups_succ]
    have hdm : d - m' = (d - (m' + 1)) + 1 := by omega
    rw [← hlen] at h256
    generalize ups (d - (m' + 1)) xs = ys at hlen hev hb hup hq1 h256 ⊢
    refine ⟨_, fun _ _ z => z, ?_⟩
    refine ⟨_, rfl, _, rfl, p, _, _, _, rfl, rfl, SqL.of hp', hlast, ?_⟩
    refine ⟨by show 0 ≤ sizeLine; decide, fun a ha => ?_⟩
    have ha0 : H a = none := hS.free ha
    have hap : p ≠ a := ne_of_none hp' ha
    have haq : q1 ≠ a := ne_of_none hq1 ha
    have hal : ∀ z ∈ ls, z ≠ a := fun z hz => by
      obtain ⟨j, hj⟩ := List.getElem?_of_mem hz
      have hj1 : j < ls.length := (List.getElem?_eq_some_iff.mp hj).1
      obtain ⟨z', e1, e2⟩ := hLv j (by rw [List.length_append]; show j < ls.length + 1; omega)
      rw [List.getElem?_append_left hj1, hj] at e1
      cases e1
      exact ne_of_none e2 ha
    have hSa : Same H' (upd H' a (.lst [])) := Same.upd ha
    obtain ⟨sm1, sm2⟩ := small_two (n := (vn ys).length) (by rw [len_vn]; omega)
    have hlv := len_vn ys
    refine ⟨_, rfl, q1, _, rfl, .inl (SqL.of (hSa _ _ hq1)), 0, _, 2, ys.length / 2, rfl, by decide, ⟨by omega, by omega⟩, sm1, by rw [sm2, hlv, two_even hev], by decide, ?_⟩
    refine for_on (ys.length / 2) (fun i σ H2 => ∃ t4 : Option V, σ = [some (.ref l), some (.ref p), some (.ref q1), some (.ref a), t4] ∧ Same H' H2 ∧ H2 a = some (.lst (vn ((up ys).take i)))) ⟨_, rfl, hSa, upd_same⟩ ?_ ?_
    · rintro i σ H2 hi ⟨t4, rfl, hS2, ha2⟩
      refine ⟨hi, fun x H3 y => ?_⟩
      obtain ⟨e1, e2⟩ := y
      subst e1 e2
      rw [show (0 + (i : Int) * 2) = ((2 * i : Nat) : Int) by omega]
      obtain ⟨g1, m1⟩ := getD_mem (xs := ys) (i := 2 * i) (by omega)
      obtain ⟨g2, m2⟩ := getD_mem (xs := ys) (i := 2 * i + 1) (by omega)
      have hq2 := SqL.of (K := K) (hS2 _ _ hq1)
      refine ⟨_, rfl, .inl ⟨rfl, _, SqL.of ha2⟩, ?_⟩
      refine ⟨_, rfl, _, rfl, q1, _, _, _, rfl, rfl, hq2, atI_nat (vn_get g1), _, rfl, _, rfl, 2 * i, 1, 2 * i + 1, rfl, rfl, trivial, rfl, q1, _, _, _, rfl, rfl, hq2, atI_nat (vn_get g2), _, _, rfl, hb _ m1, hb _ m2, ?_⟩
      refine ⟨a, _, _, rfl, rfl, ha2, by rw [len_vn, List.length_take]; exact small1000 (by omega), _, rfl, hS2.new ha, ?_⟩
      rw [upd_same, take_one (up_get ys i (by omega)), ← vn_app]
      rfl
    · rintro σ H2 ⟨t4, rfl, hS2, ha2⟩
      refine ⟨Nat.le_refl _, ?_⟩
      rw [List.take_of_length_le (by rw [len_up]; omega)] at ha2
      have hp2 := hS2 _ _ hp'
      refine ⟨_, rfl, .inl ⟨rfl, _, SqL.of hp2⟩, _, rfl, p, _, _, rfl, rfl, hp2, ?_, ?_⟩
      · rw [List.length_map, List.length_append, hll]
        exact small1000 (by show _ + 1 ≤ 1000; omega)
      refine ⟨m', Nat.lt_succ_self _, by omega, _, _, _, ls ++ [q1], a, rfl, (hS.trans hS2).new hp, ?_, ?_, Ne.symm hap, ?_, ?_, ?_⟩
      · rw [upd_same, refs_last (ls ++ [q1]) a]
      · rw [List.length_append, hll, hdm]; rfl
      · intro z hz
        rcases List.mem_append.mp hz with y | y
        · exact hlp z y
        · rw [List.mem_singleton.mp y]; exact hqp
      · intro j hj
        rw [List.length_append] at hj
        have hj' : j < (ls ++ [q1]).length + 1 := hj
        by_cases hjl : j < (ls ++ [q1]).length
        · obtain ⟨z, e1, e2⟩ := hLv j hjl
          refine ⟨z, by rw [List.getElem?_append_left hjl]; exact e1, ?_⟩
          have hzp : z ≠ p := by
            rcases List.mem_append.mp (List.mem_of_getElem? e1) with y | y
            · exact hlp z y
            · rw [List.mem_singleton.mp y]; exact hqp
          rw [upd_ne hzp]
          exact hS2 _ _ e2
        · have ej : j = (ls ++ [q1]).length := by omega
          refine ⟨a, by rw [ej, List.getElem?_append_right (Nat.le_refl _), Nat.sub_self]; rfl, ?_⟩
          rw [upd_ne (Ne.symm hap), ha2, ej, List.length_append, hll]
          show _ = some (HO.lst (vn (ups (d - (m' + 1) + 1) xs)))
          rw [← hdm, hup]
      · rw [upd_ne (Ne.symm hap), ha2, hup]
  · rw [len_vn, hlen] at c
    have hm0 : m = 0 := by
      cases m with
      | zero => rfl
      | succ m' =>
        exfalso
        refine c ?_
        have : 0 < 2 ^ m' := Nat.two_pow_pos m'
        rw [Nat.pow_succ]; omega
    subst hm0
    rw [Nat.sub_zero] at hq1 hll
    rw [ups_one hxl] at hq1
    exact ⟨_, rfl, q p ls q1 H' hS hp hp' hll hLv hq1⟩
end
end Ts
namespace Ts
open PySem L2
theorem last_at {xs : List V} {x : V} : (xs ++ [x])[(xs ++ [x]).length - 1]? = some x := by simp
section
variable {P : Program} {w : World} {K : PySem.W.Frag} {mg : Str → Option Value} {base : Heap} {f : Addr} {fd : FuncData}
abbrev nStays : List Str := ["_law_handed", "_law_own", "_law_left", "_law_right", "_law_one", "_law_two"]
theorem scStays : FnScope nStays ["_law_handed", "_law_own"] (defScope sStays) := ⟨rfl, rfl, rfl, by decide +kernel, rfl, by decide +kernel, by decide +kernel⟩
theorem line_le {n : Nat} (h : n ≤ 100000) : n ≤ sizeLine := Nat.le_trans h (by decide)
theorem ok_stays (F : Fun K "_law_stays_so" "_law_stays_so" sStays f fd) (T : Blt mg) : FnOk P w K mg base CX0 1 f fd ["_law_handed", "_law_own"] spStays := by
  refine F.ok scStays (fun vs H Q E h => ?_) (fun cdv A outer s H vs Q E hr h => ?_)
  · obtain ⟨x, y, n, rfl, _⟩ := h
    rfl
  obtain ⟨x0, y0, n0, rfl, hSt0, hn0, q⟩ := h
  have hu : _ < cLine := hr.units0
  refine ⟨_, pss_cons (ps_set (i := 2) scStays.nd rfl (Or.inl rfl) (pe_lst (pa_cons (pv 0) pa_nil)))
    (pss_cons (ps_set (i := 3) scStays.nd rfl (Or.inl rfl) (pe_lst (pa_cons (pv 1) pa_nil)))
    (pss_cons (ps_while PassesOwn.never (pt_cmpR (op_neLE hu) (pv 3) (pe_lst pa_nil) (nomark _))
      (pss_cons (ps_set (i := 4) scStays.nd rfl (Or.inl rfl) (pe_bm0 PySem.F.plainAttrs_list PySem.F.slot_list_pop PySem.F.type_list_pop mt_pop (pv 2)))
      (pss_cons (ps_set (i := 5) scStays.nd rfl (Or.inl rfl) (pe_bm0 PySem.F.plainAttrs_list PySem.F.slot_list_pop PySem.F.type_list_pop mt_pop (pv 3)))
      (pss_one (ps_if (pt_val (pe_callB call_isinT rfl T.isi PyProof.Rows.boot_isinstance (pa_cons (pv 5) (pa_cons (pe_tup (pa_cons (pe_bltn (v := .ty "list") rfl T.list PyProof.Rows.boot_list rfl) (pa_cons (pe_bltn (v := .ty "tuple") rfl T.tuple PyProof.Rows.boot_tuple rfl) pa_nil))) pa_nil))))
        (pss_cons (ps_if (pt_cmpR op_ne (pe_callB call_isinst rfl T.isi PyProof.Rows.boot_isinstance (pa_cons (pv 4) (pa_cons (pe_bltn (v := .ty "list") rfl T.list PyProof.Rows.boot_list rfl) pa_nil))) (pe_callB call_isinst rfl T.isi PyProof.Rows.boot_isinstance (pa_cons (pv 5) (pa_cons (pe_bltn (v := .ty "list") rfl T.list PyProof.Rows.boot_list rfl) pa_nil))) (nomark _)) pss_never pss_nil)
        (pss_cons (ps_if (PW.pt (pw_or (pt_cmpR op_ne (pe_callB call_isinst rfl T.isi PyProof.Rows.boot_isinstance (pa_cons (pv 4) (pa_cons (pe_bltn (v := .ty "tuple") rfl T.tuple PyProof.Rows.boot_tuple rfl) pa_nil))) (pe_callB call_isinst rfl T.isi PyProof.Rows.boot_isinstance (pa_cons (pv 5) (pa_cons (pe_bltn (v := .ty "tuple") rfl T.tuple PyProof.Rows.boot_tuple rfl) pa_nil))) (nomark _))
          (pw_or1 (pt_cmpR op_ne (pe_callB call_len_seq rfl T.len PySem.boot_len (pa_cons (pv 4) pa_nil)) (pe_callB call_len_seq rfl T.len PySem.boot_len (pa_cons (pv 5) pa_nil)) (nomark _))))) pss_never pss_nil)
        (pss_cons (ps_expr (pe_bm PySem.F.plainAttrs_list PySem.F.slot_list_extend PySem.F.type_list_extend mt_extend (pv 2) (pa_cons (pe_callTy call_list_of rfl T.list PyProof.Rows.boot_list (pa_cons (pv 4) pa_nil)) pa_nil)))
        (pss_one (ps_expr (pe_bm PySem.F.plainAttrs_list PySem.F.slot_list_extend PySem.F.type_list_extend mt_extend (pv 3) (pa_cons (pe_callTy call_list_of rfl T.list PyProof.Rows.boot_list (pa_cons (pv 5) pa_nil)) pa_nil)))))))
        (pss_one (ps_if (pt_val (pe_callB call_isinst rfl T.isi PyProof.Rows.boot_isinstance (pa_cons (pv 5) (pa_cons (pe_bltn (v := .ty "str") rfl T.str PyProof.Rows.boot_str rfl) pa_nil)))) pss_never
          (pss_one (ps_if (pt_cmp (pc_isN (pv 5))) (pss_one (ps_if (pt_cmp (pc_notN (pv 4))) pss_never pss_nil))
            (pss_one (ps_if (PW.pt (pw_or (pt_not (pt_val (pe_callB call_isinst rfl T.isi PyProof.Rows.boot_isinstance (pa_cons (pv 4) (pa_cons (pe_bltn (v := .ty "int") rfl T.int PyProof.Rows.boot_int rfl) pa_nil)))))
              (pw_or (pt_val (pe_callB call_isinst rfl T.isi PyProof.Rows.boot_isinstance (pa_cons (pv 4) (pa_cons (pe_bltn (v := .ty "bool") rfl T.bool PyProof.Rows.boot_bool rfl) pa_nil)))) (pw_or1 (pt_cmpR op_ne (pv 4) (pv 5) (nomark _)))))) pss_never pss_nil)))))))))))
    (pss_one (ps_ret pe_bl)))), ?_⟩
  have one : (1 : Nat) ≤ sizeLine := by decide
  have two : (2 : Nat) ≤ sizeLine := by decide
  have nul : (0 : Nat) ≤ sizeLine := by decide
  refine ⟨_, rfl, one, fun L hL0 => ?_⟩
  refine ⟨_, rfl, one, fun R hR1 => ?_⟩
  have hR0 : H R = none := (Same.upd hL0).free hR1
  have hLR : L ≠ R := ne_of_none (H := upd H L (.lst [x0])) upd_same hR1
  refine while_on (fun m σ H' => m ≤ 100000 ∧ ∃ (t4 t5 : Option V) (lv rv : List V), σ = [some x0, some y0, some (.ref L), some (.ref R), t4, t5] ∧ Same H H' ∧ H' L = some (.lst lv) ∧ H' R = some (.lst rv) ∧ Stk H m lv rv) n0
    ⟨hn0, _, _, _, _, rfl, (Same.upd hL0).new hR0, by rw [upd_ne hLR, upd_same], upd_same, hSt0⟩ ?_
  rintro m σ H' ⟨hm, t4, t5, lv, rv, rfl, hS', hL', hR', hSt⟩
  refine ⟨_, rfl, nul, fun e he => ?_⟩
  have hS1 := hS'.trans (Same.upd (o := .lst []) he)
  have hL1 := (Same.upd (o := .lst []) he) _ _ hL'
  have hR1' := (Same.upd (o := .lst []) he) _ _ hR'
  refine ⟨R, e, rv, rfl, rfl, SqL.of hR1', SqL.of upd_same, _, rfl, ?_⟩
  clear hS' hL' hR'
  generalize upd H' e (.lst []) = H1 at hS1 hL1 hR1' ⊢
  cases hSt with
  | nil => exact iteB rfl (q H1 hS1)
  | @flat n us ws x hSt hx =>
    refine iteB1 (by simp) ?_
    refine ⟨_, fun _ _ z => z, ?_⟩
    refine ⟨_, rfl, .inl ⟨rfl, _, SqL.of hL1⟩, L, _, x, rfl, rfl, hL1, last_at, ?_⟩
    rw [List.dropLast_concat]
    have hR2 : (upd H1 L (.lst us)) R = some (.lst (ws ++ [x])) := by rw [upd_ne (Ne.symm hLR)]; exact hR1'
    refine ⟨_, rfl, .inl ⟨rfl, _, SqL.of hR2⟩, R, _, x, rfl, rfl, hR2, last_at, ?_⟩
    rw [List.dropLast_concat]
    have hS2 : Same H (upd (upd H1 L (.lst us)) R (.lst ws)) := (hS1.new hL0).new hR0
    have hL2 : (upd (upd H1 L (.lst us)) R (.lst ws)) L = some (.lst us) := by rw [upd_ne hLR, upd_same]
    have hR3 : (upd (upd H1 L (.lst us)) R (.lst ws)) R = some (.lst ws) := upd_same
    generalize upd (upd H1 L (.lst us)) R (.lst ws) = H2 at hS2 hL2 hR3 ⊢
    refine ⟨_, rfl, two, fun t ht => ?_⟩
    have hS3 := hS2.trans (Same.upd (o := .tup (tyVs ["list", "tuple"])) ht)
    have hL3 := (Same.upd (o := .tup (tyVs ["list", "tuple"])) ht) _ _ hL2
    have hR4 := (Same.upd (o := .tup (tyVs ["list", "tuple"])) ht) _ _ hR3
    rcases hx with ⟨i, rfl⟩ | rfl
    · refine ⟨_, t, ["list", "tuple"], _, false, rfl, SqT.of upd_same, .int i, (fun C z => nomatch z), kit_any2 (a := false) (b := false) (kit_bb K (by decide +kernel)) (kit_bb K (by decide +kernel)), _, rfl, iteF ?_⟩
      refine ⟨_, rfl, _, _, _, false, rfl, .int i, kit_bb K (by decide +kernel), _, rfl, iteF ?_⟩
      refine ⟨_, rfl, _, rfl, iteN (by intro z; cases z) ?_⟩
      refine ⟨_, rfl, _, _, _, true, rfl, .int i, kit_bb K (by decide +kernel), _, rfl, iteB rfl ?_⟩
      refine ⟨_, rfl, _, _, _, false, rfl, .int i, kit_bb K (by decide +kernel), _, rfl, iteF ?_⟩
      refine ⟨_, rfl, _, rfl, by rfl, _, rfl, iteNS rfl ?_⟩
      exact ⟨n, Nat.lt_succ_self _, by omega, _, _, us, ws, rfl, hS3, hL3, hR4, hSt⟩
    · refine ⟨_, t, ["list", "tuple"], _, false, rfl, SqT.of upd_same, .non, (fun C z => nomatch z), kit_any2 (a := false) (b := false) (kit_bb K (by decide +kernel)) (kit_bb K (by decide +kernel)), _, rfl, iteF ?_⟩
      refine ⟨_, rfl, _, _, _, false, rfl, .non, kit_bb K (by decide +kernel), _, rfl, iteF ?_⟩
      refine ⟨_, rfl, _, rfl, iteY rfl ?_⟩
      refine ⟨_, rfl, _, rfl, iteNS rfl ?_⟩
      exact ⟨n, Nat.lt_succ_self _, by omega, _, _, us, ws, rfl, hS3, hL3, hR4, hSt⟩
  | @lst n m1 us ws xs ys a b hSt hIn ea eb =>
    refine iteB1 (by simp) ?_
    refine ⟨_, fun _ _ z => z, ?_⟩
    refine ⟨_, rfl, .inl ⟨rfl, _, SqL.of hL1⟩, L, _, _, rfl, rfl, hL1, last_at, ?_⟩
    rw [List.dropLast_concat]
    have hR2 : (upd H1 L (.lst us)) R = some (.lst (ws ++ [.ref b])) := by rw [upd_ne (Ne.symm hLR)]; exact hR1'
    refine ⟨_, rfl, .inl ⟨rfl, _, SqL.of hR2⟩, R, _, _, rfl, rfl, hR2, last_at, ?_⟩
    rw [List.dropLast_concat]
    have hS2 : Same H (upd (upd H1 L (.lst us)) R (.lst ws)) := (hS1.new hL0).new hR0
    have hL2 : (upd (upd H1 L (.lst us)) R (.lst ws)) L = some (.lst us) := by rw [upd_ne hLR, upd_same]
    have hR3 : (upd (upd H1 L (.lst us)) R (.lst ws)) R = some (.lst ws) := upd_same
    generalize upd (upd H1 L (.lst us)) R (.lst ws) = H2 at hS2 hL2 hR3 ⊢
    refine ⟨_, rfl, two, fun t ht => ?_⟩
    have hS3 := hS2.trans (Same.upd (o := .tup (tyVs ["list", "tuple"])) ht)
    have hL3 := (Same.upd (o := .tup (tyVs ["list", "tuple"])) ht) _ _ hL2
    have hR4 := (Same.upd (o := .tup (tyVs ["list", "tuple"])) ht) _ _ hR3
    have ht3 : (upd H2 t (.tup (tyVs ["list", "tuple"]))) t = some (.tup (tyVs ["list", "tuple"])) := upd_same
    have hlen := hIn.len
    have hlen2 := hSt.len
    refine ⟨_, t, ["list", "tuple"], _, true, rfl, SqT.of ht3, .lst (hS3 _ _ eb), (fun C z => nomatch z), kit_any2 (a := true) (b := false) (kit_bb K (by decide +kernel)) (kit_bb K (by decide +kernel)), _, rfl, iteT ?_⟩
    refine ⟨_, rfl, _, _, _, true, rfl, .lst (hS3 _ _ ea), kit_bb K (by decide +kernel), _, rfl, _, _, _, true, rfl, .lst (hS3 _ _ eb), kit_bb K (by decide +kernel), rfl, _, rfl, iteNS rfl ?_⟩
    refine ⟨_, rfl, _, _, _, false, rfl, .lst (hS3 _ _ ea), kit_bb K (by decide +kernel), _, rfl, _, _, _, false, rfl, .lst (hS3 _ _ eb), kit_bb K (by decide +kernel), rfl, _, rfl, iteNS rfl ?_⟩
    refine ⟨_, rfl, a, _, rfl, .inl (SqL.of (hS3 _ _ ea)), _, rfl, b, _, rfl, .inl (SqL.of (hS3 _ _ eb)), rfl, _, rfl, iteNS (by rw [hlen.1]) ?_⟩
    refine ⟨_, rfl, .inl ⟨rfl, _, SqL.of hL3⟩, _, rfl, a, _, rfl, .inl (SqL.of (hS3 _ _ ea)), fun c hc => ?_⟩
    have hc0 : H c = none := hS3.free hc
    refine ⟨L, c, us, xs, rfl, rfl, (Same.upd hc) _ _ hL3, upd_same, line_le (by omega), ?_⟩
    have hS5 := (hS3.trans (Same.upd (o := .lst xs) hc)).new (m := L) (o := .lst (us ++ xs)) hL0
    have hR5 : (upd (upd (upd H2 t (.tup (tyVs ["list", "tuple"]))) c (.lst xs)) L (.lst (us ++ xs))) R = some (.lst ws) := by rw [upd_ne (Ne.symm hLR)]; exact (Same.upd hc) _ _ hR4
    have hL5 : (upd (upd (upd H2 t (.tup (tyVs ["list", "tuple"]))) c (.lst xs)) L (.lst (us ++ xs))) L = some (.lst (us ++ xs)) := upd_same
    refine ⟨_, rfl, .inl ⟨rfl, _, SqL.of hR5⟩, _, rfl, b, _, rfl, .inl (SqL.of (hS5 _ _ eb)), fun c2 hc2 => ?_⟩
    refine ⟨R, c2, ws, ys, rfl, rfl, (Same.upd hc2) _ _ hR5, upd_same, line_le (by omega), ?_⟩
    refine ⟨n + m1, Nat.lt_succ_self _, by omega, _, _, us ++ xs, ws ++ ys, rfl, (hS5.trans (Same.upd hc2)).new hR0, ?_, upd_same, hSt.app hIn⟩
    rw [upd_ne hLR]
    exact (Same.upd hc2) _ _ hL5
  | @tup n m1 us ws xs ys a b hSt hIn ea eb =>
    refine iteB1 (by simp) ?_
    refine ⟨_, fun _ _ z => z, ?_⟩
    refine ⟨_, rfl, .inl ⟨rfl, _, SqL.of hL1⟩, L, _, _, rfl, rfl, hL1, last_at, ?_⟩
    rw [List.dropLast_concat]
    have hR2 : (upd H1 L (.lst us)) R = some (.lst (ws ++ [.ref b])) := by rw [upd_ne (Ne.symm hLR)]; exact hR1'
    refine ⟨_, rfl, .inl ⟨rfl, _, SqL.of hR2⟩, R, _, _, rfl, rfl, hR2, last_at, ?_⟩
    rw [List.dropLast_concat]
    have hS2 : Same H (upd (upd H1 L (.lst us)) R (.lst ws)) := (hS1.new hL0).new hR0
    have hL2 : (upd (upd H1 L (.lst us)) R (.lst ws)) L = some (.lst us) := by rw [upd_ne hLR, upd_same]
    have hR3 : (upd (upd H1 L (.lst us)) R (.lst ws)) R = some (.lst ws) := upd_same
    generalize upd (upd H1 L (.lst us)) R (.lst ws) = H2 at hS2 hL2 hR3 ⊢
    refine ⟨_, rfl, two, fun t ht => ?_⟩
    have hS3 := hS2.trans (Same.upd (o := .tup (tyVs ["list", "tuple"])) ht)
    have hL3 := (Same.upd (o := .tup (tyVs ["list", "tuple"])) ht) _ _ hL2
    have hR4 := (Same.upd (o := .tup (tyVs ["list", "tuple"])) ht) _ _ hR3
    have ht3 : (upd H2 t (.tup (tyVs ["list", "tuple"]))) t = some (.tup (tyVs ["list", "tuple"])) := upd_same
    have hlen := hIn.len
    have hlen2 := hSt.len
    refine ⟨_, t, ["list", "tuple"], _, true, rfl, SqT.of ht3, .tup (hS3 _ _ eb), (fun C z => nomatch z), kit_any2 (a := false) (b := true) (kit_bb K (by decide +kernel)) (kit_bb K (by decide +kernel)), _, rfl, iteT ?_⟩
    refine ⟨_, rfl, _, _, _, false, rfl, .tup (hS3 _ _ ea), kit_bb K (by decide +kernel), _, rfl, _, _, _, false, rfl, .tup (hS3 _ _ eb), kit_bb K (by decide +kernel), rfl, _, rfl, iteNS rfl ?_⟩
    refine ⟨_, rfl, _, _, _, true, rfl, .tup (hS3 _ _ ea), kit_bb K (by decide +kernel), _, rfl, _, _, _, true, rfl, .tup (hS3 _ _ eb), kit_bb K (by decide +kernel), rfl, _, rfl, iteNS rfl ?_⟩
    refine ⟨_, rfl, a, _, rfl, .inr (SqT.of (hS3 _ _ ea)), _, rfl, b, _, rfl, .inr (SqT.of (hS3 _ _ eb)), rfl, _, rfl, iteNS (by rw [hlen.1]) ?_⟩
    refine ⟨_, rfl, .inl ⟨rfl, _, SqL.of hL3⟩, _, rfl, a, _, rfl, .inr (SqT.of (hS3 _ _ ea)), fun c hc => ?_⟩
    have hc0 : H c = none := hS3.free hc
    refine ⟨L, c, us, xs, rfl, rfl, (Same.upd hc) _ _ hL3, upd_same, line_le (by omega), ?_⟩
    have hS5 := (hS3.trans (Same.upd (o := .lst xs) hc)).new (m := L) (o := .lst (us ++ xs)) hL0
    have hR5 : (upd (upd (upd H2 t (.tup (tyVs ["list", "tuple"]))) c (.lst xs)) L (.lst (us ++ xs))) R = some (.lst ws) := by rw [upd_ne (Ne.symm hLR)]; exact (Same.upd hc) _ _ hR4
    have hL5 : (upd (upd (upd H2 t (.tup (tyVs ["list", "tuple"]))) c (.lst xs)) L (.lst (us ++ xs))) L = some (.lst (us ++ xs)) := upd_same
    refine ⟨_, rfl, .inl ⟨rfl, _, SqL.of hR5⟩, _, rfl, b, _, rfl, .inr (SqT.of (hS5 _ _ eb)), fun c2 hc2 => ?_⟩
    refine ⟨R, c2, ws, ys, rfl, rfl, (Same.upd hc2) _ _ hR5, upd_same, line_le (by omega), ?_⟩
    refine ⟨n + m1, Nat.lt_succ_self _, by omega, _, _, us ++ xs, ws ++ ys, rfl, (hS5.trans (Same.upd hc2)).new hR0, ?_, upd_same, hSt.app hIn⟩
    rw [upd_ne hLR]
    exact (Same.upd hc2) _ _ hL5
end
end Ts
namespace L2
open PySem PySem.Spec PyProof.Rows
theorem star_const {c : Const} {j : Nat} {pos : Pos} {es : List Expr} {env : Env} : starEach (.Constant c j pos :: es) env = (false, eval (.Constant c j pos) env) :: starEach es env := by rfl
theorem pa_int {X : Cx} {i : Int} {j : Nat} {pos : Pos} {es : List Expr} {t : TA} (h : PA X es t) : PA X (.Constant (.int i) j pos :: es) (tCons (tC (.int i)) t) := pa_cons pe_int h star_const
end L2
namespace Ts
open PySem L2
theorem cut_all (ns : List Int) (h : ns.length ≤ 63) : cutV (ns.map V.int) none (some 500) = ns.map V.int := by
  unfold cutV
  have e : HT.sIx (ns.map V.int).length (ns.map V.int).length (some (500 : Int)) = (ns.map V.int).length := by
    have := HT.sIx_nat (ns.map V.int).length (ns.map V.int).length 500
    rw [List.length_map] at this ⊢
    have q : ((500 : Nat) : Int) = (500 : Int) := rfl
    rw [q] at this
    rw [this]
    omega
  rw [e, HT.sIx_none, Nat.sub_zero, List.drop_zero, List.take_length]
theorem at9 {j : Int} (h : 0 ≤ j) (h9 : j < 9) : ∃ d : Nat, d ≤ 8 ∧ atI [V.int 0, V.int 1, V.int 2, V.int 3, V.int 4, V.int 5, V.int 8, V.int 6, V.int 7] j = some (.int (d : Int)) := by
  rcases (by omega : j = 0 ∨ j = 1 ∨ j = 2 ∨ j = 3 ∨ j = 4 ∨ j = 5 ∨ j = 6 ∨ j = 7 ∨ j = 8) with rfl | rfl | rfl | rfl | rfl | rfl | rfl | rfl | rfl
  · exact ⟨0, by decide, rfl⟩
  · exact ⟨1, by decide, rfl⟩
  · exact ⟨2, by decide, rfl⟩
  · exact ⟨3, by decide, rfl⟩
  · exact ⟨4, by decide, rfl⟩
  · exact ⟨5, by decide, rfl⟩
  · exact ⟨8, by decide, rfl⟩
  · exact ⟨6, by decide, rfl⟩
  · exact ⟨7, by decide, rfl⟩
theorem cnt9 {d c : Nat} (h : d ≤ 8) (hc : c = 2 ^ d) : atI [V.int 1, V.int 2, V.int 4, V.int 8, V.int 16, V.int 32, V.int 64, V.int 128, V.int 256] (d : Int) = some (.int (c : Int)) := by
  subst hc
  rcases (by omega : d = 0 ∨ d = 1 ∨ d = 2 ∨ d = 3 ∨ d = 4 ∨ d = 5 ∨ d = 6 ∨ d = 7 ∨ d = 8) with rfl | rfl | rfl | rfl | rfl | rfl | rfl | rfl | rfl <;> rfl
theorem top_lt {d : Nat} {xs : List Nat} (hd : d ≤ 8) (hl : xs.length = 2 ^ d) (h : ∀ x ∈ xs, x < 2 ^ 67) : topN d xs < 2 ^ pl := by
  have m : topN d xs ∈ ups d xs := by rw [ups_one hl]; exact List.mem_singleton.mpr rfl
  exact lt_pow_mono (ups_lt h d _ m) (Nat.le_trans (bits_le hd) (by decide))
def spLaw (K : PySem.W.Frag) : Sp := fun vs H Q _ => ∃ (a : Addr) (ns : List Int), vs = [.ref a] ∧ SqL K H a (ns.map V.int) ∧ ns.length ≤ 63 ∧ ∀ H', Q (.bl true) H'
end Ts
namespace Ts
open PySem L2
def toA (r : RowN) : RowA := (r.1, (r.2.1 : Int), (r.2.2 : Int))
def ofA (r : RowA) : RowN := (r.1, r.2.1.toNat, r.2.2.toNat)
theorem refs_toA (rs : List RowN) : refsOf (rs.map toA) = refsN rs := by unfold refsOf refsN; rw [List.map_map]; rfl
theorem rows_toA {H : Hp} {rs : List RowN} (h : RowsN H rs) : RowsAt H (rs.map toA) := fun r hr => by
  obtain ⟨q, hq, rfl⟩ := List.mem_map.mp hr
  exact h q hq
theorem nd_toA {rs : List RowN} (h : ((bare rs).map (·.1)).Nodup) : ((rs.map toA).map (·.2.1)).Nodup := by
  rw [List.map_map]
  have e : (bare rs).map (·.1) = rs.map (·.2.1) := by unfold bare; rw [List.map_map]; rfl
  rw [e, List.nodup_iff_pairwise_ne, List.pairwise_map] at h
  rw [List.nodup_iff_pairwise_ne, List.pairwise_map]
  refine h.imp fun {a b} z y => z ?_
  have y' : ((a.2.1 : Nat) : Int) = ((b.2.1 : Nat) : Int) := y
  omega
theorem sort_back {qs : List RowA} {rs : List RowN} (h : qs.Perm (rs.map toA)) (hr : Rise qs) : ∃ zs : List RowN, zs.Perm rs ∧ refsOf qs = refsN zs ∧ Rising (bare zs) := by
  refine ⟨qs.map ofA, ?_, ?_, ?_⟩
  · have p := h.map ofA
    rw [List.map_map] at p
    have e : rs.map (ofA ∘ toA) = rs := by
      have : (ofA ∘ toA) = id := by funext r; rfl
      rw [this, List.map_id]
    rw [e] at p
    exact p
  · unfold refsOf refsN
    rw [List.map_map]; rfl
  · unfold Rising bare
    rw [List.map_map, List.pairwise_map]
    refine List.Pairwise.imp_of_mem ?_ hr
    intro a b ha hb z
    obtain ⟨a', _, rfl⟩ := List.mem_map.mp (h.mem_iff.mp ha)
    obtain ⟨b', _, rfl⟩ := List.mem_map.mp (h.mem_iff.mp hb)
    show a'.2.1 < b'.2.1
    have z' : ((a'.2.1 : Nat) : Int) < ((b'.2.1 : Nat) : Int) := z
    omega
theorem RowsN.perm {H : Hp} {rs zs : List RowN} (h : RowsN H rs) (p : zs.Perm rs) : RowsN H zs := fun r hr => h r (p.mem_iff.mp hr)
theorem mem_bare_perm {rs zs : List RowN} (p : zs.Perm rs) (r : Row) : r ∈ bare zs ↔ r ∈ bare rs := (p.map (·.2)).mem_iff
/-- the key of the row before, or -1 -/
def before (rs : List RowN) : Nat → Int
  | 0 => -1
  | i + 1 => match rs[i]? with
    | some r => (r.2.1 : Int)
    | none => -1
end Ts
namespace L2
open PySem PySem.Spec PyProof.Rows
theorem gName_go {i : Nat} {v : V} {σ : St} {H : Hp} {Q : St → Hp → Prop} (h : Q (σ.set i (some v)) H) : gName i v σ H Q := h
theorem comp_listV {fr : List (Option Nat)} {K : PySem.W.Frag} {i : Nat} {g : TG} {tt : TT} {te : TE} {Q : VK} {σ : St} {H1 : Hp} {a : Addr} {xs : List V} (hσ : σ[i]? = some (some (.ref a))) (hx : SqL K H1 a xs) (n : Nat) (hn : n < 1000) (Pv : Nat → List V → St → Hp → Prop)
    (h0 : Pv 0 [] (blockSt fr σ) H1) (hz : ∀ i ys τ H, Pv i ys τ H → ys.length ≤ i)
    (go : ∀ i ys τ H, i < n → Pv i ys τ H → (Itl K a).go i H ∧ ∀ x H', (Itl K a).yld i H x H' → g x τ H' fun τ2 H2 => tt τ2 H2 fun b H3 => if b = true then te τ2 H3 fun v H4 => Pv (i + 1) (ys ++ [v]) τ2 H4 else Pv (i + 1) ys τ2 H3)
    (stop : ∀ ys τ H, Pv n ys τ H → (Itl K a).stop n H ∧ ∀ p, H p = none → Q (.ref p) (upd H p (.lst ys))) : tComp fr (iList K (tVar i)) g tt te σ H1 Q :=
  ⟨_, hσ, a, rfl, ⟨_, hx⟩, comp_on n hn Pv h0 hz go stop⟩
end L2
namespace Ts
open PySem L2
theorem refs_at {rs : List RowN} {k : Nat} {r : RowN} (h : rs[k]? = some r) : (refsN rs)[k]? = some (.ref r.1) := by unfold refsN; rw [List.getElem?_map, h]; rfl
end Ts
namespace Ts
open PySem L2
theorem all_rows {rs qs : List RowN} (hl : rs.length = qs.length) : (List.range rs.length).all (fun j => decide ((rs.getD j (0, 0, 0)).2 = (qs.getD j (0, 0, 0)).2)) = decide (bare rs = bare qs) := by
  have g : ∀ (zs : List RowN) (j : Nat) (h : j < zs.length), zs.getD j (0, 0, 0) = zs[j] := fun zs j h => by rw [List.getD_eq_getElem?_getD, List.getElem?_eq_getElem h]; rfl
  rw [Bool.eq_iff_iff, List.all_eq_true, decide_eq_true_iff]
  constructor
  · intro h
    unfold bare
    apply List.ext_getElem
    · rw [List.length_map, List.length_map, hl]
    · intro i h1 h2
      have hi : i < rs.length := by rw [List.length_map] at h1; exact h1
      have e := of_decide_eq_true (h i (List.mem_range.mpr hi))
      rw [g rs i hi, g qs i (by omega)] at e
      rw [List.getElem_map, List.getElem_map]
      exact e
  · intro h j hj
    have hi : j < rs.length := List.mem_range.mp hj
    apply decide_eq_true
    rw [g rs j hi, g qs j (by omega)]
    have e : (bare rs)[j]? = (bare qs)[j]? := by rw [h]
    unfold bare at e
    rw [List.getElem?_map, List.getElem?_map, List.getElem?_eq_getElem hi, List.getElem?_eq_getElem (by omega)] at e
    exact Option.some.inj e
theorem eq_pair {a b c d : Nat} : eqVs [.int (a : Int), .int (b : Int)] [.int (c : Int), .int (d : Int)] = decide ((a, b) = (c, d)) := by
  by_cases h : (a, b) = (c, d)
  · cases h
    rw [eqVs_int2, decide_eq_true rfl]
  · rw [decide_eq_false h]
    simp only [eqVs, eqV, Bool.and_true]
    by_cases h1 : a = c
    · have h2 : ¬ b = d := fun e => h (by rw [h1, e])
      simp
      intro _ e
      exact h2 (by omega)
    · simp
      intro e
      exact absurd (by omega) h1
theorem vals_refsN {rs : List RowN} {us : List Value} (h : Vals (refsN rs) us) : us = rs.map fun r => Value.ref r.1 := by
  rw [← refs_toA] at h
  have e := vals_refs h
  rw [e, List.map_map]
  rfl
theorem op_eqRows {X : Cx} (hu : X.A.units + 1 < cLine) : OpR X (compareOp .Eq) (fun x y H Q => ∃ a b rs qs, x = .ref a ∧ y = .ref b ∧ SqL X.K H a (refsN rs) ∧ SqL X.K H b (refsN qs) ∧ RowsN H rs ∧ RowsN H qs ∧ Q (.bl (decide (bare rs = bare qs))) H) := by
  intro pins s σ H x y v u Q I rx ry h
  obtain ⟨a, b, rs, qs, rfl, rfl, hx, hy, hR, hQ, q⟩ := h
  cases rx
  cases ry
  obtain ⟨its, r1, p1, _⟩ := I.list hx
  obtain ⟨its2, r2, p2, _⟩ := I.list hy
  have e1 := vals_refsN r1
  have e2 := vals_refsN r2
  subst e1 e2
  by_cases hl : rs.length = qs.length
  · refine SeqAt.RcAt.lists (e := fun j => decide ((rs.getD j (0, 0, 0)).2 = (qs.getD j (0, 0, 0)).2)) p1.isList p2.isList (by simp [hl]) (by omega) ?_ _ _ _ _ ?_
    · intro j h1 h2
      have hj1 : j < rs.length := by simpa using h1
      have hj2 : j < qs.length := by simpa using h2
      have g : ∀ (zs : List RowN) (h : j < zs.length), zs.getD j (0, 0, 0) = zs[j] := fun zs h => by rw [List.getD_eq_getElem?_getD, List.getElem?_eq_getElem h]; rfl
      have i1 : ((rs.map fun r => Value.ref r.1).toArray)[j] = Value.ref (rs.getD j (0, 0, 0)).1 := by rw [g rs hj1]; simp
      have i2 : ((qs.map fun r => Value.ref r.1).toArray)[j] = Value.ref (qs.getD j (0, 0, 0)).1 := by rw [g qs hj2]; simp
      rw [i1, i2]
      have t1 := hR _ (by rw [g rs hj1]; exact List.getElem_mem hj1 : rs.getD j (0, 0, 0) ∈ rs)
      have t2 := hQ _ (by rw [g qs hj2]; exact List.getElem_mem hj2 : qs.getD j (0, 0, 0) ∈ qs)
      generalize rs.getD j (0, 0, 0) = r at t1 ⊢
      generalize qs.getD j (0, 0, 0) = z at t2 ⊢
      by_cases hrz : r.1 = z.1
      · rw [hrz, t2] at t1
        have e : z.2 = r.2 := by
          have q1 := congrArg (fun o => match o with | some (HO.tup xs) => xs | _ => []) t1
          have q2 : [V.int (z.2.1 : Int), V.int (z.2.2 : Int)] = [V.int (r.2.1 : Int), V.int (r.2.2 : Int)] := q1
          have q3 : ((z.2.1 : Nat) : Int) = (r.2.1 : Int) := V.int.inj (List.cons.inj q2).1
          have q4 : ((z.2.2 : Nat) : Int) = (r.2.2 : Int) := V.int.inj (List.cons.inj (List.cons.inj q2).2).1
          exact Prod.ext (by omega) (by omega)
        rw [hrz, decide_eq_true e.symm]
        exact SeqAt.EqAt.same _
      · obtain ⟨u1, v1, w1, _⟩ := I.tuple (SqT.of (K := X.K) t1)
        obtain ⟨u2, v2, w2, _⟩ := I.tuple (SqT.of (K := X.K) t2)
        have f1 : ([V.int (r.2.1 : Int), V.int (r.2.2 : Int)]).all flatV = true := rfl
        have f2 : ([V.int (z.2.1 : Int), V.int (z.2.2 : Int)]).all flatV = true := rfl
        have E := SeqAt.EqAt.of_refs hrz (SeqAt.RcAt.tuples (A := X.A.in1) (s := s) (e := fun k => eqV ([V.int (r.2.1 : Int), V.int (r.2.2 : Int)].getD k .non) ([V.int (z.2.1 : Int), V.int (z.2.2 : Int)].getD k .non)) w1 w2 hu (flat_at v1 v2 f1 f2))
        have l1 := v1.length
        have l2 := v2.length
        have ee := eqVs_all (xs := [V.int (r.2.1 : Int), V.int (r.2.2 : Int)]) (ys := [V.int (z.2.1 : Int), V.int (z.2.2 : Int)])
        rw [l1, l2] at ee
        simp only [List.size_toArray] at E
        rw [ee, eq_pair] at E
        exact E
    · refine ⟨.bl _, H, I, ?_, q⟩
      show Value.bool _ = Value.bool (decide (bare rs = bare qs))
      rw [← all_rows hl]
      simp
  · refine SeqAt.RcAt.lists_lengths p1.isList p2.isList ?_ (by omega) _ _ _ _ ?_
    · simpa using hl
    · have e : ¬ bare rs = bare qs := fun z => hl (by
        have := congrArg List.length z
        unfold bare at this
        rw [List.length_map, List.length_map] at this
        exact this)
      rw [decide_eq_false e] at q
      exact ⟨.bl false, H, I, rfl, q⟩
end Ts
namespace Ts
open PySem L2
/-! spans: the greatest parts outside -/
abbrev Prt := Nat × Nat
def preP : Nat → Nat → List Prt
  | 0, _ => []
  | i + 1, f => (if f / 2 ^ i % 2 = 1 then [(i, f / 2 ^ i - 1)] else []) ++ preP i f
def sufP : Nat → Nat → List Prt
  | 0, _ => []
  | i + 1, l => sufP i l ++ (if l / 2 ^ i % 2 = 0 then [(i, l / 2 ^ i + 1)] else [])
def partsP (d f l : Nat) : List Prt := preP d f ++ sufP d l
def numAt (xs : List Nat) (p : Prt) : Nat := (ups p.1 xs).getD p.2 0
theorem mem_preP : ∀ {d f : Nat} {p : Prt}, p ∈ preP d f ↔ ∃ i, i < d ∧ f / 2 ^ i % 2 = 1 ∧ p = (i, f / 2 ^ i - 1)
  | 0, f, p => ⟨fun h => (nomatch h), fun ⟨i, h, _⟩ => absurd h (Nat.not_lt_zero i)⟩
  | d + 1, f, p => by
    have ih := mem_preP (d := d) (f := f) (p := p)
    unfold preP
    rw [List.mem_append, ih]
    constructor
    · rintro (h | ⟨i, h1, h2⟩)
      · split at h
        · rename_i hb
          exact ⟨d, Nat.lt_succ_self _, hb, List.mem_singleton.mp h⟩
        · cases h
      · exact ⟨i, Nat.lt_succ_of_lt h1, h2⟩
    · rintro ⟨i, h1, h2, h3⟩
      by_cases e : i = d
      · subst e
        rw [if_pos h2, h3]
        exact .inl List.mem_cons_self
      · exact .inr ⟨i, by omega, h2, h3⟩
theorem mem_sufP : ∀ {d l : Nat} {p : Prt}, p ∈ sufP d l ↔ ∃ i, i < d ∧ l / 2 ^ i % 2 = 0 ∧ p = (i, l / 2 ^ i + 1)
  | 0, l, p => ⟨fun h => (nomatch h), fun ⟨i, h, _⟩ => absurd h (Nat.not_lt_zero i)⟩
  | d + 1, l, p => by
    have ih := mem_sufP (d := d) (l := l) (p := p)
    unfold sufP
    rw [List.mem_append, ih]
    constructor
    · rintro (⟨i, h1, h2⟩ | h)
      · exact ⟨i, Nat.lt_succ_of_lt h1, h2⟩
      · split at h
        · rename_i hb
          exact ⟨d, Nat.lt_succ_self _, hb, List.mem_singleton.mp h⟩
        · cases h
    · rintro ⟨i, h1, h2, h3⟩
      by_cases e : i = d
      · subst e
        rw [if_pos h2, h3]
        exact .inr List.mem_cons_self
      · exact .inl ⟨i, by omega, h2, h3⟩
theorem len_preP : ∀ (d f : Nat), (preP d f).length ≤ d
  | 0, _ => Nat.le_refl _
  | d + 1, f => by
    have := len_preP d f
    unfold preP
    rw [List.length_append]
    split <;> simp only [List.length_singleton, List.length_nil] <;> omega
theorem len_sufP : ∀ (d l : Nat), (sufP d l).length ≤ d
  | 0, _ => Nat.le_refl _
  | d + 1, l => by
    have := len_sufP d l
    unfold sufP
    rw [List.length_append]
    split <;> simp only [List.length_singleton, List.length_nil] <;> omega
theorem nd_preP : ∀ (d f : Nat), (preP d f).Nodup
  | 0, _ => List.nodup_nil
  | d + 1, f => by
    unfold preP
    rw [List.nodup_append]
    refine ⟨by split <;> simp, nd_preP d f, fun x hx y hy e => ?_⟩
    split at hx
    · obtain ⟨i, h1, _, h3⟩ := mem_preP.mp hy
      have := List.mem_singleton.mp hx
      rw [this, h3] at e
      have := (Prod.mk.inj e).1
      omega
    · cases hx
theorem nd_sufP : ∀ (d l : Nat), (sufP d l).Nodup
  | 0, _ => List.nodup_nil
  | d + 1, l => by
    unfold sufP
    rw [List.nodup_append]
    refine ⟨nd_sufP d l, by split <;> simp, fun x hx y hy e => ?_⟩
    split at hy
    · obtain ⟨i, h1, _, h3⟩ := mem_sufP.mp hx
      have := List.mem_singleton.mp hy
      rw [this, h3] at e
      have := (Prod.mk.inj e).1
      omega
    · cases hy
theorem nd_parts {d f l : Nat} (h : f ≤ l) : (partsP d f l).Nodup := by
  unfold partsP
  rw [List.nodup_append]
  refine ⟨nd_preP d f, nd_sufP d l, fun x hx y hy e => ?_⟩
  obtain ⟨i, _, b1, h3⟩ := mem_preP.mp hx
  obtain ⟨j, _, b2, h4⟩ := mem_sufP.mp hy
  rw [h3, h4] at e
  obtain ⟨e1, e2⟩ := Prod.mk.inj e
  subst e1
  have : f / 2 ^ i ≤ l / 2 ^ i := Nat.div_le_div_right h
  omega
theorem part_lv {d f l : Nat} {p : Prt} (h : p ∈ partsP d f l) : p.1 < d := by
  rcases List.mem_append.mp h with z | z
  · obtain ⟨i, h1, _, h3⟩ := mem_preP.mp z
    rw [h3]; exact h1
  · obtain ⟨i, h1, _, h3⟩ := mem_sufP.mp z
    rw [h3]; exact h1
theorem even_up {m k : Nat} (h : m < 2 ^ (k + 1)) (e : m % 2 = 0) : m + 1 < 2 ^ (k + 1) := by
  rw [Nat.pow_succ] at h ⊢
  omega
theorem part_in {d f l : Nat} {p : Prt} (hf : f < 2 ^ d) (hl : l < 2 ^ d) (h : p ∈ partsP d f l) : p.2 < 2 ^ (d - p.1) := by
  have dv : ∀ {x i : Nat}, x < 2 ^ d → i < d → x / 2 ^ i < 2 ^ (d - i - 1 + 1) := fun hx hi => by
    rw [show ∀ a b : Nat, b < a → a - b - 1 + 1 = a - b from fun a b h => by omega]
    · rw [Nat.div_lt_iff_lt_mul (Nat.two_pow_pos _), ← Nat.pow_add, Nat.sub_add_cancel (Nat.le_of_lt hi)]
      exact hx
    · exact hi
  rcases List.mem_append.mp h with z | z
  · obtain ⟨i, h1, h2, h3⟩ := mem_preP.mp z
    have := dv hf h1
    rw [h3]
    show f / 2 ^ i - 1 < 2 ^ (d - i)
    rw [show d - i - 1 + 1 = d - i by omega] at this
    exact Nat.lt_of_le_of_lt (Nat.sub_le _ _) this
  · obtain ⟨i, h1, h2, h3⟩ := mem_sufP.mp z
    have := even_up (dv hl h1) h2
    rw [h3]
    show l / 2 ^ i + 1 < 2 ^ (d - i)
    rw [show d - i - 1 + 1 = d - i by omega] at this
    exact this
/-! by the greatest part that fits, from the left on -/
def Blk (p stop lv : Nat) : Prop := p % 2 ^ lv = 0 ∧ p + 2 ^ lv ≤ stop ∧ ¬ (p % 2 ^ (lv + 1) = 0 ∧ p + 2 ^ (lv + 1) ≤ stop)
inductive Grd (stop : Nat) : Nat → List Prt → Prop
  | done {p} : stop ≤ p → Grd stop p []
  | step {p lv r} : p < stop → Blk p stop lv → Grd stop (p + 2 ^ lv) r → Grd stop p ((lv, p / 2 ^ lv) :: r)
theorem pow_div_of {p a b : Nat} (h : a ≤ b) (e : p % 2 ^ b = 0) : p % 2 ^ a = 0 := by
  have : 2 ^ a ∣ 2 ^ b := Nat.pow_dvd_pow 2 h
  exact Nat.mod_eq_zero_of_dvd (Nat.dvd_trans this (Nat.dvd_of_mod_eq_zero e))
theorem Blk.le {p stop a b : Nat} (h1 : Blk p stop a) (h2 : p % 2 ^ b = 0 ∧ p + 2 ^ b ≤ stop) : b ≤ a := by
  refine Nat.le_of_not_lt fun z => h1.2.2 ⟨pow_div_of z h2.1, ?_⟩
  have : 2 ^ (a + 1) ≤ 2 ^ b := Nat.pow_le_pow_right (by decide) z
  omega
theorem pre_div (f i : Nat) : f / 2 ^ (i + 1) * 2 ^ (i + 1) + f / 2 ^ i % 2 * 2 ^ i = f / 2 ^ i * 2 ^ i := by
  have h1 : f / 2 ^ (i + 1) = f / 2 ^ i / 2 := by rw [Nat.div_div_eq_div_mul, Nat.pow_succ]
  generalize f / 2 ^ i = m at h1 ⊢
  rw [h1, Nat.pow_succ]
  have : m = 2 * (m / 2) + m % 2 := by omega
  generalize 2 ^ i = q at *
  have e : m * q = (2 * (m / 2) + m % 2) * q := by rw [← this]
  rw [e, Nat.add_mul, Nat.mul_comm 2 (m / 2), Nat.mul_assoc, Nat.mul_comm 2 q]
theorem grd_pre (f : Nat) : ∀ i, Grd f (f / 2 ^ i * 2 ^ i) (preP i f)
  | 0 => by
    rw [Nat.pow_zero, Nat.div_one, Nat.mul_one]
    exact .done (Nat.le_refl _)
  | i + 1 => by
    have ih := grd_pre f i
    have e := pre_div f i
    have hq : 0 < 2 ^ i := Nat.two_pow_pos i
    have hle : f / 2 ^ i * 2 ^ i ≤ f := Nat.div_mul_le_self f _
    unfold preP
    by_cases hb : f / 2 ^ i % 2 = 1
    · rw [if_pos hb]
      rw [hb, Nat.one_mul] at e
      have hp : (f / 2 ^ (i + 1) * 2 ^ (i + 1)) / 2 ^ i = f / 2 ^ i - 1 := by
        have h2 : f / 2 ^ (i + 1) = f / 2 ^ i / 2 := by rw [Nat.div_div_eq_div_mul, Nat.pow_succ]
        rw [h2, Nat.pow_succ, ← Nat.mul_assoc, Nat.mul_right_comm, Nat.mul_div_cancel _ hq]
        omega
      rw [← hp]
      refine .step (by omega) ⟨?_, by omega, fun z => ?_⟩ (by rw [e]; exact ih)
      · exact pow_div_of (Nat.le_succ i) (Nat.mul_mod_left _ _)
      · have h3 : f < (f / 2 ^ (i + 1) + 1) * 2 ^ (i + 1) := by
          have := Nat.div_add_mod f (2 ^ (i + 1))
          have h4 := Nat.mod_lt f (Nat.two_pow_pos (i + 1))
          rw [Nat.add_mul, Nat.one_mul, Nat.mul_comm]
          omega
        have h5 := z.2
        rw [Nat.add_mul, Nat.one_mul] at h3
        omega
    · rw [if_neg hb]
      have h0 : f / 2 ^ i % 2 = 0 := by omega
      rw [h0, Nat.zero_mul, Nat.add_zero] at e
      rw [e]
      exact ih
def sufFrom : Nat → Nat → Nat → List Prt
  | 0, _, _ => []
  | n + 1, i, l => (if l / 2 ^ i % 2 = 0 then [(i, l / 2 ^ i + 1)] else []) ++ sufFrom n (i + 1) l
theorem suf_snoc : ∀ (n i l : Nat), sufFrom (n + 1) i l = sufFrom n i l ++ (if l / 2 ^ (i + n) % 2 = 0 then [(i + n, l / 2 ^ (i + n) + 1)] else [])
  | 0, i, l => by
    show _ ++ [] = [] ++ _
    rw [List.append_nil, List.nil_append]
    rfl
  | n + 1, i, l => by
    have ih := suf_snoc n (i + 1) l
    show _ ++ sufFrom (n + 1) (i + 1) l = (_ ++ sufFrom n (i + 1) l) ++ _
    rw [ih, List.append_assoc, show i + 1 + n = i + (n + 1) by omega]
theorem suf_eq (l : Nat) : ∀ d, sufP d l = sufFrom d 0 l
  | 0 => rfl
  | d + 1 => by
    rw [suf_snoc, ← suf_eq l d, Nat.zero_add]
    rfl
theorem grd_suf {d l : Nat} (hl : l < 2 ^ d) : ∀ n i, n + i = d → Grd (2 ^ d) ((l / 2 ^ i + 1) * 2 ^ i) (sufFrom n i l)
  | 0, i, h => by
    have e : i = d := by omega
    subst e
    rw [Nat.div_eq_of_lt hl]
    exact .done (by omega)
  | n + 1, i, h => by
    have ih := grd_suf hl n (i + 1) (by omega)
    have h2 : l / 2 ^ (i + 1) = l / 2 ^ i / 2 := by rw [Nat.div_div_eq_div_mul, Nat.pow_succ]
    rw [h2] at ih
    have hq : 0 < 2 ^ i := Nat.two_pow_pos i
    have hm : l / 2 ^ i < 2 ^ (n + 1) := by
      rw [Nat.div_lt_iff_lt_mul hq, ← Nat.pow_add, show n + 1 + i = d by omega]
      exact hl
    have hd : 2 ^ d = 2 ^ (n + 1) * 2 ^ i := by rw [← Nat.pow_add, show n + 1 + i = d by omega]
    show Grd (2 ^ d) _ ((if l / 2 ^ i % 2 = 0 then [(i, l / 2 ^ i + 1)] else []) ++ sufFrom n (i + 1) l)
    generalize l / 2 ^ i = m at ih hm ⊢
    by_cases hb : m % 2 = 0
    · rw [if_pos hb]
      have h1 := even_up hm hb
      have hlt : (m + 1) * 2 ^ i + 2 ^ i ≤ 2 ^ d := by
        rw [hd, ← Nat.succ_mul]
        exact Nat.mul_le_mul_right _ h1
      have e2 : (m + 1) * 2 ^ i + 2 ^ i = (m / 2 + 1) * 2 ^ (i + 1) := by
        rw [← Nat.succ_mul, Nat.pow_succ, Nat.mul_comm (2 ^ i) 2, ← Nat.mul_assoc]
        congr 1
        omega
      have st : Grd (2 ^ d) ((m + 1) * 2 ^ i) ((i, ((m + 1) * 2 ^ i) / 2 ^ i) :: sufFrom n (i + 1) l) := by
        refine .step (by omega) ⟨Nat.mul_mod_left _ _, hlt, fun z => ?_⟩ (by rw [e2]; exact ih)
        have h3 := z.1
        rw [Nat.pow_succ, Nat.mul_comm (2 ^ i) 2, Nat.mul_mod_mul_right] at h3
        have h4 : (m + 1) % 2 = 1 := by omega
        rw [h4] at h3
        omega
      rw [Nat.mul_div_cancel _ hq] at st
      exact st
    · rw [if_neg hb]
      have e2 : (m + 1) * 2 ^ i = (m / 2 + 1) * 2 ^ (i + 1) := by
        rw [Nat.pow_succ, Nat.mul_comm (2 ^ i) 2, ← Nat.mul_assoc]
        congr 1
        omega
      rw [e2]
      exact ih
theorem grd_before {d f : Nat} (h : f < 2 ^ d) : Grd f 0 (preP d f) := by
  have := grd_pre f d
  rw [Nat.div_eq_of_lt h, Nat.zero_mul] at this
  exact this
theorem grd_behind {d l : Nat} (h : l < 2 ^ d) : Grd (2 ^ d) (l + 1) (sufP d l) := by
  have := grd_suf h d 0 (by omega)
  rw [Nat.pow_zero, Nat.div_one, Nat.mul_one] at this
  rw [suf_eq]
  exact this
end Ts
namespace Ts
open PySem L2
/-! up from a span -/
def sl (xs : List Nat) (f l : Nat) : List Nat := (xs.drop f).take (l + 1 - f)
def ext (out : Prt → Nat) (i lo hi : Nat) (ws : List Nat) : List Nat := (if lo % 2 = 1 then [out (i, lo - 1)] else []) ++ ws ++ (if hi % 2 = 0 then [out (i, hi + 1)] else [])
def upW (out : Prt → Nat) (f l : Nat) (ws : List Nat) : Nat → List Nat
  | 0 => ws
  | i + 1 => up (ext out i (f / 2 ^ i) (l / 2 ^ i) (upW out f l ws i))
def GoodAt (out : Prt → Nat) (xs : List Nat) (f l i : Nat) : Prop := (f / 2 ^ i % 2 = 1 → out (i, f / 2 ^ i - 1) = (ups i xs).getD (f / 2 ^ i - 1) 0) ∧ (l / 2 ^ i % 2 = 0 → out (i, l / 2 ^ i + 1) = (ups i xs).getD (l / 2 ^ i + 1) 0)
theorem div_shift (x i : Nat) : x / 2 / 2 ^ i = x / 2 ^ (i + 1) := by rw [Nat.div_div_eq_div_mul, Nat.pow_succ, Nat.mul_comm]
theorem upW_shift (out : Prt → Nat) (f l : Nat) (ws : List Nat) : ∀ i, upW out f l ws (i + 1) = upW (fun p => out (p.1 + 1, p.2)) (f / 2) (l / 2) (up (ext out 0 f l ws)) i
  | 0 => by
    show up (ext out 0 (f / 2 ^ 0) (l / 2 ^ 0) ws) = _
    rw [Nat.pow_zero, Nat.div_one, Nat.div_one]
    rfl
  | i + 1 => by
    have ih := upW_shift out f l ws i
    show up (ext out (i + 1) (f / 2 ^ (i + 1)) (l / 2 ^ (i + 1)) (upW out f l ws (i + 1))) = up (ext _ i (f / 2 / 2 ^ i) (l / 2 / 2 ^ i) _)
    rw [ih, div_shift, div_shift]
    rfl
theorem len_sl {xs : List Nat} {f l : Nat} (h : l < xs.length) (hf : f ≤ l) : (sl xs f l).length = l + 1 - f := by
  unfold sl
  rw [List.length_take, List.length_drop]
  omega
theorem sl_get {xs : List Nat} {f l j : Nat} (h : j < l + 1 - f) : (sl xs f l)[j]? = xs[f + j]? := by
  unfold sl
  rw [List.getElem?_take, if_pos h, List.getElem?_drop]
theorem len_ext {out : Prt → Nat} {i lo hi : Nat} {ws : List Nat} (h : ws.length = hi + 1 - lo) (hl : lo ≤ hi) : (ext out i lo hi ws).length = 2 * (hi / 2 + 1 - lo / 2) := by
  unfold ext
  rw [List.length_append, List.length_append, h]
  split <;> split <;> simp only [List.length_singleton, List.length_nil] <;> omega
/-- the true ones beside: the slice that is taken two by two -/
theorem ext_sl {out : Prt → Nat} {i lo hi : Nat} {xs : List Nat} (hl : lo ≤ hi) (hx : 2 * (hi / 2) + 1 < xs.length) (h1 : lo % 2 = 1 → out (i, lo - 1) = xs.getD (lo - 1) 0) (h2 : hi % 2 = 0 → out (i, hi + 1) = xs.getD (hi + 1) 0) :
    ext out i lo hi (sl xs lo hi) = sl xs (2 * (lo / 2)) (2 * (hi / 2) + 1) := by
  have g : ∀ j, j < xs.length → xs[j]? = some (xs.getD j 0) := fun j hj => by
    rw [List.getD_eq_getElem?_getD, List.getElem?_eq_getElem hj]; rfl
  have hh : hi < xs.length := by omega
  apply List.ext_getElem?
  intro j
  by_cases hj : j < 2 * (hi / 2) + 1 + 1 - 2 * (lo / 2)
  · rw [sl_get hj]
    unfold ext
    have ls := len_sl hh hl
    by_cases a : lo % 2 = 1
    · rw [if_pos a, h1 a]
      cases j with
      | zero =>
        rw [List.append_assoc]
        show some (xs.getD (lo - 1) 0) = _
        rw [show 2 * (lo / 2) + 0 = lo - 1 by omega, g (lo - 1) (by omega)]
      | succ j =>
        rw [List.append_assoc]
        show (sl xs lo hi ++ _)[j]? = _
        rw [show 2 * (lo / 2) + (j + 1) = lo + j by omega]
        by_cases b : j < hi + 1 - lo
        · rw [List.getElem?_append_left (by omega), sl_get b]
        · have hb : hi % 2 = 0 := by omega
          have ej : j = hi + 1 - lo := by omega
          rw [List.getElem?_append_right (by omega), if_pos hb, h2 hb, ls, ej, Nat.sub_self]
          show some (xs.getD (hi + 1) 0) = _
          rw [show lo + (hi + 1 - lo) = hi + 1 by omega, g (hi + 1) (by omega)]
    · rw [if_neg a, List.nil_append, show 2 * (lo / 2) + j = lo + j by omega]
      by_cases b : j < hi + 1 - lo
      · rw [List.getElem?_append_left (by omega), sl_get b]
      · have hb : hi % 2 = 0 := by omega
        have ej : j = hi + 1 - lo := by omega
        rw [List.getElem?_append_right (by omega), if_pos hb, h2 hb, ls, ej, Nat.sub_self]
        show some (xs.getD (hi + 1) 0) = _
        rw [show lo + (hi + 1 - lo) = hi + 1 by omega, g (hi + 1) (by omega)]
  · rw [List.getElem?_eq_none (by rw [len_ext (len_sl hh hl) hl]; omega), List.getElem?_eq_none (by rw [len_sl hx (by omega)]; omega)]
theorem up_sl {xs : List Nat} {a b : Nat} (h : 2 * b + 1 < xs.length) (hab : a ≤ b) : up (sl xs (2 * a) (2 * b + 1)) = sl (up xs) a b := by
  have l1 := len_sl (xs := xs) (f := 2 * a) (l := 2 * b + 1) h (by omega)
  have l2 : (up xs).length = xs.length / 2 := len_up xs
  have l3 := len_sl (xs := up xs) (f := a) (l := b) (by omega) hab
  have l4 : (up (sl xs (2 * a) (2 * b + 1))).length = (2 * b + 1 + 1 - 2 * a) / 2 := by rw [len_up, l1]
  apply List.ext_getElem?
  intro j
  by_cases hj : j < b + 1 - a
  · rw [sl_get hj, up_get _ j (by omega), up_get _ (a + j) (by omega)]
    have g : ∀ k, k < 2 * b + 1 + 1 - 2 * a → (sl xs (2 * a) (2 * b + 1)).getD k 0 = xs.getD (2 * a + k) 0 := fun k hk => by
      rw [List.getD_eq_getElem?_getD, List.getD_eq_getElem?_getD, sl_get hk]
    rw [g (2 * j) (by omega), g (2 * j + 1) (by omega), show 2 * (a + j) = 2 * a + 2 * j by omega, Nat.add_assoc]
  · rw [List.getElem?_eq_none (by omega), List.getElem?_eq_none (by omega)]
theorem up_inj {xs ys : List Nat} (h1 : xs.length % 2 = 0) (h2 : ys.length % 2 = 0) (h : up xs = up ys) : xs = ys := by
  rw [← down_up xs h1, ← down_up ys h2, h]
/-- the same slice: both ends and what lies between -/
theorem ext_inj {out : Prt → Nat} {i lo hi : Nat} {xs ws : List Nat} (hl : lo ≤ hi) (hx : 2 * (hi / 2) + 1 < xs.length) (hw : ws.length = hi + 1 - lo) (h : ext out i lo hi ws = sl xs (2 * (lo / 2)) (2 * (hi / 2) + 1)) :
    ws = sl xs lo hi ∧ (lo % 2 = 1 → out (i, lo - 1) = xs.getD (lo - 1) 0) ∧ (hi % 2 = 0 → out (i, hi + 1) = xs.getD (hi + 1) 0) := by
  have t := ext_sl (out := fun p => xs.getD p.2 0) (i := i) hl hx (fun _ => rfl) (fun _ => rfl)
  rw [← t] at h
  unfold ext at h
  have ls := len_sl (xs := xs) (f := lo) (l := hi) (by omega) hl
  have pre : (if lo % 2 = 1 then [out (i, lo - 1)] else []).length = (if lo % 2 = 1 then [xs.getD (lo - 1) 0] else []).length := by split <;> rfl
  rw [List.append_assoc, List.append_assoc] at h
  obtain ⟨e1, e2⟩ := List.append_inj h pre
  obtain ⟨e3, e4⟩ := List.append_inj e2 (by rw [hw, ls])
  refine ⟨e3, fun a => ?_, fun a => ?_⟩
  · rw [if_pos a, if_pos a] at e1
    exact (List.cons.inj e1).1
  · rw [if_pos a, if_pos a] at e4
    exact (List.cons.inj e4).1
theorem span_iff : ∀ (d f l : Nat) (out : Prt → Nat) (xs ws : List Nat), xs.length = 2 ^ d → f ≤ l → l < 2 ^ d → ws.length = l + 1 - f →
    (upW out f l ws d = [topN d xs] ↔ (ws = sl xs f l ∧ ∀ i, i < d → GoodAt out xs f l i))
  | 0, f, l, out, xs, ws, hx, hfl, hl, hw => by
    have e1 : l = 0 := by simpa using hl
    have e2 : f = 0 := by omega
    subst e1 e2
    match xs, hx with
    | [x], _ =>
      show ws = [x] ↔ _
      exact ⟨fun h => ⟨h, fun i hi => absurd hi (Nat.not_lt_zero i)⟩, fun h => h.1⟩
  | d + 1, f, l, out, xs, ws, hx, hfl, hl, hw => by
    have hh : 2 * (l / 2) + 1 < xs.length := by
      rw [hx, Nat.pow_succ] at *
      omega
    have hu : (up xs).length = 2 ^ d := by rw [len_up, hx, Nat.pow_succ]; omega
    have he := len_ext (out := out) (i := 0) (lo := f) (hi := l) hw hfl
    have ih := span_iff d (f / 2) (l / 2) (fun p => out (p.1 + 1, p.2)) (up xs) (up (ext out 0 f l ws)) hu (by omega) (by rw [Nat.pow_succ] at hl; omega) (by rw [len_up, he]; omega)
    rw [upW_shift]
    show _ = [topN d (up xs)] ↔ _
    rw [ih]
    have sh : ∀ i, GoodAt (fun p => out (p.1 + 1, p.2)) (up xs) (f / 2) (l / 2) i ↔ GoodAt out xs f l (i + 1) := fun i => by
      unfold GoodAt
      rw [div_shift, div_shift]
      exact Iff.rfl
    have g0 : GoodAt out xs f l 0 ↔ ((f % 2 = 1 → out (0, f - 1) = xs.getD (f - 1) 0) ∧ (l % 2 = 0 → out (0, l + 1) = xs.getD (l + 1) 0)) := by
      unfold GoodAt
      rw [Nat.pow_zero, Nat.div_one, Nat.div_one]
      exact Iff.rfl
    constructor
    · rintro ⟨h1, h2⟩
      rw [← up_sl hh (by omega)] at h1
      have h3 := up_inj (by rw [he]; omega) (by rw [len_sl hh (by omega)]; omega) h1
      obtain ⟨a1, a2, a3⟩ := ext_inj hfl hh hw h3
      refine ⟨a1, fun i hi => ?_⟩
      cases i with
      | zero => exact g0.mpr ⟨a2, a3⟩
      | succ i => exact (sh i).mp (h2 i (by omega))
    · rintro ⟨h1, h2⟩
      obtain ⟨a2, a3⟩ := g0.mp (h2 0 (by omega))
      refine ⟨?_, fun i hi => (sh i).mpr (h2 (i + 1) (by omega))⟩
      rw [h1, ext_sl hfl hh a2 a3, up_sl hh (by omega)]
theorem len_upW {out : Prt → Nat} {f l : Nat} {ws : List Nat} (hfl : f ≤ l) (hw : ws.length = l + 1 - f) : ∀ i, (upW out f l ws i).length = l / 2 ^ i + 1 - f / 2 ^ i
  | 0 => by
    rw [Nat.pow_zero, Nat.div_one, Nat.div_one]
    exact hw
  | i + 1 => by
    have ih := len_upW (out := out) hfl hw i
    have hle : f / 2 ^ i ≤ l / 2 ^ i := Nat.div_le_div_right hfl
    show (up (ext out i _ _ _)).length = _
    have dv : ∀ x, x / 2 ^ (i + 1) = x / 2 ^ i / 2 := fun x => by rw [Nat.div_div_eq_div_mul, Nat.pow_succ]
    rw [len_up, len_ext ih hle, dv, dv]
    generalize f / 2 ^ i / 2 = a
    generalize l / 2 ^ i / 2 = b
    omega
theorem le_pair' (a b : Nat) : a ≤ pairN a b ∧ b ≤ pairN a b := by
  have h := two_tri (a + b)
  have : 2 * (a + b) ≤ (a + b) * (a + b + 1) := by
    cases hs : a + b with
    | zero => exact Nat.le_refl _
    | succ t =>
      have := Nat.mul_le_mul_left (t + 1) (show 2 ≤ t + 1 + 1 by omega)
      omega
  unfold pairN
  omega
theorem up_ge : ∀ {ys : List Nat} {x : Nat}, ys.length % 2 = 0 → x ∈ ys → ∃ y ∈ up ys, x ≤ y
  | [], x, _, h => by cases h
  | [_], x, h, _ => by simp at h
  | a :: b :: r, x, h, m => by
    rcases List.mem_cons.mp m with e | m
    · exact ⟨_, List.mem_cons_self, by rw [e]; exact (le_pair' a b).1⟩
    · rcases List.mem_cons.mp m with e | m
      · exact ⟨_, List.mem_cons_self, by rw [e]; exact (le_pair' a b).2⟩
      · obtain ⟨y, h1, h2⟩ := up_ge (ys := r) (by simp only [List.length_cons] at h; omega) m
        exact ⟨y, List.mem_cons_of_mem _ h1, h2⟩
/-- what stands on the way is never above the end -/
theorem upW_ge {out : Prt → Nat} {f l : Nat} {ws : List Nat} (hfl : f ≤ l) (hw : ws.length = l + 1 - f) {i x : Nat} (hx : x ∈ ext out i (f / 2 ^ i) (l / 2 ^ i) (upW out f l ws i)) : ∀ j, i < j → ∃ y ∈ upW out f l ws j, x ≤ y := by
  intro j hj
  induction hj with
  | refl =>
    refine up_ge ?_ hx
    rw [len_ext (len_upW hfl hw i) (Nat.div_le_div_right hfl)]
    omega
  | @step j hj ih =>
    obtain ⟨y, h1, h2⟩ := ih
    have : y ∈ ext out j (f / 2 ^ j) (l / 2 ^ j) (upW out f l ws j) := by
      unfold ext
      exact List.mem_append.mpr (.inl (List.mem_append.mpr (.inr h1)))
    obtain ⟨z, h3, h4⟩ := up_ge (by rw [len_ext (len_upW hfl hw j) (Nat.div_le_div_right hfl)]; omega) this
    exact ⟨z, h3, Nat.le_trans h2 h4⟩
/-- out tells the numbers of the parts one after the other -/
theorem good_iff {d f l : Nat} {out : Prt → Nat} {xs bs : List Nat} (hfl : f ≤ l) (hb : bs.length = (partsP d f l).length) (ho : ∀ (j : Nat) (p : Prt) (b : Nat), (partsP d f l)[j]? = some p → bs[j]? = some b → out p = b) :
    (∀ i, i < d → GoodAt out xs f l i) ↔ bs = (partsP d f l).map (numAt xs) := by
  have al : (∀ i, i < d → GoodAt out xs f l i) ↔ ∀ p ∈ partsP d f l, out p = numAt xs p := by
    constructor
    · intro h p hp
      rcases List.mem_append.mp hp with z | z
      · obtain ⟨i, h1, h2, h3⟩ := mem_preP.mp z
        rw [h3]
        exact (h i h1).1 h2
      · obtain ⟨i, h1, h2, h3⟩ := mem_sufP.mp z
        rw [h3]
        exact (h i h1).2 h2
    · intro h i hi
      exact ⟨fun a => h (i, f / 2 ^ i - 1) (List.mem_append.mpr (.inl (mem_preP.mpr ⟨i, hi, a, rfl⟩))), fun a => h (i, l / 2 ^ i + 1) (List.mem_append.mpr (.inr (mem_sufP.mpr ⟨i, hi, a, rfl⟩)))⟩
  rw [al]
  constructor
  · intro h
    apply List.ext_getElem?
    intro j
    rw [List.getElem?_map]
    by_cases hj : j < bs.length
    · have e1 : bs[j]? = some bs[j] := List.getElem?_eq_getElem hj
      have e2 : (partsP d f l)[j]? = some ((partsP d f l)[j]'(by omega)) := List.getElem?_eq_getElem (by omega)
      have := ho j _ _ e2 e1
      rw [h _ (List.getElem_mem _)] at this
      rw [e1, e2, ← this]
      rfl
    · rw [List.getElem?_eq_none (by omega), List.getElem?_eq_none (by omega)]
      rfl
  · intro h p hp
    obtain ⟨j, hj⟩ := List.getElem?_of_mem hp
    have e : bs[j]? = some (numAt xs p) := by rw [h, List.getElem?_map, hj]; rfl
    exact ho j p _ hj e
end Ts
namespace Ts
open PySem L2
theorem dec_iff {i j : Int} : (decide (V.int i = V.int j) = true) ↔ i = j := by
  rw [decide_eq_true_iff]
  exact ⟨fun h => V.int.inj h, fun h => by rw [h]⟩
theorem false_iff' {p : Prop} (h : ¬ p) : (false = true) ↔ p := ⟨fun z => (nomatch z), fun z => absurd z h⟩
theorem div_half (k i : Nat) : k / 2 ^ i / 2 = k / 2 ^ (i + 1) := by rw [Nat.div_div_eq_div_mul, Nat.pow_succ]
def spCNums (K : PySem.W.Frag) : Sp := fun vs H Q _ => ∃ (l : Addr) (xs : List Nat), vs = [.ref l] ∧ SqL K H l (vn xs) ∧ Q .non H
section
variable {P : Program} {w : World} {K : PySem.W.Frag} {mg : Str → Option Value} {base : Heap} {f : Addr} {fd : FuncData}
theorem scCNums : FnScope ["numbers", "number"] ["numbers"] (defScope sCNums) := ⟨rfl, rfl, rfl, by decide +kernel, rfl, by decide +kernel, by decide +kernel⟩
theorem vn_at {xs : List Nat} {i : Nat} {x : V} (h : (vn xs)[i]? = some x) : ∃ n, xs[i]? = some n ∧ x = .int (n : Int) := by
  unfold vn at h
  rw [List.getElem?_map] at h
  cases e : xs[i]? with
  | none => rw [e] at h; cases h
  | some n => rw [e] at h; cases h; exact ⟨n, rfl, rfl⟩
theorem ok_cnums (F : Fun K "check_numbers" "check_numbers" sCNums f fd) : FnOk P w K mg base CX0 1 f fd ["numbers"] (spCNums K) := by
  refine F.ok scCNums (fun vs H Q E h => ?_) (fun cdv A outer s H vs Q E hr h => ?_)
  · obtain ⟨l, xs, rfl, _⟩ := h
    rfl
  obtain ⟨l, xs, rfl, hl, q⟩ := h
  refine ⟨_, pss_one (ps_for PassesOwn.never rfl (pi_list (pv 0)) (pg_name (i := 1) scCNums.nd rfl (Or.inl rfl))
    (pss_one (ps_if (pt_cmpR op_lt (pv 1) pe_int (nomark _)) pss_never pss_nil))), ?_⟩
  refine ⟨_, rfl, l, rfl, ⟨_, hl⟩, ?_⟩
  refine for_list (xs := vn xs) (fun i σ H' => H' = H ∧ ∃ t1 : Option V, σ = [some (.ref l), t1]) ⟨rfl, _, rfl⟩ ?_ ?_ ?_
  · rintro i σ H' _ ⟨rfl, _⟩
    exact hl
  · rintro i x σ H' hx ⟨rfl, t1, rfl⟩
    obtain ⟨n, _, rfl⟩ := vn_at hx
    exact ⟨_, rfl, _, _, rfl, rfl, _, rfl, iteN (by omega) ⟨rfl, _, rfl⟩⟩
  · rintro σ H' ⟨rfl, _⟩
    exact q
end
end Ts
namespace Ts
open PySem L2
def spCSpan : Sp := fun vs H Q _ => ∃ d f l : Nat, vs = [.int (d : Int), .int (f : Int), .int (l : Int)] ∧ d ≤ 8 ∧ f ≤ l ∧ l < 2 ^ d ∧ Q .non H
def spWithin (K : PySem.W.Frag) : Sp := fun vs H Q _ => ∃ (f l : Nat) (a : Addr) (rs : List RowN), vs = [.ref a, .int (f : Int), .int (l : Int)] ∧ SqL K H a (refsN rs) ∧ RowsN H rs ∧ ∀ b : Bool, (b = true ↔ ∀ r ∈ bare rs, f ≤ r.1 ∧ r.1 ≤ l) → Q (.bl b) H
def spLevOf (K : PySem.W.Frag) : Sp := fun vs H Q _ => ∃ (d : Nat) (a : Addr) (rs : List RowN), vs = [.int (d : Int), .ref a] ∧ d ≤ 8 ∧ SqL K H a (refsN rs) ∧ RowsN H rs ∧ RowsOk (2 ^ d) (bare rs) ∧ (∀ r ∈ bare rs, r.2 + 1 < 2 ^ 67) ∧
  ∀ (p : Addr) (as : List Addr) (H' : Hp), Same H H' → H p = none → H' p = some (.lst (as.map V.ref)) → (∀ j, j < d → ∃ b, as[j]? = some b ∧ H' b = some (.lst (vn (ups j (leaves (2 ^ d) (bare rs)))))) → Q (.ref p) H'
def spOutside (K : PySem.W.Frag) : Sp := fun vs H Q _ => ∃ d f l : Nat, vs = [.int (d : Int), .int (f : Int), .int (l : Int)] ∧ d ≤ 8 ∧ f < 2 ^ d ∧ l < 2 ^ d ∧
  ∀ p ps H', Same H H' → H p = none → H' p = some (.lst (refsN ps)) → RowsN H' ps → bare ps = partsP d f l → Q (.ref p) H'
theorem refs_app (rs qs : List RowN) : refsN rs ++ refsN qs = refsN (rs ++ qs) := by unfold refsN; rw [List.map_append]
theorem bare_app (rs qs : List RowN) : bare (rs ++ qs) = bare rs ++ bare qs := by unfold bare; rw [List.map_append]
theorem len_bare' (rs : List RowN) : (bare rs).length = rs.length := by unfold bare; rw [List.length_map]
section
variable {P : Program} {w : World} {K : PySem.W.Frag} {mg : Str → Option Value} {base : Heap} {f : Addr} {fd : FuncData}
theorem scCSpan : FnScope ["depth", "first", "last"] ["depth", "first", "last"] (defScope sCSpan) := ⟨rfl, rfl, rfl, by decide +kernel, rfl, by decide +kernel, by decide +kernel⟩
theorem ok_cspan (F : Fun K "check_span" "check_span" sCSpan f fd) (C : Has P w K mg base "check_key" 2 ["depth", "key"] spCKey) : FnOk P w K mg base CX0 3 f fd ["depth", "first", "last"] spCSpan := by
  refine F.ok scCSpan (fun vs H Q E h => ?_) (fun cdv A outer s H vs Q E hr h => ?_)
  · obtain ⟨d, f, l, rfl, _⟩ := h
    rfl
  obtain ⟨d, f, l, rfl, hd, hfl, hl, q⟩ := h
  refine ⟨_, pss_cons (ps_expr (pe_has C hr (pa_cons (pv 0) (pa_cons (pv 1) pa_nil))))
    (pss_cons (ps_expr (pe_has C hr (pa_cons (pv 0) (pa_cons (pv 2) pa_nil))))
    (pss_one (ps_if (pt_cmpR op_lt (pv 2) (pv 1) (nomark _)) pss_never pss_nil))), ?_⟩
  refine ⟨_, rfl, _, rfl, d, f, rfl, hd, Nat.lt_of_le_of_lt hfl hl, ?_⟩
  refine ⟨_, rfl, _, rfl, d, l, rfl, hd, hl, ?_⟩
  exact ⟨_, rfl, _, rfl, _, _, rfl, rfl, _, rfl, iteN (by omega) q⟩
theorem scWithin : FnScope ["rows", "first", "last", "row"] ["rows", "first", "last"] (defScope sWithin) := ⟨rfl, rfl, rfl, by decide +kernel, rfl, by decide +kernel, by decide +kernel⟩
theorem ok_within (F : Fun K "all_within" "all_within" sWithin f fd) : FnOk P w K mg base CX0 1 f fd ["rows", "first", "last"] (spWithin K) := by
  refine F.ok scWithin (fun vs H Q E h => ?_) (fun cdv A outer s H vs Q E hr h => ?_)
  · obtain ⟨f, l, a, rs, rfl, _⟩ := h
    rfl
  obtain ⟨f, l, a, rs, rfl, ha, hR, q⟩ := h
  refine ⟨_, pss_cons (ps_for PassesOwn.never rfl (pi_list (pv 0)) (pg_name (i := 3) scWithin.nd rfl (Or.inl rfl))
      (pss_one (ps_if (PW.pt (pw_or (pt_cmpR op_lt (pe_ix ix_tup (pv 3) pe_int (fun _ _ => rfl)) (pv 1) (nomark _)) (pw_or1 (pt_cmpR op_gt (pe_ix ix_tup (pv 3) pe_int (fun _ _ => rfl)) (pv 2) (nomark _))))) (pss_one (ps_ret pe_bl)) pss_nil)))
    (pss_one (ps_ret pe_bl)), ?_⟩
  refine ⟨_, rfl, a, rfl, ⟨_, ha⟩, ?_⟩
  refine for_list (xs := refsN rs) (fun i σ H' => H' = H ∧ (∀ r ∈ rs.take i, f ≤ r.2.1 ∧ r.2.1 ≤ l) ∧ ∃ t3 : Option V, σ = [some (.ref a), some (.int (f : Int)), some (.int (l : Int)), t3]) ⟨rfl, fun r hr => (nomatch hr), _, rfl⟩ ?_ ?_ ?_
  · rintro i σ H' _ ⟨rfl, _⟩
    exact ha
  · rintro i x σ H' hx ⟨rfl, hin, t3, rfl⟩
    obtain ⟨r, hr', rfl, hmem⟩ := refs_get hx
    have no : ¬ (f ≤ r.2.1 ∧ r.2.1 ≤ l) → Q (.bl false) H' := fun z => q false (false_iff' fun y => z (y r.2 (List.mem_map.mpr ⟨r, hmem, rfl⟩)))
    refine ⟨_, rfl, r.1, _, _, _, rfl, rfl, SqT.of (hR r hmem), atI_nat (j := 0) rfl, _, rfl, _, _, rfl, rfl, _, rfl, ite3 (fun c => ?_) (fun c => ?_)⟩
    · exact iteT (no (by omega))
    refine ⟨_, rfl, r.1, _, _, _, rfl, rfl, SqT.of (hR r hmem), atI_nat (j := 0) rfl, _, rfl, _, _, rfl, rfl, _, rfl, ite3 (fun c2 => ?_) (fun c2 => ?_)⟩
    · exact no (by omega)
    refine ⟨rfl, fun x hx => ?_, _, rfl⟩
    rw [take_one hr'] at hx
    rcases List.mem_append.mp hx with z | z
    · exact hin x z
    · rw [List.mem_singleton.mp z]
      omega
  · rintro σ H' ⟨rfl, hin, t3, rfl⟩
    rw [len_refs, List.take_length] at hin
    refine q true ⟨fun _ r hr => ?_, fun _ => rfl⟩
    obtain ⟨z, hz, e⟩ := List.mem_map.mp hr
    rw [← e]
    exact hin z hz
theorem scLevOf : FnScope ["depth", "rows", "levels"] ["depth", "rows"] (defScope sLevelsOf) := ⟨rfl, rfl, rfl, by decide +kernel, rfl, by decide +kernel, by decide +kernel⟩
theorem ok_levof (F : Fun K "levels_of" "levels_of" sLevelsOf f fd) (mL : mg "len" = none) (L : Has P w K mg base "place_numbers" 2 ["depth", "rows"] (spPlace K)) (U : Has P w K mg base "paired" 3 ["numbers"] (spPaired K)) : FnOk P w K mg base CX0 4 f fd ["depth", "rows"] (spLevOf K) := by
  refine F.ok scLevOf (fun vs H Q E h => ?_) (fun cdv A outer s H vs Q E hr h => ?_)
  · obtain ⟨d, a, rs, rfl, _⟩ := h
    rfl
  obtain ⟨d, a, rs, rfl, hd, ha, hR, ok, h67, q⟩ := h
  have hr2 : Room 2 _ := hr.mono (by decide)
  refine ⟨_, pss_cons (ps_set (i := 2) scLevOf.nd rfl (Or.inl rfl) (pe_lst (pa_cons (pe_has L hr2 (pa_cons (pv 0) (pa_cons (pv 1) pa_nil))) pa_nil)))
    (pss_cons (ps_while PassesOwn.never (pt_cmpR op_lt (pe_callB call_len_seq rfl mL PySem.boot_len (pa_cons (pv 2) pa_nil)) (pv 0) (nomark _))
      (pss_one (ps_expr (pe_bm PySem.F.plainAttrs_list PySem.F.slot_list_append PySem.F.type_list_append mt_append (pv 2) (pa_cons (pe_has U hr (pa_cons (pe_ix ix_list (pv 2) (pe_un un_neg pe_int) (fun _ _ => rfl)) pa_nil)) pa_nil)))))
    (pss_one (ps_ret (pv 2)))), ?_⟩
  refine ⟨_, rfl, _, rfl, d, a, rs, rfl, hd, ha, hR, ok, fun b0 H1 hS1 hb0 hb1 => ?_⟩
  have hLl : (leaves (2 ^ d) (bare rs)).length = 2 ^ d := len_leaves _ _
  have hLb := leaves_lt (c := 2 ^ d) (show 0 < 2 ^ 67 by decide) h67
  generalize leaves (2 ^ d) (bare rs) = ls at hLl hLb hb1 q
  refine ⟨by show 1 ≤ sizeLine; decide, fun p hp1 => ?_⟩
  have hp : H p = none := hS1.free hp1
  have hbp : b0 ≠ p := ne_of_none hb1 hp1
  have S1 := Same.upd (o := .lst [.ref b0]) hp1
  refine while_on (fun m σ H' => ∃ (as : List Addr), m = d - as.length ∧ σ = [some (.int (d : Int)), some (.ref a), some (.ref p)] ∧ Same H H' ∧ H' p = some (.lst (as.map V.ref)) ∧ 0 < as.length ∧ as.length ≤ d + 1 ∧ (∀ x ∈ as, x ≠ p) ∧ ∀ j, j < as.length → ∃ b, as[j]? = some b ∧ H' b = some (.lst (vn (ups j ls)))) (d - 1)
    ⟨[b0], rfl, rfl, hS1.trans S1, upd_same, Nat.one_pos, by show 1 ≤ d + 1; omega, fun x hx => by rw [List.mem_singleton.mp hx]; exact hbp, fun j hj => by
      have ej : j = 0 := by
        have : j < 1 := hj
        omega
      subst ej
      exact ⟨b0, rfl, S1 _ _ hb1⟩⟩ ?_
  rintro m σ H' ⟨as, rfl, rfl, hS, hp', h0, hle, hne, hA⟩
  refine ⟨_, rfl, p, _, rfl, .inl (SqL.of hp'), _, rfl, _, _, rfl, rfl, _, rfl, ite3 (fun c => ?_) (fun c => ?_)⟩
  · rw [List.length_map] at c
    have hlt : as.length < d := by omega
    obtain ⟨n, hn⟩ : ∃ n, as.length = n + 1 := ⟨as.length - 1, by omega⟩
    obtain ⟨b, hb, hbl⟩ := hA n (by omega)
    have hlast : atI (as.map V.ref) (-1) = some (.ref b) := by
      rcases List.eq_nil_or_concat as with e | ⟨ys, y, e⟩
      · rw [e] at h0; cases h0
      · rw [List.concat_eq_append] at e
        subst e
        have hy : ys.length = n := by rw [List.length_append] at hn; exact Nat.succ.inj hn
        rw [List.getElem?_append_right (by omega), hy, Nat.sub_self] at hb
        have e2 : y = b := by simpa using hb
        rw [List.map_append, e2]
        exact atI_last _ _
    have hlen : (ups n ls).length = 2 ^ (d - n) := by rw [len_ups, hLl, Nat.pow_div (by omega) (by decide)]
    have h256 : 2 ^ (d - n) ≤ 2 ^ 8 := Nat.pow_le_pow_right (by decide) (by omega)
    refine ⟨_, fun _ _ z => z, _, rfl, .inl ⟨rfl, _, SqL.of hp'⟩, _, rfl, _, rfl, p, _, _, _, rfl, rfl, SqL.of hp', hlast, b, _, rfl, SqL.of hbl, by rw [hlen]; exact h256, by rw [hlen, show d - n = d - n - 1 + 1 by omega, Nat.pow_succ]; omega, fun x hx => lt_pow_mono (ups_lt hLb _ x hx) (Nat.le_trans (bits_le (by omega)) (by decide)), fun c2 H2 hS2 hc2 hc3 => ?_⟩
    have hp2 := hS2 _ _ hp'
    refine ⟨p, _, _, rfl, rfl, hp2, by rw [List.length_map]; exact small1000 (by omega), d - (as ++ [c2]).length, by rw [List.length_append]; show d - (as.length + 1) < d - as.length; omega, as ++ [c2], rfl, rfl, (hS.trans hS2).new hp, by rw [upd_same, List.map_append]; rfl, by rw [List.length_append]; omega, by rw [List.length_append]; show as.length + 1 ≤ d + 1; omega, fun x hx => ?_, fun j hj => ?_⟩
    · rcases List.mem_append.mp hx with z | z
      · exact hne x z
      · rw [List.mem_singleton.mp z]; exact Ne.symm (ne_of_none hp' hc2)
    · rw [List.length_append] at hj
      have hj' : j < as.length + 1 := hj
      by_cases hjl : j < as.length
      · obtain ⟨x, x1, x2⟩ := hA j hjl
        refine ⟨x, by rw [List.getElem?_append_left hjl]; exact x1, ?_⟩
        rw [upd_ne (hne x (List.mem_of_getElem? x1))]
        exact hS2 _ _ x2
      · have ej : j = n + 1 := by omega
        refine ⟨c2, by rw [List.getElem?_append_right (by omega), show j - as.length = 0 by omega]; rfl, ?_⟩
        rw [upd_ne (Ne.symm (ne_of_none hp' hc2)), hc3, ej, ups_succ]
  · rw [List.length_map] at c
    exact ⟨_, rfl, q p as H' hS hp hp' fun j hj => hA j (by omega)⟩
theorem scOutside : FnScope ["depth", "first", "last", "before", "behind", "low", "high", "level"] ["depth", "first", "last"] (defScope sOutside) := ⟨rfl, rfl, rfl, by decide +kernel, rfl, by decide +kernel, by decide +kernel⟩
/-- the loop's own rows -/
def bodyOf : Stmt → List Stmt
  | .For _ _ b _ _ => b
  | .While _ b _ _ => b
  | _ => []
theorem ok_outside (F : Fun K "parts_outside" "parts_outside" sOutside f fd) (mR : mg "range" = none) : FnOk P w K mg base CX0 1 f fd ["depth", "first", "last"] (spOutside K) := by
  refine F.ok scOutside (fun vs H Q E h => ?_) (fun cdv A outer s H vs Q E hr h => ?_)
  · obtain ⟨d, fi, l, rfl, _⟩ := h
    rfl
  obtain ⟨d, fi, l, rfl, hd, hf, hl, q⟩ := h
  have two2 : (2 : Nat) ≤ sizeLine := by decide
  -- from the second test on
  obtain ⟨t1, p1, r1⟩ : ∃ t, PSs (cxOf CX0 P w K mg base ["depth", "first", "last", "before", "behind", "low", "high", "level"] "parts_outside" (defScope sOutside) f cdv A outer s H E).nox ((bodyOf ((defBody sOutside).getD 4 (.Pass ⟨0, 0, 0, 0⟩))).drop 1) t ∧
      ∀ (D : Ends) (i : Nat) (bf bh : Addr) (cs : List RowN) (H1 : Hp), H1 bh = some (.lst (refsN cs)) → cs.length ≤ 100 →
        (∀ cs' H2, (l / 2 ^ i % 2 = 1 → H2 = H1 ∧ cs' = cs) → (l / 2 ^ i % 2 = 0 → ∃ t, H1 t = none ∧ cs' = cs ++ [(t, i, l / 2 ^ i + 1)] ∧ H2 = upd (upd H1 t (.tup [.int (i : Int), .int ((l / 2 ^ i + 1 : Nat) : Int)])) bh (.lst (refsN cs'))) → D.nx [some (.int (d : Int)), some (.int (fi : Int)), some (.int (l : Int)), some (.ref bf), some (.ref bh), some (.int ((fi / 2 ^ (i + 1) : Nat) : Int)), some (.int ((l / 2 ^ (i + 1) : Nat) : Int)), some (.int (i : Int))] H2) →
        t D [some (.int (d : Int)), some (.int (fi : Int)), some (.int (l : Int)), some (.ref bf), some (.ref bh), some (.int ((fi / 2 ^ i : Nat) : Int)), some (.int ((l / 2 ^ i : Nat) : Int)), some (.int (i : Int))] H1 := by
    refine ⟨_, pss_cons (ps_if (pt_cmpR op_eq (pe_op n_mod (pv 6) pe_int) pe_int (nomark _))
        (pss_one (ps_expr (pe_bm PySem.F.plainAttrs_list PySem.F.slot_list_append PySem.F.type_list_append mt_append (pv 4) (pa_cons (pe_tup (pa_cons (pv 7) (pa_cons (pe_op n_add (pv 6) pe_int) pa_nil))) pa_nil)))) pss_nil)
      (pss_cons (ps_set (i := 5) scOutside.nd rfl (Or.inl rfl) (pe_op n_div (pv 5) pe_int))
      (pss_one (ps_set (i := 6) scOutside.nd rfl (Or.inl rfl) (pe_op n_div (pv 6) pe_int)))), ?_⟩
    intro D i bf bh cs H1 hbh hc go
    refine ⟨_, rfl, l / 2 ^ i, 2, l / 2 ^ i % 2, rfl, rfl, Nat.zero_lt_two, rfl, rfl, _, rfl, ite3 (fun e => ?_) (fun e => ?_)⟩
    · have e0 : l / 2 ^ i % 2 = 0 := by
        have z : ((l / 2 ^ i % 2 : Nat) : Int) = 0 := V.int.inj e
        omega
      refine ⟨_, rfl, .inl ⟨rfl, _, SqL.of hbh⟩, _, rfl, _, rfl, l / 2 ^ i, 1, l / 2 ^ i + 1, rfl, rfl, trivial, rfl, two2, fun t ht => ?_⟩
      refine ⟨bh, _, _, rfl, rfl, (Same.upd ht) _ _ hbh, by rw [len_refs]; exact small1000 (by omega), ?_⟩
      refine ⟨_, rfl, fi / 2 ^ i, 2, fi / 2 ^ (i + 1), rfl, rfl, ⟨by decide, two_dl⟩, (div_half fi i).symm, ?_⟩
      refine ⟨_, rfl, l / 2 ^ i, 2, l / 2 ^ (i + 1), rfl, rfl, ⟨by decide, two_dl⟩, (div_half l i).symm, ?_⟩
      refine go (cs ++ [(t, i, l / 2 ^ i + 1)]) _ (fun z => by omega) (fun _ => ⟨t, ht, rfl, ?_⟩)
      rw [← refs_app]
      rfl
    · have e0 : ¬ l / 2 ^ i % 2 = 0 := fun z => e (by rw [z]; rfl)
      refine ⟨_, rfl, fi / 2 ^ i, 2, fi / 2 ^ (i + 1), rfl, rfl, ⟨by decide, two_dl⟩, (div_half fi i).symm, ?_⟩
      refine ⟨_, rfl, l / 2 ^ i, 2, l / 2 ^ (i + 1), rfl, rfl, ⟨by decide, two_dl⟩, (div_half l i).symm, ?_⟩
      exact go cs H1 (fun _ => ⟨rfl, rfl⟩) (fun z => absurd z e0)
  refine ⟨_, pss_cons (ps_set (i := 3) scOutside.nd rfl (Or.inl rfl) (pe_lst pa_nil))
    (pss_cons (ps_set (i := 4) scOutside.nd rfl (Or.inl rfl) (pe_lst pa_nil))
    (pss_cons (ps_set (i := 5) scOutside.nd rfl (Or.inl rfl) (pv 1))
    (pss_cons (ps_set (i := 6) scOutside.nd rfl (Or.inl rfl) (pv 2))
    (pss_cons (ps_for PassesOwn.never rfl (pi_range1 rfl mR (pa_cons (pv 0) pa_nil)) (pg_name (i := 7) scOutside.nd rfl (Or.inl rfl))
      (pss_cons (ps_if (pt_cmpR op_eq (pe_op n_mod (pv 5) pe_int) pe_int (nomark _))
        (pss_one (ps_expr (pe_bm PySem.F.plainAttrs_list PySem.F.slot_list_insert PySem.F.type_list_insert mt_ins0 (pv 3) (pa_cons pe_int (pa_cons (pe_tup (pa_cons (pv 7) (pa_cons (pe_op n_sub (pv 5) pe_int) pa_nil))) pa_nil))))) pss_nil) p1))
    (pss_one (ps_ret (pe_op op_cat (pv 3) (pv 4)))))))), ?_⟩
  refine ⟨by show 0 ≤ sizeLine; decide, fun bf hbf => ?_⟩
  refine ⟨by show 0 ≤ sizeLine; decide, fun bh hbh => ?_⟩
  have hbh0 : H bh = none := (Same.upd hbf).free hbh
  have hne : bf ≠ bh := ne_of_none (H := upd H bf (.lst [])) upd_same hbh
  have hS0 : Same H (upd (upd H bf (.lst [])) bh (.lst [])) := (Same.upd hbf).new hbh0
  refine ⟨_, rfl, ?_⟩
  refine ⟨_, rfl, ?_⟩
  refine ⟨_, rfl, _, rfl, by omega, by omega, ?_⟩
  rw [Int.toNat_natCast]
  refine for_range (n := d) (fun i σ H' => ∃ (t7 : Option V) (bs cs : List RowN), σ = [some (.int (d : Int)), some (.int (fi : Int)), some (.int (l : Int)), some (.ref bf), some (.ref bh), some (.int ((fi / 2 ^ i : Nat) : Int)), some (.int ((l / 2 ^ i : Nat) : Int)), t7] ∧
    Same H H' ∧ H' bf = some (.lst (refsN bs)) ∧ H' bh = some (.lst (refsN cs)) ∧ RowsN H' bs ∧ RowsN H' cs ∧ bare bs = preP i fi ∧ bare cs = sufP i l)
    ⟨_, [], [], by rw [Nat.pow_zero, Nat.div_one, Nat.div_one]; rfl, hS0, by rw [upd_ne hne, upd_same]; rfl, upd_same, fun r hr => (nomatch hr), fun r hr => (nomatch hr), rfl, rfl⟩ ?_ ?_
  · rintro i σ H' hi ⟨t7, bs, cs, rfl, hS, h1, h2, R1, R2, B1, B2⟩
    rw [show (0 : Int) + (i : Int) = ((i : Nat) : Int) by omega]
    have lb : bs.length ≤ d := by
      have := len_preP i fi
      rw [← B1, len_bare'] at this
      omega
    have lc : cs.length ≤ d := by
      have := len_sufP i l
      rw [← B2, len_bare'] at this
      omega
    -- the rest of the turn
    have rest : ∀ (bs' : List RowN) (H1 : Hp), Same H H1 → H1 bf = some (.lst (refsN bs')) → H1 bh = some (.lst (refsN cs)) → RowsN H1 bs' → RowsN H1 cs → bare bs' = preP (i + 1) fi → ∀ cs' H2, (l / 2 ^ i % 2 = 1 → H2 = H1 ∧ cs' = cs) → (l / 2 ^ i % 2 = 0 → ∃ t, H1 t = none ∧ cs' = cs ++ [(t, i, l / 2 ^ i + 1)] ∧ H2 = upd (upd H1 t (.tup [.int (i : Int), .int ((l / 2 ^ i + 1 : Nat) : Int)])) bh (.lst (refsN cs'))) →
        Same H H2 ∧ H2 bf = some (.lst (refsN bs')) ∧ H2 bh = some (.lst (refsN cs')) ∧ RowsN H2 bs' ∧ RowsN H2 cs' ∧ bare bs' = preP (i + 1) fi ∧ bare cs' = sufP (i + 1) l := by
      intro bs' H1 a1 a2 a3 a4 a5 a6 cs' H2 b1 b2
      have es : sufP (i + 1) l = sufP i l ++ (if l / 2 ^ i % 2 = 0 then [(i, l / 2 ^ i + 1)] else []) := rfl
      rcases (by omega : l / 2 ^ i % 2 = 0 ∨ l / 2 ^ i % 2 = 1) with e | e
      · obtain ⟨t, ht, rfl, rfl⟩ := b2 e
        have St := Same.upd (o := .tup [.int (i : Int), .int ((l / 2 ^ i + 1 : Nat) : Int)]) ht
        have g3 := St _ _ a3
        refine ⟨(a1.trans St).new hbh0, by rw [upd_ne hne]; exact St _ _ a2, upd_same, (a4.same St).lst g3, ?_, a6, ?_⟩
        · refine RowsN.lst (fun x hx => ?_) g3
          rcases List.mem_append.mp hx with z | z
          · exact St _ _ (a5 x z)
          · rw [List.mem_singleton.mp z]; exact upd_same
        · rw [es, if_pos e, bare_app, B2]; rfl
      · obtain ⟨rfl, rfl⟩ := b1 e
        exact ⟨a1, a2, a3, a4, a5, a6, by rw [es, if_neg (by omega), List.append_nil]; exact B2⟩
    have ep : preP (i + 1) fi = (if fi / 2 ^ i % 2 = 1 then [(i, fi / 2 ^ i - 1)] else []) ++ preP i fi := rfl
    refine ⟨_, rfl, fi / 2 ^ i, 2, fi / 2 ^ i % 2, rfl, rfl, Nat.zero_lt_two, rfl, rfl, _, rfl, ite3 (fun e => ?_) (fun e => ?_)⟩
    · have e1 : fi / 2 ^ i % 2 = 1 := by
        have z : ((fi / 2 ^ i % 2 : Nat) : Int) = 1 := V.int.inj e
        omega
      have hpos : 1 ≤ fi / 2 ^ i := Nat.pos_of_ne_zero fun z => by rw [z] at e1; cases e1
      refine ⟨_, rfl, .inl ⟨rfl, _, SqL.of h1⟩, _, rfl, _, rfl, fi / 2 ^ i, 1, fi / 2 ^ i - 1, rfl, rfl, hpos, rfl, two2, fun t ht => ?_⟩
      have St := Same.upd (o := .tup [.int (i : Int), .int ((fi / 2 ^ i - 1 : Nat) : Int)]) ht
      have g1 := St _ _ h1
      refine ⟨bf, _, _, rfl, rfl, g1, by rw [len_refs]; exact small1000 (by omega), ?_⟩
      have eR : refsN ((t, i, fi / 2 ^ i - 1) :: bs) = V.ref t :: refsN bs := rfl
      have k1 : Same H (upd (upd H' t (.tup [.int (i : Int), .int ((fi / 2 ^ i - 1 : Nat) : Int)])) bf (.lst (V.ref t :: refsN bs))) := (hS.trans St).new hbf
      have k2 : (upd (upd H' t (.tup [.int (i : Int), .int ((fi / 2 ^ i - 1 : Nat) : Int)])) bf (.lst (V.ref t :: refsN bs))) bf = some (.lst (refsN ((t, i, fi / 2 ^ i - 1) :: bs))) := upd_same
      have k3 : (upd (upd H' t (.tup [.int (i : Int), .int ((fi / 2 ^ i - 1 : Nat) : Int)])) bf (.lst (V.ref t :: refsN bs))) bh = some (.lst (refsN cs)) := by rw [upd_ne (Ne.symm hne)]; exact St _ _ h2
      have k4 : RowsN (upd (upd H' t (.tup [.int (i : Int), .int ((fi / 2 ^ i - 1 : Nat) : Int)])) bf (.lst (V.ref t :: refsN bs))) ((t, i, fi / 2 ^ i - 1) :: bs) := RowsN.lst (fun x hx => by
        rcases List.mem_cons.mp hx with z | z
        · rw [z]; exact upd_same
        · exact St _ _ (R1 x z)) g1
      have k5 : RowsN (upd (upd H' t (.tup [.int (i : Int), .int ((fi / 2 ^ i - 1 : Nat) : Int)])) bf (.lst (V.ref t :: refsN bs))) cs := (R2.same St).lst g1
      generalize upd (upd H' t (.tup [.int (i : Int), .int ((fi / 2 ^ i - 1 : Nat) : Int)])) bf (.lst (V.ref t :: refsN bs)) = H1 at k1 k2 k3 k4 k5 ⊢
      have k6 : bare ((t, i, fi / 2 ^ i - 1) :: bs) = preP (i + 1) fi := by
        rw [ep, if_pos e1, ← B1]; rfl
      exact r1 _ i bf bh cs H1 k3 (by omega) fun cs' H2 b1 b2 => ⟨_, _, cs', rfl, rest _ H1 k1 k2 k3 k4 k5 k6 cs' H2 b1 b2⟩
    · have e1 : ¬ fi / 2 ^ i % 2 = 1 := fun z => e (by rw [z]; rfl)
      have k6 : bare bs = preP (i + 1) fi := by rw [ep, if_neg e1]; exact B1
      exact r1 _ i bf bh cs H' h2 (by omega) fun cs' H2 b1 b2 => ⟨_, bs, cs', rfl, rest bs H' hS h1 h2 R1 R2 k6 cs' H2 b1 b2⟩
  · rintro σ H' ⟨t7, bs, cs, rfl, hS, h1, h2, R1, R2, B1, B2⟩
    have lb : bs.length ≤ d := by
      have := len_preP d fi
      rw [← B1, len_bare'] at this
      exact this
    have lc : cs.length ≤ d := by
      have := len_sufP d l
      rw [← B2, len_bare'] at this
      exact this
    refine ⟨_, rfl, _, rfl, bf, bh, _, _, rfl, rfl, h1, h2, by rw [len_refs, len_refs]; exact Nat.le_of_lt (small1000 (by omega)), fun p hp => ?_⟩
    rw [refs_app]
    have Sp := Same.upd (o := .lst (refsN (bs ++ cs))) hp
    refine q p (bs ++ cs) _ (hS.trans Sp) (hS.free hp) upd_same (fun x hx => ?_) (by rw [bare_app, B1, B2]; rfl)
    rcases List.mem_append.mp hx with z | z
    · exact Sp _ _ (R1 x z)
    · exact Sp _ _ (R2 x z)
end
end Ts
namespace Ts
open PySem L2
def keyP (p : Prt) : List Key := [Sum.inl (p.1 : Int), Sum.inl (p.2 : Int)]
theorem keyP_inj {p q : Prt} (h : keyP p = keyP q) : p = q := by
  obtain ⟨h1, h2⟩ := List.cons.inj h
  have h3 := (List.cons.inj h2).1
  have a1 : (p.1 : Int) = (q.1 : Int) := Sum.inl.inj h1
  have a2 : (p.2 : Int) = (q.2 : Int) := Sum.inl.inj h3
  exact Prod.ext (by omega) (by omega)
theorem val_zip : ∀ {ps : List Prt} {bs : List Nat}, ps.Nodup → ∀ (j : Nat) (p : Prt) (b : Nat), ps[j]? = some p → bs[j]? = some b → valV ((ps.map keyP).zip (vn bs)) (keyP p) = some (.int (b : Int))
  | [], _, _, j, p, b, h, _ => by simp at h
  | _ :: _, [], _, j, p, b, _, h => by simp at h
  | x :: ps, y :: bs, nd, 0, p, b, h1, h2 => by
    have e1 : x = p := by simpa using h1
    have e2 : y = b := by simpa using h2
    subst e1 e2
    exact valV_pos rfl
  | x :: ps, y :: bs, nd, j + 1, p, b, h1, h2 => by
    obtain ⟨n1, n2⟩ := List.nodup_cons.mp nd
    have g1 : ps[j]? = some p := by simpa using h1
    have g2 : bs[j]? = some b := by simpa using h2
    have ne : ¬ keyP x = keyP p := fun z => n1 (by rw [keyP_inj z]; exact List.mem_of_getElem? g1)
    show valV ((keyP x, V.int (y : Int)) :: (ps.map keyP).zip (vn bs)) (keyP p) = _
    rw [valV_neg ne]
    exact val_zip n2 j p b g1 g2
/-- what a dict of parts tells -/
def outV (kvs : List (List Key × V)) (p : Prt) : Nat := match valV kvs (keyP p) with
  | some (.int n) => n.toNat
  | _ => 0
theorem outV_of {kvs : List (List Key × V)} {p : Prt} {b : Nat} (h : valV kvs (keyP p) = some (.int (b : Int))) : outV kvs p = b := by
  unfold outV
  rw [h]
  exact Int.toNat_natCast b
def spLeads6 (K : PySem.W.Frag) : Sp := fun vs H Q _ => ∃ (d : Nat) (t : Int) (fi l : Nat) (wa oa : Addr) (ws : List Nat) (kvs : List (List Key × V)) (out : Prt → Nat), vs = [.int (d : Int), .int t, .int (fi : Int), .int (l : Int), .ref wa, .ref oa] ∧ d ≤ 8 ∧ fi ≤ l ∧ l < 2 ^ d ∧ H wa = some (.lst (vn ws)) ∧ H oa = some (.dT kvs) ∧
  ws.length = l + 1 - fi ∧ (∀ p ∈ partsP d fi l, valV kvs (keyP p) = some (.int (out p : Int))) ∧ t < ((2 ^ bb : Nat) : Int) ∧ ∀ (b : Bool) (H' : Hp), Same H H' → (b = true ↔ ∃ n : Nat, upW out fi l ws d = [n] ∧ (n : Int) = t) → Q (.bl b) H'
def spSpan (K : PySem.W.Frag) : Sp := fun vs H Q _ => ∃ (d fi l : Nat) (a : Addr) (rs : List RowN), vs = [.int (d : Int), .ref a, .int (fi : Int), .int (l : Int)] ∧ d ≤ 8 ∧ fi ≤ l ∧ l < 2 ^ d ∧ SqL K H a (refsN rs) ∧ RowsN H rs ∧ RowsOk (2 ^ d) (bare rs) ∧ rs.length ≤ 1000 ∧ (∀ r ∈ bare rs, r.2 + 1 < 2 ^ 67) ∧
  ∀ p H', Same H H' → H p = none → H' p = some (.lst (vn ((partsP d fi l).map (numAt (leaves (2 ^ d) (bare rs)))))) → Q (.ref p) H'
theorem vn_ints (ys : List Nat) : vn ys = (ys.map fun n : Nat => (n : Int)).map V.int := by unfold vn; rw [List.map_map]; rfl
section
variable {P : Program} {w : World} {K : PySem.W.Frag} {mg : Str → Option Value} {base : Heap} {f : Addr} {fd : FuncData}
abbrev nLeads6 : List Str := ["depth", "top", "first", "last", "within", "outside", "numbers", "low", "high", "level"]
theorem scLeads6 : FnScope nLeads6 ["depth", "top", "first", "last", "within", "outside"] (defScope sLeads) := ⟨rfl, rfl, rfl, by decide +kernel, rfl, by decide +kernel, by decide +kernel⟩
theorem ok_leads6 (F : Fun K "leads_to" "leads_to" sLeads f fd) (mR : mg "range" = none) (mX : mg "max" = none) (U : Has P w K mg base "paired" 3 ["numbers"] (spPaired K)) : FnOk P w K mg base CX0 4 f fd ["depth", "top", "first", "last", "within", "outside"] (spLeads6 K) := by
  refine F.ok scLeads6 (fun vs H Q E h => ?_) (fun cdv A outer s H vs Q E hr h => ?_)
  · obtain ⟨d, t, fi, l, wa, oa, ws, kvs, out, rfl, _⟩ := h
    rfl
  obtain ⟨d, t, fi, l, wa, oa, ws, kvs, out, rfl, hd, hfl, hl, hw, ho, hwl, hv, ht, q⟩ := h
  have two2 : (2 : Nat) ≤ sizeLine := by decide
  have one1 : (1 : Nat) ≤ sizeLine := by decide
  have hu1 : _ + 1 < cLine := hu_of hr
  have lenW := len_upW (out := out) hfl hwl
  have l256 : l < 256 := Nat.lt_of_lt_of_le hl (Nat.pow_le_pow_right (n := 2) (by decide) hd)
  have hi256 : ∀ i, l / 2 ^ i < 256 := fun i => Nat.lt_of_le_of_lt (Nat.div_le_self _ _) l256
  have lohi : ∀ i, fi / 2 ^ i ≤ l / 2 ^ i := fun i => Nat.div_le_div_right hfl
  have b256 : ∀ a b : Nat, b < 256 → 2 * (b / 2 + 1 - a / 2) ≤ 256 := fun a b h => by omega
  have b300 : ∀ a b : Nat, b < 256 → b + 1 - a ≤ 256 := fun a b h => by omega
  -- from the third row of the turn on
  obtain ⟨t2, p2, r2⟩ : ∃ tt, PSs (cxOf CX0 P w K mg base nLeads6 "leads_to" (defScope sLeads) f cdv A outer s H E).nox ((bodyOf ((defBody sLeads).getD 3 (.Pass ⟨0, 0, 0, 0⟩))).drop 2) tt ∧
      ∀ (D : Ends) (i : Nat) (nm : Addr) (H1 : Hp), i < d → Same H H1 → H1 nm = some (.lst (vn (ext out i (fi / 2 ^ i) (l / 2 ^ i) (upW out fi l ws i)))) → D.rt = Q →
        (∀ nm2 H2, Same H H2 → H2 nm2 = some (.lst (vn (upW out fi l ws (i + 1)))) → D.nx [some (.int (d : Int)), some (.int t), some (.int (fi : Int)), some (.int (l : Int)), some (.ref wa), some (.ref oa), some (.ref nm2), some (.int ((fi / 2 ^ (i + 1) : Nat) : Int)), some (.int ((l / 2 ^ (i + 1) : Nat) : Int)), some (.int (i : Int))] H2) →
        tt D [some (.int (d : Int)), some (.int t), some (.int (fi : Int)), some (.int (l : Int)), some (.ref wa), some (.ref oa), some (.ref nm), some (.int ((fi / 2 ^ i : Nat) : Int)), some (.int ((l / 2 ^ i : Nat) : Int)), some (.int (i : Int))] H1 := by
    refine ⟨_, pss_cons (ps_if (pt_cmpR op_gt (pe_callB (call_maxL rfl) rfl mX PyProof.Rows.boot_max (pa_cons (pv 6) pa_nil)) (pv 1) (nomark _)) (pss_one (ps_ret pe_bl)) pss_nil)
      (pss_cons (ps_set (i := 6) scLeads6.nd rfl (Or.inl rfl) (pe_has U hr (pa_cons (pv 6) pa_nil)))
      (pss_cons (ps_set (i := 7) scLeads6.nd rfl (Or.inl rfl) (pe_op n_div (pv 7) pe_int))
      (pss_one (ps_set (i := 8) scLeads6.nd rfl (Or.inl rfl) (pe_op n_div (pv 8) pe_int))))), ?_⟩
    intro D i nm H1 hi hS hnm hD go
    have le := len_ext (out := out) (i := i) (lenW i) (lohi i)
    have h8 := hi256 i
    have hge : ∀ x ∈ ext out i (fi / 2 ^ i) (l / 2 ^ i) (upW out fi l ws i), ∀ n, upW out fi l ws d = [n] → x ≤ n := fun x hx n hn => by
      obtain ⟨y, y1, y2⟩ := upW_ge hfl hwl hx d hi
      rw [hn] at y1
      rw [List.mem_singleton.mp y1] at y2
      exact y2
    have eup : upW out fi l ws (i + 1) = up (ext out i (fi / 2 ^ i) (l / 2 ^ i) (upW out fi l ws i)) := rfl
    have lh := lohi i
    generalize ext out i (fi / 2 ^ i) (l / 2 ^ i) (upW out fi l ws i) = ys at hnm le hge eup
    have hpos : 0 < ys.length := by rw [le]; omega
    refine ⟨_, rfl, nm, ys.map (fun n : Nat => (n : Int)), rfl, by rw [← vn_ints]; exact SqL.of hnm, by rw [List.length_map]; exact hpos, fun M hM1 hM2 => ?_⟩
    obtain ⟨x, hx, rfl⟩ := List.mem_map.mp hM1
    refine ⟨_, rfl, _, _, rfl, rfl, _, rfl, ite3 (fun c => ?_) (fun c => ?_)⟩
    · show D.rt (.bl false) H1
      rw [hD]
      refine q false H1 hS (false_iff' ?_)
      rintro ⟨n, hn, e⟩
      have := hge x hx n hn
      omega
    · have hb : ∀ y ∈ ys, y < 2 ^ bb := fun y hy => by
        have := hM2 (y : Int) (List.mem_map.mpr ⟨y, hy, rfl⟩)
        have z : (y : Int) < ((2 ^ bb : Nat) : Int) := by omega
        exact Int.ofNat_lt.mp z
      refine ⟨_, rfl, nm, ys, rfl, SqL.of hnm, by rw [le]; exact b256 _ _ h8, by rw [le]; exact Nat.mul_mod_right _ _, hb, fun nm2 H2 hS2 _ hn2 => ?_⟩
      refine ⟨_, rfl, fi / 2 ^ i, 2, fi / 2 ^ (i + 1), rfl, rfl, ⟨by decide, two_dl⟩, (div_half fi i).symm, ?_⟩
      refine ⟨_, rfl, l / 2 ^ i, 2, l / 2 ^ (i + 1), rfl, rfl, ⟨by decide, two_dl⟩, (div_half l i).symm, ?_⟩
      exact go nm2 H2 (hS.trans hS2) (by rw [eup]; exact hn2)
  -- from the second row on
  obtain ⟨t1, p1, r1⟩ : ∃ tt, PSs (cxOf CX0 P w K mg base nLeads6 "leads_to" (defScope sLeads) f cdv A outer s H E).nox ((bodyOf ((defBody sLeads).getD 3 (.Pass ⟨0, 0, 0, 0⟩))).drop 1) tt ∧
      ∀ (D : Ends) (i : Nat) (nm : Addr) (H1 : Hp), i < d → Same H H1 → H1 nm = some (.lst (vn ((if fi / 2 ^ i % 2 = 1 then [out (i, fi / 2 ^ i - 1)] else []) ++ upW out fi l ws i))) → D.rt = Q →
        (∀ nm2 H2, Same H H2 → H2 nm2 = some (.lst (vn (upW out fi l ws (i + 1)))) → D.nx [some (.int (d : Int)), some (.int t), some (.int (fi : Int)), some (.int (l : Int)), some (.ref wa), some (.ref oa), some (.ref nm2), some (.int ((fi / 2 ^ (i + 1) : Nat) : Int)), some (.int ((l / 2 ^ (i + 1) : Nat) : Int)), some (.int (i : Int))] H2) →
        tt D [some (.int (d : Int)), some (.int t), some (.int (fi : Int)), some (.int (l : Int)), some (.ref wa), some (.ref oa), some (.ref nm), some (.int ((fi / 2 ^ i : Nat) : Int)), some (.int ((l / 2 ^ i : Nat) : Int)), some (.int (i : Int))] H1 := by
    refine ⟨_, pss_cons (ps_if (pt_cmpR op_eq (pe_op n_mod (pv 8) pe_int) pe_int (nomark _))
      (pss_one (ps_set (i := 6) scLeads6.nd rfl (Or.inl rfl) (pe_op op_cat (pv 6) (pe_lst (pa_cons (pe_dget hu1 (pv 5) (pe_tup (pa_cons (pv 9) (pa_cons (pe_op n_add (pv 8) pe_int) pa_nil))) (fun _ _ => rfl)) pa_nil))))) pss_nil) p2, ?_⟩
    intro D i nm H1 hi hS hnm hD go
    have hlen : (vn ((if fi / 2 ^ i % 2 = 1 then [out (i, fi / 2 ^ i - 1)] else []) ++ upW out fi l ws i)).length ≤ 300 := by
      rw [len_vn, List.length_append, lenW i]
      have := b300 (fi / 2 ^ i) _ (hi256 i)
      generalize l / 2 ^ i + 1 - fi / 2 ^ i = z at this ⊢
      split <;> simp only [List.length_singleton, List.length_nil] <;> omega
    refine ⟨_, rfl, l / 2 ^ i, 2, l / 2 ^ i % 2, rfl, rfl, Nat.zero_lt_two, rfl, rfl, _, rfl, ite3 (fun e => ?_) (fun e => ?_)⟩
    · have e0 : l / 2 ^ i % 2 = 0 := by
        have z : ((l / 2 ^ i % 2 : Nat) : Int) = 0 := V.int.inj e
        omega
      have hval := hv (i, l / 2 ^ i + 1) (List.mem_append.mpr (.inr (mem_sufP.mpr ⟨i, hi, e0, rfl⟩)))
      refine ⟨_, rfl, _, rfl, _, rfl, _, rfl, l / 2 ^ i, 1, l / 2 ^ i + 1, rfl, rfl, trivial, rfl, two2, fun tp htp => ?_⟩
      have St := Same.upd (o := .tup [.int (i : Int), .int ((l / 2 ^ i + 1 : Nat) : Int)]) htp
      refine ⟨oa, .int (out (i, l / 2 ^ i + 1) : Int), rfl, by rw [← hval]; exact DGet.t (k := keyP (i, l / 2 ^ i + 1)) (St _ _ (hS _ _ ho)) upd_same, ?_⟩
      refine ⟨one1, fun l1 hl1 => ?_⟩
      have Sl := Same.upd (o := .lst [.int (out (i, l / 2 ^ i + 1) : Int)]) hl1
      refine ⟨nm, l1, _, _, rfl, rfl, Sl _ _ (St _ _ hnm), upd_same, Nat.le_of_lt (small1000 (by show _ + 1 ≤ 1000; omega)), fun nm2 hnm2 => ?_⟩
      refine r2 D i nm2 _ hi (((hS.trans St).trans Sl).trans (Same.upd hnm2)) ?_ hD go
      rw [upd_same]
      unfold ext
      rw [if_pos e0, ← vn_app (_ ++ _)]
      rfl
    · have e0 : ¬ l / 2 ^ i % 2 = 0 := fun z => e (by rw [z]; rfl)
      refine r2 D i nm H1 hi hS ?_ hD go
      unfold ext
      rw [if_neg e0, List.append_nil]
      exact hnm
  refine ⟨_, pss_cons (ps_set (i := 6) scLeads6.nd rfl (Or.inl rfl) (pv 4))
    (pss_cons (ps_set (i := 7) scLeads6.nd rfl (Or.inl rfl) (pv 2))
    (pss_cons (ps_set (i := 8) scLeads6.nd rfl (Or.inl rfl) (pv 3))
    (pss_cons (ps_for PassesOwn.never rfl (pi_range1 rfl mR (pa_cons (pv 0) pa_nil)) (pg_name (i := 9) scLeads6.nd rfl (Or.inl rfl))
      (pss_cons (ps_if (pt_cmpR op_eq (pe_op n_mod (pv 7) pe_int) pe_int (nomark _))
        (pss_one (ps_set (i := 6) scLeads6.nd rfl (Or.inl rfl) (pe_op op_cat (pe_lst (pa_cons (pe_dget hu1 (pv 5) (pe_tup (pa_cons (pv 9) (pa_cons (pe_op n_sub (pv 7) pe_int) pa_nil))) (fun _ _ => rfl)) pa_nil)) (pv 6)))) pss_nil) p1))
    (pss_one (ps_ret (pe_cmpR op_eq (pe_ix ix_list (pv 6) pe_int (fun _ _ => rfl)) (pv 1) (nomark _))))))), ?_⟩
  refine ⟨_, rfl, ?_⟩
  refine ⟨_, rfl, ?_⟩
  refine ⟨_, rfl, ?_⟩
  refine ⟨_, rfl, _, rfl, by omega, by omega, ?_⟩
  rw [Int.toNat_natCast]
  refine for_range (n := d) (fun i σ H' => ∃ (t9 : Option V) (nm : Addr), σ = [some (.int (d : Int)), some (.int t), some (.int (fi : Int)), some (.int (l : Int)), some (.ref wa), some (.ref oa), some (.ref nm), some (.int ((fi / 2 ^ i : Nat) : Int)), some (.int ((l / 2 ^ i : Nat) : Int)), t9] ∧ Same H H' ∧ H' nm = some (.lst (vn (upW out fi l ws i))))
    ⟨_, wa, by rw [Nat.pow_zero, Nat.div_one, Nat.div_one]; rfl, Same.refl _, hw⟩ ?_ ?_
  · rintro i σ H' hi ⟨t9, nm, rfl, hS, hnm⟩
    rw [show (0 : Int) + (i : Int) = ((i : Nat) : Int) by omega]
    have hlen : (vn (upW out fi l ws i)).length ≤ 300 := by
      rw [len_vn, lenW i]
      have := b300 (fi / 2 ^ i) _ (hi256 i)
      generalize l / 2 ^ i + 1 - fi / 2 ^ i = z at this ⊢
      omega
    refine ⟨_, rfl, fi / 2 ^ i, 2, fi / 2 ^ i % 2, rfl, rfl, Nat.zero_lt_two, rfl, rfl, _, rfl, ite3 (fun e => ?_) (fun e => ?_)⟩
    · have e1 : fi / 2 ^ i % 2 = 1 := by
        have z : ((fi / 2 ^ i % 2 : Nat) : Int) = 1 := V.int.inj e
        omega
      have hpos : 1 ≤ fi / 2 ^ i := Nat.pos_of_ne_zero fun z => by rw [z] at e1; cases e1
      have hval := hv (i, fi / 2 ^ i - 1) (List.mem_append.mpr (.inl (mem_preP.mpr ⟨i, hi, e1, rfl⟩)))
      refine ⟨_, rfl, _, rfl, _, rfl, fi / 2 ^ i, 1, fi / 2 ^ i - 1, rfl, rfl, hpos, rfl, two2, fun tp htp => ?_⟩
      have St := Same.upd (o := .tup [.int (i : Int), .int ((fi / 2 ^ i - 1 : Nat) : Int)]) htp
      refine ⟨oa, .int (out (i, fi / 2 ^ i - 1) : Int), rfl, by rw [← hval]; exact DGet.t (k := keyP (i, fi / 2 ^ i - 1)) (St _ _ (hS _ _ ho)) upd_same, ?_⟩
      refine ⟨one1, fun l1 hl1 => ?_⟩
      have Sl := Same.upd (o := .lst [.int (out (i, fi / 2 ^ i - 1) : Int)]) hl1
      refine ⟨_, rfl, l1, nm, _, _, rfl, rfl, upd_same, Sl _ _ (St _ _ hnm), Nat.le_of_lt (small1000 (by show 1 + _ ≤ 1000; omega)), fun nm2 hnm2 => ?_⟩
      refine r1 _ i nm2 _ hi (((hS.trans St).trans Sl).trans (Same.upd hnm2)) ?_ rfl fun nm3 H3 a1 a2 => ⟨_, nm3, rfl, a1, a2⟩
      rw [upd_same, if_pos e1, ← vn_app]
      rfl
    · have e1 : ¬ fi / 2 ^ i % 2 = 1 := fun z => e (by rw [z]; rfl)
      refine r1 _ i nm H' hi hS ?_ rfl fun nm3 H3 a1 a2 => ⟨_, nm3, rfl, a1, a2⟩
      rw [if_neg e1, List.nil_append]
      exact hnm
  · rintro σ H' ⟨t9, nm, rfl, hS, hnm⟩
    have l1 := lenW d
    rw [Nat.div_eq_of_lt hl, Nat.div_eq_of_lt (Nat.lt_of_le_of_lt hfl hl)] at l1
    match hW : upW out fi l ws d, l1 with
    | [n], _ =>
      rw [hW] at hnm q
      refine ⟨_, rfl, nm, _, _, _, rfl, rfl, SqL.of hnm, atI_nat (j := 0) rfl, _, rfl, rfl, q _ H' hS ?_⟩
      rw [dec_iff]
      exact ⟨fun e => ⟨n, rfl, e⟩, fun ⟨m, hm, e⟩ => by rw [(List.cons.inj hm).1]; exact e⟩
end
end Ts
namespace Ts
open PySem L2
def spIsSpan (K : PySem.W.Frag) : Sp := fun vs H Q _ => ∃ (d : Nat) (t : Int) (fi l : Nat) (a b : Addr) (rs : List RowN) (bs : List Nat), vs = [.int (d : Int), .int t, .int (fi : Int), .int (l : Int), .ref a, .ref b] ∧ d ≤ 8 ∧ fi ≤ l ∧ l < 2 ^ d ∧ SqL K H a (refsN rs) ∧ RowsN H rs ∧ RowsOk (2 ^ d) (bare rs) ∧ rs.length ≤ 1000 ∧ SqL K H b (vn bs) ∧ t < ((2 ^ bb : Nat) : Int) ∧
  ∀ (bo : Bool) (H' : Hp), Same H H' → (bo = true ↔ bs.length = (partsP d fi l).length ∧ (∀ r ∈ bare rs, fi ≤ r.1 ∧ r.1 ≤ l) ∧ ∃ out : Prt → Nat, (∀ (j : Nat) (p : Prt) (b : Nat), (partsP d fi l)[j]? = some p → bs[j]? = some b → out p = b) ∧ ∃ n : Nat, upW out fi l (sl (leaves (2 ^ d) (bare rs)) fi l) d = [n] ∧ (n : Int) = t) → Q (.bl bo) H'
theorem upW_ext {d fi l : Nat} {o1 o2 : Prt → Nat} (h : ∀ p ∈ partsP d fi l, o1 p = o2 p) (ws : List Nat) : ∀ i, i ≤ d → upW o1 fi l ws i = upW o2 fi l ws i
  | 0, _ => rfl
  | i + 1, hi => by
    have ih := upW_ext h ws i (by omega)
    show up (ext o1 i _ _ _) = up (ext o2 i _ _ _)
    rw [ih]
    unfold ext
    have e1 : (if fi / 2 ^ i % 2 = 1 then [o1 (i, fi / 2 ^ i - 1)] else []) = (if fi / 2 ^ i % 2 = 1 then [o2 (i, fi / 2 ^ i - 1)] else []) := by
      by_cases z : fi / 2 ^ i % 2 = 1
      · rw [if_pos z, if_pos z, h _ (List.mem_append.mpr (.inl (mem_preP.mpr ⟨i, by omega, z, rfl⟩)))]
      · rw [if_neg z, if_neg z]
    have e2 : (if l / 2 ^ i % 2 = 0 then [o1 (i, l / 2 ^ i + 1)] else []) = (if l / 2 ^ i % 2 = 0 then [o2 (i, l / 2 ^ i + 1)] else []) := by
      by_cases z : l / 2 ^ i % 2 = 0
      · rw [if_pos z, if_pos z, h _ (List.mem_append.mpr (.inr (mem_sufP.mpr ⟨i, by omega, z, rfl⟩)))]
      · rw [if_neg z, if_neg z]
    rw [e1, e2]
theorem cut_sl {xs : List Nat} {fi l : Nat} (h : l < xs.length) : cutV (vn xs) (some (fi : Int)) (some ((l + 1 : Nat) : Int)) = vn (sl xs fi l) := by
  unfold cutV sl
  rw [HT.sIx_nat, HT.sIx_nat, len_vn, show min (l + 1) xs.length = l + 1 by omega]
  by_cases hf : fi ≤ xs.length
  · rw [show min fi xs.length = fi by omega]
    unfold vn
    rw [List.map_take, List.map_drop]
  · rw [show min fi xs.length = xs.length by omega]
    unfold vn
    rw [List.drop_of_length_le (by rw [List.length_map]; omega), List.drop_of_length_le (by omega)]
    simp
section
variable {P : Program} {w : World} {K : PySem.W.Frag} {mg : Str → Option Value} {base : Heap} {f : Addr} {fd : FuncData}
theorem scSpan : FnScope ["depth", "rows", "first", "last", "levels"] ["depth", "rows", "first", "last"] (defScope sSpan) := ⟨rfl, rfl, rfl, by decide +kernel, rfl, by decide +kernel, by decide +kernel⟩
theorem ok_span (F : Fun K "span_for" "span_for" sSpan f fd) (D : Has P w K mg base "check_depth" 1 ["depth"] spDepth) (R : Has P w K mg base "check_rows" 4 ["depth", "rows"] (spCRows K)) (CS : Has P w K mg base "check_span" 3 ["depth", "first", "last"] spCSpan) (LV : Has P w K mg base "levels_of" 4 ["depth", "rows"] (spLevOf K))
    (PO : Has P w K mg base "parts_outside" 1 ["depth", "first", "last"] (spOutside K)) : FnOk P w K mg base CX0 5 f fd ["depth", "rows", "first", "last"] (spSpan K) := by
  refine F.ok scSpan (fun vs H Q E h => ?_) (fun cdv A outer s H vs Q E hr h => ?_)
  · obtain ⟨d, fi, l, a, rs, rfl, _⟩ := h
    rfl
  obtain ⟨d, fi, l, a, rs, rfl, hd, hfl, hl, ha, hR, ok, h1000, h67, q⟩ := h
  have hr1 : Room 1 _ := hr.mono (by decide)
  have hr3 : Room 3 _ := hr.mono (by decide)
  have hf : fi < 2 ^ d := Nat.lt_of_le_of_lt hfl hl
  refine ⟨_, pss_cons (ps_expr (pe_has D hr1 (pa_cons (pv 0) pa_nil)))
    (pss_cons (ps_expr (pe_has R hr (pa_cons (pv 0) (pa_cons (pv 1) pa_nil))))
    (pss_cons (ps_expr (pe_has CS hr3 (pa_cons (pv 0) (pa_cons (pv 2) (pa_cons (pv 3) pa_nil)))))
    (pss_cons (ps_set (i := 4) scSpan.nd rfl (Or.inr rfl) (pe_has LV hr (pa_cons (pv 0) (pa_cons (pv 1) pa_nil))))
    (pss_one (ps_ret (pe_comp (cl := [("levels", s.heap.objs.size + 1)]) (N := ["level", "place", "levels"]) (fr := [none, none, some 4]) rfl
      (block_one rfl (by decide +kernel) (by decide +kernel) (by show ∀ p ∈ relS _ (defScope sSpan), _; decide +kernel) rfl) rfl ⟨⟨rfl, rfl, .inl rfl⟩, trivial⟩
      (pi_list (pe_has PO hr1 (pa_cons (pv 0) (pa_cons (pv 2) (pa_cons (pv 3) pa_nil)))))
      (fun _ _ _ _ _ => pg_tupK (n := 2) rfl (pgs_cons (pg_name (i := 0) (show (["level", "place", "levels"] : List Str).Nodup by decide) rfl (Or.inl rfl)) (pgs_cons (pg_name (i := 1) (show (["level", "place", "levels"] : List Str).Nodup by decide) rfl (Or.inl rfl)) pgs_nil)))
      (fun _ _ _ _ _ => pifs_nil)
      (fun _ _ _ _ _ => pe_ix ix_listK (pe_ix ix_listK (pv 2) (pv 0) (fun _ _ => rfl)) (pv 1) (fun _ _ => rfl)))))))), ?_⟩
  refine ⟨_, rfl, d, rfl, hd, ?_⟩
  refine ⟨_, rfl, _, rfl, d, a, rs, rfl, hd, ha, hR, ok, h1000, fun H1 hS1 => ?_⟩
  refine ⟨_, rfl, _, rfl, _, rfl, d, fi, l, rfl, hd, hfl, hl, ?_⟩
  refine ⟨_, rfl, _, rfl, d, a, rs, rfl, hd, hS1.seq ha, hR.same hS1, ok, h67, fun p as H2 hS2 hp hp2 hA => ?_⟩
  have hLl : (leaves (2 ^ d) (bare rs)).length = 2 ^ d := len_leaves _ _
  generalize leaves (2 ^ d) (bare rs) = xs at hLl hA q
  refine ⟨_, rfl, _, rfl, _, rfl, d, fi, l, rfl, hd, hf, hl, fun g ps H3 hS3 hg hg3 hP hB => ?_⟩
  have hlen : ps.length ≤ 20 := by
    have e := congrArg List.length hB
    rw [len_bare'] at e
    unfold partsP at e
    rw [List.length_append] at e
    have := len_preP d fi
    have := len_sufP d l
    omega
  refine ⟨g, rfl, ⟨_, SqL.of hg3⟩, ?_⟩
  refine comp_on ps.length (by omega) (fun i ys τ H5 => H5 = H3 ∧ ∃ t0 t1 : Option V, τ = [t0, t1, some (.ref p)] ∧ ys = vn ((bare (ps.take i)).map (numAt xs))) ⟨rfl, _, _, rfl, rfl⟩ ?_ ?_ ?_
  · rintro i ys τ H5 ⟨_, _, _, _, rfl⟩
    rw [len_vn, List.length_map, len_bare', List.length_take]
    omega
  · rintro i ys τ H5 hi ⟨rfl, t0, t1, rfl, rfl⟩
    have hei : ps[i]? = some ps[i] := List.getElem?_eq_getElem hi
    have hem : ps[i] ∈ ps := List.getElem_mem hi
    generalize ps[i] = v at hei hem
    refine ⟨⟨_, _, SqL.of hg3, refs_at hei⟩, fun y H6 hy => ?_⟩
    obtain ⟨g1, g2⟩ := hy
    have g3 : y = .ref v.1 := by
      have := g2 _ (SqL.of hg3)
      rw [refs_at hei] at this
      exact (Option.some.inj this).symm
    subst g1 g3
    have hin : v.2 ∈ partsP d fi l := by rw [← hB]; exact List.mem_map.mpr ⟨v, hem, rfl⟩
    have hlv := part_lv hin
    have hpl := part_in hf hl hin
    obtain ⟨b, hb1, hb2⟩ := hA v.2.1 hlv
    have hlb : (ups v.2.1 xs).length = 2 ^ (d - v.2.1) := by rw [len_ups, hLl, Nat.pow_div (by omega) (by decide)]
    obtain ⟨n1, _⟩ := getD_mem (xs := ups v.2.1 xs) (i := v.2.2) (by rw [hlb]; exact hpl)
    refine ⟨v.1, _, rfl, SqT.of (hP v hem), rfl, _, _, rfl, _, _, rfl, rfl, ?_⟩
    refine tYes_if ?_
    have hb3 := hS3 _ _ hb2
    refine ⟨_, rfl, _, rfl, p, _, _, _, rfl, rfl, SqL.of (hS3 _ _ hp2), atI_nat (v := .ref b) (by rw [List.getElem?_map, hb1]; rfl), _, rfl, b, _, _, _, rfl, rfl, SqL.of hb3, atI_nat (vn_get n1), rfl, _, _, rfl, ?_⟩
    rw [take_one hei, bare_app, List.map_append, ← vn_app]
    rfl
  · rintro ys τ H5 ⟨rfl, t0, t1, rfl, rfl⟩
    refine ⟨⟨_, SqL.of hg3, by rw [len_refs]; exact Nat.le_refl _⟩, fun r hr' => ?_⟩
    rw [List.take_length, hB]
    have S := (hS1.trans hS2).trans hS3
    exact q r _ (S.trans (Same.upd hr')) (S.free hr') upd_same
theorem scIsSpan : FnScope ["depth", "top", "first", "last", "rows", "numbers", "parts", "within"] ["depth", "top", "first", "last", "rows", "numbers"] (defScope sIsSpan) := ⟨rfl, rfl, rfl, by decide +kernel, rfl, by decide +kernel, by decide +kernel⟩
theorem ok_isspan (F : Fun K "is_span" "is_span" sIsSpan f fd) (mL : mg "len" = none) (mD : mg "dict" = none) (mZ : mg "zip" = none) (D : Has P w K mg base "check_depth" 1 ["depth"] spDepth) (R : Has P w K mg base "check_rows" 4 ["depth", "rows"] (spCRows K)) (CS : Has P w K mg base "check_span" 3 ["depth", "first", "last"] spCSpan)
    (CN : Has P w K mg base "check_numbers" 1 ["numbers"] (spCNums K)) (PO : Has P w K mg base "parts_outside" 1 ["depth", "first", "last"] (spOutside K)) (AW : Has P w K mg base "all_within" 1 ["rows", "first", "last"] (spWithin K)) (PL : Has P w K mg base "place_numbers" 2 ["depth", "rows"] (spPlace K))
    (LD : Has P w K mg base "leads_to" 4 ["depth", "top", "first", "last", "within", "outside"] (spLeads6 K)) : FnOk P w K mg base CX0 5 f fd ["depth", "top", "first", "last", "rows", "numbers"] (spIsSpan K) := by
  refine F.ok scIsSpan (fun vs H Q E h => ?_) (fun cdv A outer s H vs Q E hr h => ?_)
  · obtain ⟨d, t, fi, l, a, b, rs, bs, rfl, _⟩ := h
    rfl
  obtain ⟨d, t, fi, l, a, b, rs, bs, rfl, hd, hfl, hl, ha, hR, ok, h1000, hb, ht, q⟩ := h
  have hr1 : Room 1 _ := hr.mono (by decide)
  have hr2 : Room 2 _ := hr.mono (by decide)
  have hr3 : Room 3 _ := hr.mono (by decide)
  have hu3 : _ + 3 < cLine := Nat.lt_of_le_of_lt (Nat.add_le_add_left (by decide : 3 ≤ 64) _) hr.units
  have hf : fi < 2 ^ d := Nat.lt_of_le_of_lt hfl hl
  refine ⟨_, pss_cons (ps_expr (pe_has D hr1 (pa_cons (pv 0) pa_nil)))
    (pss_cons (ps_expr (pe_has R hr (pa_cons (pv 0) (pa_cons (pv 4) pa_nil))))
    (pss_cons (ps_expr (pe_has CS hr3 (pa_cons (pv 0) (pa_cons (pv 2) (pa_cons (pv 3) pa_nil)))))
    (pss_cons (ps_expr (pe_has CN hr1 (pa_cons (pv 5) pa_nil)))
    (pss_cons (ps_set (i := 6) scIsSpan.nd rfl (Or.inl rfl) (pe_has PO hr1 (pa_cons (pv 0) (pa_cons (pv 2) (pa_cons (pv 3) pa_nil)))))
    (pss_cons (ps_if (PW.pt (pw_or (pt_cmpR op_ne (pe_callB call_len_seq rfl mL PySem.boot_len (pa_cons (pv 5) pa_nil)) (pe_callB call_len_seq rfl mL PySem.boot_len (pa_cons (pv 6) pa_nil)) (nomark _)) (pw_or1 (pt_not (pt_val (pe_has AW hr1 (pa_cons (pv 4) (pa_cons (pv 2) (pa_cons (pv 3) pa_nil)))))))))
      (pss_one (ps_ret pe_bl)) pss_nil)
    (pss_cons (ps_set (i := 7) scIsSpan.nd rfl (Or.inl rfl) (pe_slice sl_list (pe_has PL hr2 (pa_cons (pv 0) (pa_cons (pv 4) pa_nil))) (po_some (pv 2)) (po_some (pe_op n_add (pv 3) pe_int))))
    (pss_one (ps_ret (pe_has LD hr (pa_cons (pv 0) (pa_cons (pv 1) (pa_cons (pv 2) (pa_cons (pv 3) (pa_cons (pv 7) (pa_cons (pe_dictzip rfl hu3 rfl mD rfl mZ (pa_cons (pv 6) (pa_cons (pv 5) pa_nil))) pa_nil))))))))))))))), ?_⟩
  refine ⟨_, rfl, d, rfl, hd, ?_⟩
  refine ⟨_, rfl, _, rfl, d, a, rs, rfl, hd, ha, hR, ok, h1000, fun H1 hS1 => ?_⟩
  refine ⟨_, rfl, _, rfl, _, rfl, d, fi, l, rfl, hd, hfl, hl, ?_⟩
  refine ⟨_, rfl, b, bs, rfl, hS1.seq hb, ?_⟩
  refine ⟨_, rfl, _, rfl, _, rfl, d, fi, l, rfl, hd, hf, hl, fun g ps H3 hS3 hg hg3 hP hB => ?_⟩
  have S3 := hS1.trans hS3
  have hlb := len_vn bs
  have hlp := len_refs ps
  have hpb : ps.length = (partsP d fi l).length := by rw [← hB, len_bare']
  have hl20 : ps.length ≤ 20 := by
    rw [hpb]
    unfold partsP
    rw [List.length_append]
    have := len_preP d fi
    have := len_sufP d l
    omega
  refine ⟨_, rfl, b, _, rfl, .inl (S3.seq hb), _, rfl, g, _, rfl, .inl (SqL.of hg3), rfl, _, rfl, iteNot (fun e => ?_) (fun e => ?_)⟩
  · refine iteT (q false H3 S3 (false_iff' fun z => e ?_))
    rw [hlb, hlp, hpb, z.1]
  have hbl : bs.length = ps.length := by
    have z : ((vn bs).length : Int) = ((refsN ps).length : Int) := V.int.inj e
    omega
  refine ⟨_, rfl, _, rfl, _, rfl, fi, l, a, rs, rfl, S3.seq ha, hR.same S3, fun bo hbo => ?_⟩
  refine ⟨_, rfl, ?_⟩
  cases bo with
  | false =>
    refine iteB1 rfl (q false H3 S3 (false_iff' fun z => ?_))
    have := hbo.mpr z.2.1
    cases this
  | true =>
    refine iteB rfl ?_
    have hin := hbo.mp rfl
    refine ⟨_, rfl, _, rfl, d, a, rs, rfl, hd, S3.seq ha, hR.same S3, ok, fun p H4 hS4 _ hp4 => ?_⟩
    have hLl : (leaves (2 ^ d) (bare rs)).length = 2 ^ d := len_leaves _ _
    refine ⟨_, rfl, _, rfl, _, rfl, l, 1, l + 1, rfl, rfl, trivial, rfl, _, rfl, p, _, rfl, SqL.of hp4, fun wa hwa => ?_⟩
    rw [cut_sl (by rw [hLl]; exact hl)]
    generalize leaves (2 ^ d) (bare rs) = xs at hLl hp4 q
    have hws := len_sl (xs := xs) (f := fi) (l := l) (by rw [hLl]; exact hl) hfl
    have Sw := Same.upd (o := .lst (vn (sl xs fi l))) hwa
    have S4 := (S3.trans hS4).trans Sw
    have hg4 := (hS4.trans Sw) _ _ hg3
    have hP4 := hP.same (hS4.trans Sw)
    have hw4 : (upd H4 wa (.lst (vn (sl xs fi l)))) wa = some (.lst (vn (sl xs fi l))) := upd_same
    generalize upd H4 wa (.lst (vn (sl xs fi l))) = H5 at S4 hg4 hP4 hw4 ⊢
    have ek : (ps.map fun r => (r.1, keyP r.2)).map (·.2) = (partsP d fi l).map keyP := by
      rw [← hB]
      unfold bare
      rw [List.map_map, List.map_map]
      rfl
    have nd := nd_parts (d := d) hfl
    refine ⟨_, rfl, _, rfl, _, rfl, _, rfl, _, rfl, _, rfl, _, rfl, g, b, ps.map (fun r => (r.1, keyP r.2)), vn bs, rfl, ?_, S4.seq hb, by rw [len_vn, List.length_map]; exact hbl, ?_, ?_, by rw [List.length_map]; omega, fun oa hoa => ?_⟩
    · rw [List.map_map]
      exact SqL.of hg4
    · intro x hx
      obtain ⟨r, hr', rfl⟩ := List.mem_map.mp hx
      exact hP4 r hr'
    · rw [ek]
      rw [List.nodup_iff_pairwise_ne, List.pairwise_map]
      exact (List.nodup_iff_pairwise_ne.mp nd).imp fun {x y} z e => z (keyP_inj e)
    rw [ek]
    have So := Same.upd (o := .dT (((partsP d fi l).map keyP).zip (vn bs))) hoa
    have hval : ∀ p ∈ partsP d fi l, valV (((partsP d fi l).map keyP).zip (vn bs)) (keyP p) = some (.int (outV (((partsP d fi l).map keyP).zip (vn bs)) p : Int)) := fun p hp => by
      obtain ⟨j, hj⟩ := List.getElem?_of_mem hp
      have hjl := (List.getElem?_eq_some_iff.mp hj).1
      have hb' : bs[j]? = some bs[j] := List.getElem?_eq_getElem (by omega)
      have e := val_zip nd j p _ hj hb'
      rw [outV_of e]
      exact e
    refine ⟨d, t, fi, l, wa, oa, sl xs fi l, _, outV (((partsP d fi l).map keyP).zip (vn bs)), rfl, hd, hfl, hl, So _ _ hw4, upd_same, hws, hval, ht, fun bo H6 hS6 hbo' => ?_⟩
    refine q bo H6 ((S4.trans So).trans hS6) (hbo'.trans ⟨fun ⟨n, h1, h2⟩ => ⟨by omega, hin, _, fun j p b' h3 h4 => outV_of (val_zip nd j p b' h3 h4), n, h1, h2⟩, fun ⟨_, _, out, h3, n, h1, h2⟩ => ⟨n, ?_, h2⟩⟩)
    rw [← h1]
    refine upW_ext (fun p hp => ?_) _ d (Nat.le_refl _)
    obtain ⟨j, hj⟩ := List.getElem?_of_mem hp
    have hjl := (List.getElem?_eq_some_iff.mp hj).1
    have hb' : bs[j]? = some bs[j] := List.getElem?_eq_getElem (by omega)
    rw [outV_of (val_zip nd j p _ hj hb'), h3 j p _ hj hb']
end
end Ts
namespace L2
open PySem PySem.Spec PyProof.Rows
/-- a comprehension that looks at two names of the def around it -/
theorem block_two {X : Cx} {sc : Scope} {x0 x1 : Str} {c0 c1 : Addr} (k : sc.kind = .function) (h1 : ∀ y ∈ sc.names, y.2 ≠ .cell) (h2 : ∀ y ∈ sc.names, y.2 = .local → sc.names.lookup y.1 = some .local)
    (hm : ∀ p ∈ relS sc X.env.scope, (p.2 = .cell ∨ p.2 = .free) → p.1 = x0 ∨ p.1 = x1) (hc : X.env.cells.lookup x0 = some c0) (hc1 : X.env.cells.lookup x1 = some c1) (hne : (x1 == x0) = false) : BlockOk X sc [(x0, c0), (x1, c1)] where
  kind := k
  cell := h1
  names := h2
  sub := fun x c h => by
    rw [List.lookup_cons] at h
    split at h
    · rename_i e
      have e' : x = x0 := eq_of_beq e
      rw [e', hc]
      exact h
    · rw [List.lookup_cons] at h
      split at h
      · rename_i e
        have e' : x = x1 := eq_of_beq e
        rw [e', hc1]
        exact h
      · simp at h
  has := fun x h => by
    have hx : x = x0 ∨ x = x1 := by
      rcases h with h | h
      · exact hm _ (mem_lookup h) (Or.inl rfl)
      · exact hm _ (mem_lookup h) (Or.inr rfl)
    rcases hx with e | e
    · exact ⟨c0, by rw [e, List.lookup_cons, beq_self_eq_true]⟩
    · exact ⟨c1, by rw [e, List.lookup_cons, hne, List.lookup_cons, beq_self_eq_true]⟩
end L2
namespace Ts
open PySem L2
def spOuter (K : PySem.W.Frag) : Sp := fun vs H Q _ => ∃ (d st sp : Nat) (p : Addr) (ls : List Addr) (z : Addr) (xs : List Nat) (r : List Prt), vs = [.ref p, .int (st : Int), .int (sp : Int)] ∧ d ≤ 8 ∧ H p = some (.lst ((ls ++ [z]).map V.ref)) ∧ ls.length = d ∧ LevelsAt H xs (ls ++ [z]) ∧ xs.length = 2 ^ d ∧ sp ≤ 2 ^ d ∧ Grd sp st r ∧
  ∀ g H', Same H H' → H g = none → H' g = some (.lst (vn (r.map (numAt xs)))) → Q (.ref g) H'
theorem small_dl' {n : Nat} (h : n ≤ 256) : n < 2 ^ dl := Nat.lt_of_le_of_lt h (Nat.lt_of_lt_of_le (show 256 < 2 ^ 9 by decide) (Nat.pow_le_pow_right (by decide) (by decide)))
section
variable {P : Program} {w : World} {K : PySem.W.Frag} {mg : Str → Option Value} {base : Heap} {f : Addr} {fd : FuncData}
abbrev nOuter : List Str := ["_law_levels", "_law_start", "_law_stop", "_law_found", "_law_place", "_law_level", "_law_size"]
theorem scOuter : FnScope nOuter ["_law_levels", "_law_start", "_law_stop"] (defScope sOuter) := ⟨rfl, rfl, rfl, by decide +kernel, rfl, by decide +kernel, by decide +kernel⟩
theorem ok_outer (F : Fun K "_law_outer" "_law_outer" sOuter f fd) : FnOk P w K mg base CX0 1 f fd ["_law_levels", "_law_start", "_law_stop"] (spOuter K) := by
  refine F.ok scOuter (fun vs H Q E h => ?_) (fun cdv A outer s H vs Q E hr h => ?_)
  · obtain ⟨d, st, sp, p, ls, z, xs, r, rfl, _⟩ := h
    rfl
  obtain ⟨d, st, sp, p, ls, z, xs, r, rfl, hd, hp, hll, hLv, hxl, hsp, hG, q⟩ := h
  have h256 : 2 ^ d ≤ 256 := Nat.pow_le_pow_right (n := 2) (by decide) hd
  refine ⟨_, pss_cons (ps_set (i := 3) scOuter.nd rfl (Or.inl rfl) (pe_lst pa_nil))
    (pss_cons (ps_set (i := 4) scOuter.nd rfl (Or.inl rfl) (pv 1))
    (pss_cons (ps_while PassesOwn.never (pt_cmpR op_lt (pv 4) (pv 2) (nomark _))
      (pss_cons (ps_set (i := 5) scOuter.nd rfl (Or.inl rfl) pe_int)
      (pss_cons (ps_set (i := 6) scOuter.nd rfl (Or.inl rfl) pe_int)
      (pss_cons (ps_while PassesOwn.never (PW.pt (pw_and (pt_cmpR op_eq (pe_op n_mod (pv 4) (pe_op n_mul pe_int (pv 6))) pe_int (nomark _)) (pw_and1 (pt_cmpR op_le (pe_op n_add (pv 4) (pe_op n_mul pe_int (pv 6))) (pv 2) (nomark _)))))
        (pss_cons (ps_set (i := 5) scOuter.nd rfl (Or.inl rfl) (pe_op n_add (pv 5) pe_int))
        (pss_one (ps_set (i := 6) scOuter.nd rfl (Or.inl rfl) (pe_op n_mul pe_int (pv 6))))))
      (pss_cons (ps_expr (pe_bm PySem.F.plainAttrs_list PySem.F.slot_list_append PySem.F.type_list_append mt_append (pv 3) (pa_cons (pe_ix ix_list (pe_ix ix_list (pv 0) (pv 5) (fun _ _ => rfl)) (pe_op n_div (pv 4) (pv 6)) (fun _ _ => rfl)) pa_nil)))
      (pss_one (ps_set (i := 4) scOuter.nd rfl (Or.inl rfl) (pe_op n_add (pv 4) (pv 6)))))))))
    (pss_one (ps_ret (pv 3))))), ?_⟩
  refine ⟨by show 0 ≤ sizeLine; decide, fun g hg0 => ?_⟩
  refine ⟨_, rfl, ?_⟩
  have S0 := Same.upd (o := .lst []) hg0
  refine while_on (fun m σ H' => ∃ (pl : Nat) (r1 r2 : List Prt) (t5 t6 : Option V), m = sp - pl ∧ σ = [some (.ref p), some (.int (st : Int)), some (.int (sp : Int)), some (.ref g), some (.int (pl : Int)), t5, t6] ∧ Same H H' ∧ H' g = some (.lst (vn (r1.map (numAt xs)))) ∧ Grd sp pl r2 ∧ r = r1 ++ r2 ∧ (r1 ≠ [] → pl ≤ sp) ∧ r1.length ≤ pl) (sp - st)
    ⟨st, [], r, _, _, rfl, rfl, S0, upd_same, hG, rfl, fun z => absurd rfl z, Nat.zero_le _⟩ ?_
  rintro m σ H' ⟨pl, r1, r2, t5, t6, rfl, rfl, hS, hg, hG2, rfl, hle, hrl⟩
  refine ⟨_, rfl, _, rfl, _, _, rfl, rfl, _, rfl, ite3 (fun c => ?_) (fun c => ?_)⟩
  · cases hG2 with
    | done h => exact absurd h (by omega)
    | @step _ lv r3 hlt hB hG3 =>
      have two_lv : 2 ^ lv ≤ 2 ^ d := Nat.le_trans (by have := hB.2.1; omega) hsp
      have hlv : lv ≤ d := (Nat.pow_le_pow_iff_right (by decide)).mp two_lv
      have sm : ∀ j, j ≤ lv → 2 ^ j ≤ 256 := fun j hj => Nat.le_trans (Nat.pow_le_pow_right (n := 2) (by decide) (Nat.le_trans hj hlv)) h256
      refine ⟨_, fun _ _ z => z, ?_⟩
      -- the level that fits
      refine while_on (fun m σ H2 => ∃ j, j ≤ lv ∧ m = lv - j ∧ H2 = H' ∧ σ = [some (.ref p), some (.int (st : Int)), some (.int (sp : Int)), some (.ref g), some (.int (pl : Int)), some (.int (j : Int)), some (.int ((2 ^ j : Nat) : Int))]) lv ⟨0, Nat.zero_le _, rfl, rfl, rfl⟩ ?_
      rintro m σ H2 ⟨j, hj, rfl, rfl, rfl⟩
      have e2 : 2 ^ (j + 1) = 2 * 2 ^ j := by rw [Nat.pow_succ, Nat.mul_comm]
      have mu : CMulN 2 (2 ^ j) := ⟨2, j + 1, by decide, Nat.pow_lt_pow_right (by decide) (Nat.lt_succ_self j), by omega⟩
      -- the end of the turn
      have out : j = lv → (vn (r1.map (numAt xs))).length < sizeLine ∧ ∃ b, ((ls ++ [z]).map V.ref)[lv]? = some (.ref b) ∧ H2 b = some (.lst (vn (ups lv xs))) ∧ (vn (ups lv xs))[pl / 2 ^ lv]? = some (.int (numAt xs (lv, pl / 2 ^ lv) : Int)) := fun _ => by
        refine ⟨by rw [len_vn, List.length_map]; exact small1000 (by omega), ?_⟩
        obtain ⟨b, hb1, hb2⟩ := hLv lv (by rw [List.length_append, hll]; show lv < d + 1; omega)
        have hlen : (ups lv xs).length = 2 ^ (d - lv) := by rw [len_ups, hxl, Nat.pow_div hlv (by decide)]
        have hlt2 : pl / 2 ^ lv < 2 ^ (d - lv) := by
          rw [Nat.div_lt_iff_lt_mul (Nat.two_pow_pos _), ← Nat.pow_add, Nat.sub_add_cancel hlv]
          omega
        obtain ⟨g1, _⟩ := getD_mem (xs := ups lv xs) (i := pl / 2 ^ lv) (by rw [hlen]; exact hlt2)
        exact ⟨b, by rw [List.getElem?_map, hb1]; rfl, hS _ _ hb2, vn_get g1⟩
      have sml : 2 ^ lv < 2 ^ dl := small_dl' (sm lv (Nat.le_refl _))
      refine ⟨_, rfl, _, rfl, 2, 2 ^ j, 2 ^ (j + 1), rfl, rfl, mu, e2, pl, 2 ^ (j + 1), pl % 2 ^ (j + 1), rfl, rfl, Nat.two_pow_pos _, rfl, rfl, _, rfl, ite3 (fun c1 => ?_) (fun c1 => ?_)⟩
      · have c1' : pl % 2 ^ (j + 1) = 0 := by
          have z : ((pl % 2 ^ (j + 1) : Nat) : Int) = 0 := V.int.inj c1
          omega
        refine ⟨_, rfl, _, rfl, 2, 2 ^ j, 2 ^ (j + 1), rfl, rfl, mu, e2, pl, 2 ^ (j + 1), pl + 2 ^ (j + 1), rfl, rfl, trivial, rfl, _, rfl, _, _, rfl, rfl, _, rfl, ite3 (fun c2 => ?_) (fun c2 => ?_)⟩
        · have hj1 : j + 1 ≤ lv := hB.le ⟨c1', by omega⟩
          refine ⟨_, fun _ _ z => z, ?_⟩
          refine ⟨_, rfl, j, 1, j + 1, rfl, rfl, trivial, rfl, ?_⟩
          exact ⟨_, rfl, 2, 2 ^ j, 2 ^ (j + 1), rfl, rfl, mu, e2, lv - (j + 1), by omega, j + 1, hj1, rfl, rfl, rfl⟩
        · have ej : j = lv := Nat.le_antisymm hj (Nat.le_of_not_lt fun z => by
            have h1 : 2 ^ (j + 1) ≤ 2 ^ lv := Nat.pow_le_pow_right (by decide) z
            have h2 := hB.2.1
            omega)
          subst ej
          obtain ⟨o1, b, o2, o3, o4⟩ := out rfl
          refine ⟨_, rfl, .inl ⟨rfl, _, SqL.of hg⟩, _, rfl, _, rfl, p, _, _, _, rfl, rfl, SqL.of (hS _ _ hp), atI_nat o2, _, rfl, _, rfl, pl, 2 ^ j, pl / 2 ^ j, rfl, rfl, ⟨Nat.two_pow_pos _, sml⟩, rfl, b, _, _, _, rfl, rfl, SqL.of o3, atI_nat o4, ?_⟩
          refine ⟨g, _, _, rfl, rfl, hg, o1, ?_⟩
          refine ⟨_, rfl, _, rfl, pl, 2 ^ j, pl + 2 ^ j, rfl, rfl, trivial, rfl, sp - (pl + 2 ^ j), by have := Nat.two_pow_pos j; omega, pl + 2 ^ j, r1 ++ [(j, pl / 2 ^ j)], r3, _, _, rfl, rfl, hS.new hg0, ?_, hG3, by rw [List.append_assoc]; rfl, fun _ => hB.2.1, ?_⟩
          · rw [upd_same, List.map_append, ← vn_app]
            rfl
          · rw [List.length_append]
            have := Nat.two_pow_pos j
            show r1.length + 1 ≤ _
            omega
      · have ej : j = lv := Nat.le_antisymm hj (Nat.le_of_not_lt fun z => c1 (by rw [pow_div_of z hB.1]; rfl))
        subst ej
        obtain ⟨o1, b, o2, o3, o4⟩ := out rfl
        refine iteF ?_
        refine ⟨_, rfl, .inl ⟨rfl, _, SqL.of hg⟩, _, rfl, _, rfl, p, _, _, _, rfl, rfl, SqL.of (hS _ _ hp), atI_nat o2, _, rfl, _, rfl, pl, 2 ^ j, pl / 2 ^ j, rfl, rfl, ⟨Nat.two_pow_pos _, sml⟩, rfl, b, _, _, _, rfl, rfl, SqL.of o3, atI_nat o4, ?_⟩
        refine ⟨g, _, _, rfl, rfl, hg, o1, ?_⟩
        refine ⟨_, rfl, _, rfl, pl, 2 ^ j, pl + 2 ^ j, rfl, rfl, trivial, rfl, sp - (pl + 2 ^ j), by have := Nat.two_pow_pos j; omega, pl + 2 ^ j, r1 ++ [(j, pl / 2 ^ j)], r3, _, _, rfl, rfl, hS.new hg0, ?_, hG3, by rw [List.append_assoc]; rfl, fun _ => hB.2.1, ?_⟩
        · rw [upd_same, List.map_append, ← vn_app]
          rfl
        · rw [List.length_append]
          have := Nat.two_pow_pos j
          show r1.length + 1 ≤ _
          omega
  · have e : r2 = [] := by
      cases hG2 with
      | done _ => rfl
      | step hlt _ _ => exact absurd hlt (by omega)
    rw [e, List.append_nil] at q
    exact ⟨_, rfl, q g H' hS hg0 hg⟩
end
end Ts
namespace Ts
open PySem L2
theorem RowsOk.sub {c : Nat} {xs ys : List Row} (h : RowsOk c ys) (s : xs.Sublist ys) : RowsOk c xs := ⟨fun r hr => h.keys r (s.subset hr), h.nd.sublist (s.map _)⟩
theorem erase_sub : ∀ (rs : List RowN) (k : Nat), (rs.eraseIdx k).Sublist rs
  | [], _ => .slnil
  | x :: r, 0 => List.sublist_cons_self x r
  | x :: r, k + 1 => (erase_sub r k).cons₂ x
theorem RowsOk.perm {c : Nat} {rs qs : List RowN} (h : RowsOk c (bare rs)) (p : qs.Perm rs) : RowsOk c (bare qs) := by
  have pb : (bare qs).Perm (bare rs) := p.map _
  exact ⟨fun r hr => h.keys r (pb.mem_iff.mp hr), (pb.map _).nodup_iff.mpr h.nd⟩
theorem RowsOk.snoc {c : Nat} {rs : List RowN} {t : Addr} {y v : Nat} (h : RowsOk c (bare rs)) (hy : y < c) (hn : y ∉ keysN rs) : RowsOk c (bare (rs ++ [(t, y, v)])) := by
  have e : bare (rs ++ [(t, y, v)]) = bare rs ++ [(y, v)] := by unfold bare; rw [List.map_append]; rfl
  rw [e]
  refine ⟨fun r hr => ?_, ?_⟩
  · rcases List.mem_append.mp hr with z | z
    · exact h.keys r z
    · rw [List.mem_singleton.mp z]; exact hy
  · rw [List.map_append]
    have nd := h.nd
    rw [keys_bare] at nd ⊢
    exact nd_snoc nd hn
theorem set_keys {rs : List RowN} {k : Nat} {r : RowN} {t : Addr} {v : Nat} (h : rs[k]? = some r) : keysN (rs.set k (t, r.2.1, v)) = keysN rs := by
  unfold keysN
  rw [List.map_set]
  apply List.ext_getElem?
  intro i
  by_cases e : k = i
  · subst e
    have hk := (List.getElem?_eq_some_iff.mp h).1
    rw [List.getElem?_set_self (by rw [List.length_map]; exact hk), List.getElem?_map, h]
    rfl
  · rw [List.getElem?_set_ne e]
theorem RowsOk.set {c : Nat} {rs : List RowN} {k : Nat} {r : RowN} {t : Addr} {v : Nat} (R : RowsOk c (bare rs)) (h : rs[k]? = some r) : RowsOk c (bare (rs.set k (t, r.2.1, v))) := by
  refine ⟨fun x hx => ?_, ?_⟩
  · have m : x.1 ∈ keysN (rs.set k (t, r.2.1, v)) := by rw [← keys_bare]; exact List.mem_map.mpr ⟨x, hx, rfl⟩
    rw [set_keys h, ← keys_bare] at m
    obtain ⟨z, hz, e⟩ := List.mem_map.mp m
    rw [← e]; exact R.keys z hz
  · rw [keys_bare, set_keys h, ← keys_bare]; exact R.nd
theorem mem_set_row {rs : List RowN} {k : Nat} {q : RowN} {x : Row} (h : x ∈ bare (rs.set k q)) : x ∈ bare rs ∨ x = q.2 := by
  obtain ⟨z, hz, e⟩ := List.mem_map.mp h
  rcases List.mem_or_eq_of_mem_set hz with y | y
  · exact .inl (List.mem_map.mpr ⟨z, y, e⟩)
  · exact .inr (by rw [← e, y])
theorem inV_vn (i : Nat) : ∀ keys : List Nat, inV (.int (i : Int)) (vn keys) = decide (i ∈ keys)
  | [] => rfl
  | k :: r => by
    have ih := inV_vn i r
    unfold inV at ih ⊢
    show (eqV (.int (k : Int)) (.int (i : Int)) || (vn r).any _) = _
    rw [ih]
    show (((k : Int) == (i : Int)) || decide (i ∈ r)) = decide (i ∈ k :: r)
    by_cases h : i = k
    · subst h; simp
    · have h2 : ((k : Int) == (i : Int)) = false := beq_eq_false_iff_ne.mpr (by omega)
      rw [h2]
      simp [h]
theorem flat_vn (keys : List Nat) : (vn keys).all flatV = true := by
  unfold vn
  rw [List.all_map, List.all_eq_true]
  intro x _
  rfl
end Ts
namespace Ts
open PySem L2
theorem cut_pre (xs : List V) {j : Nat} (h : j ≤ xs.length) : cutV xs none (some (j : Int)) = xs.take j := by
  unfold cutV
  rw [HT.sIx_nat, HT.sIx_none, Nat.sub_zero, List.drop_zero, show min j xs.length = j by omega]
theorem cut_suf (xs : List V) {j : Nat} (h : j ≤ xs.length) : cutV xs (some (j : Int)) none = xs.drop j := by
  unfold cutV
  rw [HT.sIx_nat, HT.sIx_none, show min j xs.length = j by omega, List.take_of_length_le (by rw [List.length_drop]; omega)]
/-- what the law bends: the rows, the numbers -/
structure Bn (H H' : Hp) (c : Nat) (way : Int) (rs : List RowN) (bs : List Nat) (ra nb : Addr) (qs : List RowN) (cs : List Nat) (B L M : Nat) : Prop where
  sm : Same H H'
  ro : H' ra = some (.lst (refsN qs))
  rn : RowsN H' qs
  ok : RowsOk c (bare qs)
  bd : ∀ x ∈ bare qs, x.2 < B
  ln : qs.length ≤ L
  no : H' nb = some (.lst (vn cs))
  cl : cs.length ≤ M
  un : way = 7 → bare qs = bare rs ∧ cs = bs
theorem Bn.same {H H' H2 : Hp} {c : Nat} {way : Int} {rs : List RowN} {bs : List Nat} {ra nb : Addr} {qs : List RowN} {cs : List Nat} {B L M : Nat} (h : Bn H H' c way rs bs ra nb qs cs B L M) (e : Same H' H2) : Bn H H2 c way rs bs ra nb qs cs B L M :=
  ⟨h.sm.trans e, e _ _ h.ro, h.rn.same e, h.ok, h.bd, h.ln, e _ _ h.no, h.cl, h.un⟩
theorem Bn.more {H H' : Hp} {c : Nat} {way : Int} {rs : List RowN} {bs : List Nat} {ra nb : Addr} {qs : List RowN} {cs : List Nat} {B B2 L L2 M M2 : Nat} (h : Bn H H' c way rs bs ra nb qs cs B L M) (h1 : B ≤ B2) (h2 : L ≤ L2) (h3 : M ≤ M2) : Bn H H' c way rs bs ra nb qs cs B2 L2 M2 :=
  ⟨h.sm, h.ro, h.rn, h.ok, fun x hx => Nat.lt_of_lt_of_le (h.bd x hx) h1, Nat.le_trans h.ln h2, h.no, Nat.le_trans h.cl h3, h.un⟩
def spBent (K : PySem.W.Frag) : Sp := fun vs H Q _ => ∃ (c k : Nat) (way seed : Int) (ra nb : Addr) (rs : List RowN) (bs : List Nat), vs = [.ref ra, .ref nb, .int way, .int seed, .int (k : Int)] ∧ k < c ∧ Bn H H c way rs bs ra nb rs bs (10 ^ 20) 32 100 ∧
  ∀ (t ra2 nb2 : Addr) (qs : List RowN) (cs : List Nat) (H' : Hp), H' t = some (.tup [.ref ra2, .ref nb2]) → Bn H H' c way rs bs ra2 nb2 qs cs (10 ^ 20 + 1) 33 101 → Q (.ref t) H'
theorem idx_pos {seed : Int} {n : Nat} (h : 0 < n) : ∃ j : Nat, seed % (n : Int) = (j : Int) ∧ j < n := by
  obtain ⟨j, ej⟩ := Int.eq_ofNat_of_zero_le (Int.emod_nonneg seed (show (n : Int) ≠ 0 by omega))
  have hj := Int.emod_lt_of_pos seed (show 0 < (n : Int) by omega)
  rw [ej] at hj
  exact ⟨j, ej, by omega⟩
section
variable {P : Program} {w : World} {K : PySem.W.Frag} {mg : Str → Option Value} {base : Heap} {f : Addr} {fd : FuncData}
abbrev nBent : List Str := ["_law_rows", "_law_numbers", "_law_way", "_law_seed", "_law_key", "_law_spot", "_law_changed"]
theorem scBent : FnScope nBent ["_law_rows", "_law_numbers", "_law_way", "_law_seed", "_law_key"] (defScope sBent) := ⟨rfl, rfl, rfl, by decide +kernel, rfl, by decide +kernel, by decide +kernel⟩
theorem ok_bent (F : Fun K "_law_bent" "_law_bent" sBent f fd) (T : Blt mg) : FnOk P w K mg base CX0 1 f fd ["_law_rows", "_law_numbers", "_law_way", "_law_seed", "_law_key"] (spBent K) := by
  refine F.ok scBent (fun vs H Q E h => ?_) (fun cdv A outer s H vs Q E hr h => ?_)
  · obtain ⟨c, k, way, seed, ra, nb, rs, bs, rfl, _⟩ := h
    rfl
  obtain ⟨c, k, way, seed, ra0, nb0, rs, bs, rfl, hk, hB0, q⟩ := h
  have hu : _ < cLine := hr.units0
  have nul : (0 : Nat) ≤ sizeLine := by decide
  have one1 : (1 : Nat) ≤ sizeLine := by decide
  have two2 : (2 : Nat) ≤ sizeLine := by decide
  obtain ⟨t6, p6, r6⟩ : ∃ tt, PSs (cxOf CX0 P w K mg base nBent "_law_bent" (defScope sBent) f cdv A outer s H E).nox ((defBody sBent).drop 6) tt ∧ ∀ (ra nb : Addr) (qs : List RowN) (cs : List Nat) (s5 s6 : Option V) (H' : Hp), Bn H H' c way rs bs ra nb qs cs (10 ^ 20 + 1) 33 101 →
      tt { nx := fun _ H' => Q .non H', rt := Q } [some (.ref ra), some (.ref nb), some (.int way), some (.int seed), some (.int (k : Int)), s5, s6] H' := by
    refine ⟨_, pss_one (ps_ret (pe_tup (pa_cons (pv 0) (pa_cons (pv 1) pa_nil)))), ?_⟩
    intro ra nb qs cs s5 s6 H' B
    exact ⟨_, rfl, _, rfl, two2, fun t ht => q t ra nb qs cs _ upd_same (B.same (Same.upd ht))⟩
  obtain ⟨t5, p5, r5⟩ : ∃ tt, PSs (cxOf CX0 P w K mg base nBent "_law_bent" (defScope sBent) f cdv A outer s H E).nox ((defBody sBent).drop 5) tt ∧ ∀ (ra nb : Addr) (qs : List RowN) (cs : List Nat) (s5 s6 : Option V) (H' : Hp), Bn H H' c way rs bs ra nb qs cs (10 ^ 20 + 1) 33 100 →
      tt { nx := fun _ H' => Q .non H', rt := Q } [some (.ref ra), some (.ref nb), some (.int way), some (.int seed), some (.int (k : Int)), s5, s6] H' := by
    refine ⟨_, pss_cons (ps_if (pt_cmpR op_eq (pv 2) pe_int (nomark _)) (pss_one (ps_set (i := 1) scBent.nd rfl (Or.inl rfl) (pe_op op_cat (pv 1) (pe_lst (pa_cons pe_int pa_nil))))) pss_nil) p6, ?_⟩
    intro ra nb qs cs s5 s6 H' B
    refine ⟨_, rfl, rfl, _, rfl, ite3 (fun e => ?_) (fun e => r6 ra nb qs cs s5 s6 H' (B.more (Nat.le_refl _) (Nat.le_refl _) (by decide)))⟩
    have ew : way = 6 := V.int.inj e
    have hcl := B.cl
    refine ⟨_, rfl, one1, fun l1 hl1 => ?_⟩
    have B1 := B.same (Same.upd (o := .lst [.int 0]) hl1)
    refine ⟨nb, l1, _, _, rfl, rfl, B1.no, upd_same, by rw [len_vn]; exact Nat.le_of_lt (small1000 (by show cs.length + 1 ≤ 1000; omega)), fun l2 hl2 => ?_⟩
    have S2 := Same.upd (o := .lst (vn cs ++ [.int 0])) hl2
    have B2 := B1.same S2
    refine r6 ra l2 qs (cs ++ [0]) s5 s6 _ ⟨B2.sm, B2.ro, B2.rn, B2.ok, B2.bd, B2.ln, by rw [upd_same, ← vn_app]; rfl, by rw [List.length_append]; show cs.length + 1 ≤ 101; omega, fun z => by omega⟩
  obtain ⟨t4, p4, r4⟩ : ∃ tt, PSs (cxOf CX0 P w K mg base nBent "_law_bent" (defScope sBent) f cdv A outer s H E).nox ((defBody sBent).drop 4) tt ∧ ∀ (ra nb : Addr) (qs : List RowN) (cs : List Nat) (s5 s6 : Option V) (H' : Hp), Bn H H' c way rs bs ra nb qs cs (10 ^ 20 + 1) 33 100 →
      tt { nx := fun _ H' => Q .non H', rt := Q } [some (.ref ra), some (.ref nb), some (.int way), some (.int seed), some (.int (k : Int)), s5, s6] H' := by
    refine ⟨_, pss_cons (ps_if (pt_cmpR op_eq (pv 2) pe_int (nomark _)) (pss_one (ps_set (i := 1) scBent.nd rfl (Or.inl rfl) (pe_slice sl_list (pv 1) (po_some pe_int) po_none))) pss_nil) p5, ?_⟩
    intro ra nb qs cs s5 s6 H' B
    refine ⟨_, rfl, rfl, _, rfl, ite3 (fun e => ?_) (fun e => r5 ra nb qs cs s5 s6 H' B)⟩
    have ew : way = 5 := V.int.inj e
    have hcl := B.cl
    refine ⟨_, rfl, _, rfl, nb, _, rfl, SqL.of B.no, fun l2 hl2 => ?_⟩
    have ec : cutV (vn cs) (some 1) none = vn (cs.drop 1) := by
      cases cs with
      | nil => rfl
      | cons a b =>
        have := cut_suf (vn (a :: b)) (j := 1) (by rw [len_vn]; simp)
        exact this.trans rfl
    rw [ec]
    have B2 := B.same (Same.upd (o := .lst (vn (cs.drop 1))) hl2)
    exact r5 ra l2 qs (cs.drop 1) s5 s6 _ ⟨B2.sm, B2.ro, B2.rn, B2.ok, B2.bd, B2.ln, upd_same, by rw [List.length_drop]; omega, fun z => by omega⟩
  obtain ⟨t3, p3, r3⟩ : ∃ tt, PSs (cxOf CX0 P w K mg base nBent "_law_bent" (defScope sBent) f cdv A outer s H E).nox ((defBody sBent).drop 3) tt ∧ ∀ (ra nb : Addr) (qs : List RowN) (cs : List Nat) (s5 s6 : Option V) (H' : Hp), Bn H H' c way rs bs ra nb qs cs (10 ^ 20 + 1) 33 100 →
      tt { nx := fun _ H' => Q .non H', rt := Q } [some (.ref ra), some (.ref nb), some (.int way), some (.int seed), some (.int (k : Int)), s5, s6] H' := by
    refine ⟨_, pss_cons (ps_if (PW.pt (pw_and (pt_cmpR op_eq (pv 2) pe_int (nomark _)) (pw_and1 (pt_cmpR (op_neLE hu) (pv 1) (pe_lst pa_nil) (nomark _)))))
      (pss_cons (ps_set (i := 5) scBent.nd rfl (Or.inl rfl) (pe_op z_mod (pv 3) (pe_callB call_len_seq rfl T.len PySem.boot_len (pa_cons (pv 1) pa_nil))))
      (pss_one (ps_set (i := 1) scBent.nd rfl (Or.inl rfl) (pe_op op_cat (pe_op op_cat (pe_slice sl_list (pv 1) po_none (po_some (pv 5))) (pe_lst (pa_cons (pe_op n_add (pe_ix ix_list (pv 1) (pv 5) (fun _ _ => rfl)) pe_int) pa_nil))) (pe_slice sl_list (pv 1) (po_some (pe_op n_add (pv 5) pe_int)) po_none))))) pss_nil) p4, ?_⟩
    intro ra nb qs cs s5 s6 H' B
    refine ⟨_, rfl, rfl, _, rfl, ite3 (fun e => ?_) (fun e => iteF (r4 ra nb qs cs s5 s6 H' B))⟩
    have ew : way = 4 := V.int.inj e
    refine ⟨_, rfl, nul, fun l0 hl0 => ?_⟩
    have B1 := B.same (Same.upd (o := .lst []) hl0)
    refine ⟨nb, l0, vn cs, rfl, rfl, SqL.of B1.no, SqL.of upd_same, _, rfl, ?_⟩
    generalize upd H' l0 (.lst []) = H1 at B1 ⊢
    by_cases hne : cs = []
    · exact iteB (by rw [hne]; rfl) (r4 ra nb qs cs s5 s6 H1 B1)
    have hpos : 0 < cs.length := List.length_pos_iff.mpr hne
    refine iteB1 (by cases cs with | nil => exact absurd rfl hne | cons a b => rfl) ?_
    have hlen := len_vn cs
    have hcl := B1.cl
    obtain ⟨j, ej, hj⟩ := idx_pos (seed := seed) (n := (vn cs).length) (by omega)
    have hjc : j < cs.length := by omega
    obtain ⟨g1, _⟩ := getD_mem hjc
    generalize cs.getD j 0 = v at g1
    refine ⟨_, rfl, _, rfl, nb, _, rfl, .inl (SqL.of B1.no), seed, (vn cs).length, j, rfl, rfl, by omega, ej, ?_⟩
    refine ⟨_, rfl, _, rfl, _, rfl, nb, _, rfl, SqL.of B1.no, fun l1 hl1 => ?_⟩
    rw [cut_pre (vn cs) (by omega)]
    have S1 := Same.upd (o := .lst ((vn cs).take j)) hl1
    have B2 := B1.same S1
    refine ⟨_, rfl, _, rfl, nb, _, _, _, rfl, rfl, SqL.of B2.no, atI_nat (vn_get g1), v, 1, v + 1, rfl, rfl, trivial, rfl, one1, fun l2 hl2 => ?_⟩
    have S2 := Same.upd (o := .lst [.int ((v + 1 : Nat) : Int)]) hl2
    have B3 := B2.same S2
    refine ⟨l1, l2, _, _, rfl, rfl, S2 _ _ upd_same, upd_same, by rw [List.length_take]; exact Nat.le_of_lt (small1000 (by show min j (vn cs).length + 1 ≤ 1000; omega)), fun l3 hl3 => ?_⟩
    have S3 := Same.upd (o := .lst ((vn cs).take j ++ [.int ((v + 1 : Nat) : Int)])) hl3
    have B4 := B3.same S3
    refine ⟨_, rfl, _, rfl, j, 1, j + 1, rfl, rfl, trivial, rfl, _, rfl, nb, _, rfl, SqL.of B4.no, fun l4 hl4 => ?_⟩
    rw [cut_suf (vn cs) (by omega)]
    have S4 := Same.upd (o := .lst ((vn cs).drop (j + 1))) hl4
    have B5 := B4.same S4
    refine ⟨l3, l4, _, _, rfl, rfl, S4 _ _ upd_same, upd_same, by rw [List.length_append, List.length_take, List.length_drop]; exact Nat.le_of_lt (small1000 (by show min j (vn cs).length + 1 + _ ≤ 1000; omega)), fun l5 hl5 => ?_⟩
    have S5 := Same.upd (o := .lst ((vn cs).take j ++ [.int ((v + 1 : Nat) : Int)] ++ (vn cs).drop (j + 1))) hl5
    have B6 := B5.same S5
    refine r4 ra l5 qs (cs.take j ++ [v + 1] ++ cs.drop (j + 1)) _ s6 _ ⟨B6.sm, B6.ro, B6.rn, B6.ok, B6.bd, B6.ln, ?_, ?_, fun z => by omega⟩
    · rw [upd_same, ← vn_app, ← vn_app]
      unfold vn
      rw [List.map_take, List.map_drop]
      rfl
    · rw [List.length_append, List.length_append, List.length_take, List.length_drop]
      show min j cs.length + 1 + (cs.length - (j + 1)) ≤ 100
      omega
  obtain ⟨t2, p2, r2⟩ : ∃ tt, PSs (cxOf CX0 P w K mg base nBent "_law_bent" (defScope sBent) f cdv A outer s H E).nox ((defBody sBent).drop 2) tt ∧ ∀ (ra nb : Addr) (qs : List RowN) (cs : List Nat) (s5 s6 : Option V) (H' : Hp), Bn H H' c way rs bs ra nb qs cs (10 ^ 20 + 1) 32 100 →
      tt { nx := fun _ H' => Q .non H', rt := Q } [some (.ref ra), some (.ref nb), some (.int way), some (.int seed), some (.int (k : Int)), s5, s6] H' := by
    refine ⟨_, pss_cons (ps_if (PW.pt (pw_and (pt_cmpR op_eq (pv 2) pe_int (nomark _)) (pw_and1 (pt_cmpR op_notIn_seq (pv 4) (pe_comp (cl := []) (N := ["_law_row"]) (fr := [none]) rfl (block_none rfl (by decide +kernel) (by decide +kernel) (by show ∀ p ∈ relS _ (defScope sBent), _; decide +kernel)) rfl trivial
        (pi_list (pv 0)) (fun _ _ _ _ _ => pg_name (i := 0) (show (["_law_row"] : List Str).Nodup by decide) rfl (Or.inl rfl)) (fun _ _ _ _ _ => pifs_nil) (fun _ _ _ _ _ => pe_ix ix_tupK (pv 0) pe_int (fun _ _ => rfl))) rfl))))
      (pss_one (ps_set (i := 0) scBent.nd rfl (Or.inl rfl) (pe_op op_cat (pv 0) (pe_lst (pa_cons (pe_tup (pa_cons (pv 4) (pa_cons (pe_op z_mod (pv 3) pe_int) pa_nil))) pa_nil))))) pss_nil) p3, ?_⟩
    intro ra nb qs cs s5 s6 H' B
    refine ⟨_, rfl, rfl, _, rfl, ite3 (fun e => ?_) (fun e => iteF (r3 ra nb qs cs s5 s6 H' (B.more (Nat.le_refl _) (by decide) (Nat.le_refl _))))⟩
    have ew : way = 3 := V.int.inj e
    have hql := B.ln
    refine ⟨_, rfl, ?_⟩
    refine comp_listV (a := ra) (xs := refsN qs) ?_ (SqL.of B.ro) qs.length (by omega) (fun i ys τ H5 => H5 = H' ∧ ∃ t0 : Option V, τ = [t0] ∧ ys = vn (keysN (qs.take i))) ?_ ?_ ?_ ?_
    · rfl
    · exact ⟨rfl, _, rfl, rfl⟩
    · rintro i ys τ H5 ⟨_, _, _, rfl⟩
      rw [len_vn]
      unfold keysN
      rw [List.length_map, List.length_take]
      omega
    · rintro i ys τ H5 hi ⟨rfl, t0, rfl, rfl⟩
      have hei : qs[i]? = some qs[i] := List.getElem?_eq_getElem hi
      have hem : qs[i] ∈ qs := List.getElem_mem hi
      generalize qs[i] = x at hei hem
      refine ⟨⟨_, _, SqL.of B.ro, refs_at hei⟩, fun y H6 hy => ?_⟩
      obtain ⟨e1, e2⟩ := hy
      have e3 : y = .ref x.1 := by
        have := e2 _ (SqL.of B.ro)
        rw [refs_at hei] at this
        exact (Option.some.inj this).symm
      subst e1 e3
      refine gName_go ?_
      refine tYes_if ?_
      refine ⟨_, rfl, x.1, _, _, _, rfl, rfl, SqT.of (B.rn x hem), atI_nat (j := 0) rfl, rfl, _, rfl, ?_⟩
      rw [take_one hei]
      unfold keysN
      rw [List.map_append, ← vn_app]
      rfl
    · rintro ys τ H5 ⟨rfl, t0, rfl, rfl⟩
      refine ⟨⟨_, SqL.of B.ro, by rw [len_refs]; exact Nat.le_refl _⟩, fun l0 hl0 => ?_⟩
      rw [List.take_length]
      have B1 := B.same (Same.upd (o := .lst (vn (keysN qs))) hl0)
      refine ⟨l0, _, rfl, .inl (SqL.of upd_same), rfl, flat_vn _, _, rfl, ?_⟩
      have hin : (if true = true then !inV (.int (k : Int)) (vn (keysN qs)) else inV (.int (k : Int)) (vn (keysN qs))) = decide (k ∉ keysN qs) := by
        rw [if_pos rfl, inV_vn]
        by_cases z : k ∈ keysN qs <;> simp [z]
      rw [hin]
      generalize upd H5 l0 (.lst (vn (keysN qs))) = H1 at B1 ⊢
      refine ite3 (fun e2 => ?_) (fun e2 => r3 ra nb qs cs s5 s6 H1 (B1.more (Nat.le_refl _) (by decide) (Nat.le_refl _)))
      obtain ⟨v, ev, hv⟩ := idx_pos (seed := seed) (n := 3) (by decide)
      refine ⟨_, rfl, _, rfl, _, rfl, seed, 3, v, rfl, rfl, by decide, ev, two2, fun t ht => ⟨one1, fun l1 hl1 => ?_⟩⟩
      have St := Same.upd (o := .tup [.int (k : Int), .int (v : Int)]) ht
      have Sl := Same.upd (o := .lst [.ref t]) hl1
      have B2 := B1.same (St.trans Sl)
      have ht2 := Sl _ _ (upd_same (H := H1) (a := t) (o := .tup [.int (k : Int), .int (v : Int)]))
      refine ⟨ra, l1, _, _, rfl, rfl, B2.ro, upd_same, by rw [len_refs]; exact Nat.le_of_lt (small1000 (by show qs.length + 1 ≤ 1000; omega)), fun l2 hl2 => ?_⟩
      have S2 := Same.upd (o := .lst (refsN qs ++ [.ref t])) hl2
      have B3 := B2.same S2
      refine r3 l2 nb (qs ++ [(t, k, v)]) cs s5 s6 _ ⟨B3.sm, ?_, fun x hx => ?_, RowsOk.snoc B3.ok hk e2, fun x hx => ?_, ?_, B3.no, B3.cl, fun z => by omega⟩
      · rw [upd_same, ← refs_app]; rfl
      · rcases List.mem_append.mp hx with z | z
        · exact B3.rn x z
        · rw [List.mem_singleton.mp z]; exact S2 _ _ ht2
      · rw [bare_app] at hx
        rcases List.mem_append.mp hx with z | z
        · exact B3.bd x z
        · have ex : x = (k, v) := List.mem_singleton.mp z
          rw [ex]
          exact Nat.lt_of_lt_of_le hv (by decide)
      · rw [List.length_append]; show qs.length + 1 ≤ 33; omega
  obtain ⟨t1, p1, r1⟩ : ∃ tt, PSs (cxOf CX0 P w K mg base nBent "_law_bent" (defScope sBent) f cdv A outer s H E).nox ((defBody sBent).drop 1) tt ∧ ∀ (ra nb : Addr) (qs : List RowN) (cs : List Nat) (s5 s6 : Option V) (H' : Hp), Bn H H' c way rs bs ra nb qs cs (10 ^ 20) 32 100 →
      tt { nx := fun _ H' => Q .non H', rt := Q } [some (.ref ra), some (.ref nb), some (.int way), some (.int seed), some (.int (k : Int)), s5, s6] H' := by
    refine ⟨_, pss_cons (ps_if (PW.pt (pw_and (pt_cmpR op_eq (pv 2) pe_int (nomark _)) (pw_and1 (pt_cmpR (op_neLE hu) (pv 0) (pe_lst pa_nil) (nomark _)))))
      (pss_cons (ps_set (i := 5) scBent.nd rfl (Or.inl rfl) (pe_op z_mod (pv 3) (pe_callB call_len_seq rfl T.len PySem.boot_len (pa_cons (pv 0) pa_nil))))
      (pss_cons (ps_set (i := 6) scBent.nd rfl (Or.inl rfl) (pe_tup (pa_cons (pe_ix ix_tup (pe_ix ix_list (pv 0) (pv 5) (fun _ _ => rfl)) pe_int (fun _ _ => rfl)) (pa_cons (pe_op n_add (pe_ix ix_tup (pe_ix ix_list (pv 0) (pv 5) (fun _ _ => rfl)) pe_int (fun _ _ => rfl)) pe_int) pa_nil))))
      (pss_one (ps_set (i := 0) scBent.nd rfl (Or.inl rfl) (pe_op op_cat (pe_op op_cat (pe_slice sl_list (pv 0) po_none (po_some (pv 5))) (pe_lst (pa_cons (pv 6) pa_nil))) (pe_slice sl_list (pv 0) (po_some (pe_op n_add (pv 5) pe_int)) po_none)))))) pss_nil) p2, ?_⟩
    intro ra nb qs cs s5 s6 H' B
    have up0 : ∀ H1, Bn H H1 c way rs bs ra nb qs cs (10 ^ 20) 32 100 → Bn H H1 c way rs bs ra nb qs cs (10 ^ 20 + 1) 32 100 := fun H1 b => b.more (Nat.le_succ _) (Nat.le_refl _) (Nat.le_refl _)
    refine ⟨_, rfl, rfl, _, rfl, ite3 (fun e => ?_) (fun e => iteF (r2 ra nb qs cs s5 s6 H' (up0 _ B)))⟩
    have ew : way = 2 := V.int.inj e
    refine ⟨_, rfl, nul, fun l0 hl0 => ?_⟩
    have B1 := B.same (Same.upd (o := .lst []) hl0)
    refine ⟨ra, l0, refsN qs, rfl, rfl, SqL.of B1.ro, SqL.of upd_same, _, rfl, ?_⟩
    generalize upd H' l0 (.lst []) = H1 at B1 ⊢
    by_cases hne : qs = []
    · exact iteB (by rw [hne]; rfl) (r2 ra nb qs cs s5 s6 H1 (up0 _ B1))
    have hpos : 0 < qs.length := List.length_pos_iff.mpr hne
    refine iteB1 (by cases qs with | nil => exact absurd rfl hne | cons a b => rfl) ?_
    have hlen := len_refs qs
    have hql := B1.ln
    obtain ⟨j, ej, hj⟩ := idx_pos (seed := seed) (n := (refsN qs).length) (by omega)
    have hjc : j < qs.length := by omega
    have hei : qs[j]? = some qs[j] := List.getElem?_eq_getElem hjc
    have hem : qs[j] ∈ qs := List.getElem_mem hjc
    generalize hv : qs[j] = v at hei hem
    refine ⟨_, rfl, _, rfl, ra, _, rfl, .inl (SqL.of B1.ro), seed, (refsN qs).length, j, rfl, rfl, by omega, ej, ?_⟩
    refine ⟨_, rfl, _, rfl, ra, _, _, _, rfl, rfl, SqL.of B1.ro, atI_nat (refs_at hei), v.1, _, _, _, rfl, rfl, SqT.of (B1.rn v hem), atI_nat (j := 0) rfl, ?_⟩
    refine ⟨_, rfl, _, rfl, ra, _, _, _, rfl, rfl, SqL.of B1.ro, atI_nat (refs_at hei), v.1, _, _, _, rfl, rfl, SqT.of (B1.rn v hem), atI_nat (j := 1) rfl, v.2.2, 1, v.2.2 + 1, rfl, rfl, trivial, rfl, two2, fun t ht => ?_⟩
    have St := Same.upd (o := .tup [.int (v.2.1 : Int), .int ((v.2.2 + 1 : Nat) : Int)]) ht
    have B2 := B1.same St
    have ht2 : (upd H1 t (.tup [.int (v.2.1 : Int), .int ((v.2.2 + 1 : Nat) : Int)])) t = some (.tup [.int (v.2.1 : Int), .int ((v.2.2 + 1 : Nat) : Int)]) := upd_same
    generalize upd H1 t (.tup [.int (v.2.1 : Int), .int ((v.2.2 + 1 : Nat) : Int)]) = H2 at B2 ht2 ⊢
    refine ⟨_, rfl, _, rfl, _, rfl, ra, _, rfl, SqL.of B2.ro, fun l1 hl1 => ?_⟩
    rw [cut_pre (refsN qs) (by omega)]
    have S1 := Same.upd (o := .lst ((refsN qs).take j)) hl1
    have B3 := B2.same S1
    refine ⟨_, rfl, one1, fun l2 hl2 => ?_⟩
    have S2 := Same.upd (o := .lst [.ref t]) hl2
    have B4 := B3.same S2
    refine ⟨l1, l2, _, _, rfl, rfl, S2 _ _ upd_same, upd_same, by rw [List.length_take]; exact Nat.le_of_lt (small1000 (by show min j (refsN qs).length + 1 ≤ 1000; omega)), fun l3 hl3 => ?_⟩
    have S3 := Same.upd (o := .lst ((refsN qs).take j ++ [.ref t])) hl3
    have B5 := B4.same S3
    refine ⟨_, rfl, _, rfl, j, 1, j + 1, rfl, rfl, trivial, rfl, _, rfl, ra, _, rfl, SqL.of B5.ro, fun l4 hl4 => ?_⟩
    rw [cut_suf (refsN qs) (by omega)]
    have S4 := Same.upd (o := .lst ((refsN qs).drop (j + 1))) hl4
    have B6 := B5.same S4
    refine ⟨l3, l4, _, _, rfl, rfl, S4 _ _ upd_same, upd_same, by rw [List.length_append, List.length_take, List.length_drop]; exact Nat.le_of_lt (small1000 (by show min j (refsN qs).length + 1 + _ ≤ 1000; omega)), fun l5 hl5 => ?_⟩
    have S5 := Same.upd (o := .lst ((refsN qs).take j ++ [.ref t] ++ (refsN qs).drop (j + 1))) hl5
    have B7 := B6.same S5
    have ht7 := S5 _ _ (S4 _ _ (S3 _ _ (S2 _ _ (S1 _ _ ht2))))
    have es : qs.set j (t, v.2.1, v.2.2 + 1) = qs.take j ++ [(t, v.2.1, v.2.2 + 1)] ++ qs.drop (j + 1) := by
      rw [List.set_eq_take_append_cons_drop, if_pos hjc, List.append_assoc]
      rfl
    refine r2 l5 nb (qs.set j (t, v.2.1, v.2.2 + 1)) cs _ _ _ ⟨B7.sm, ?_, fun x hx => ?_, RowsOk.set B7.ok hei, fun x hx => ?_, by rw [List.length_set]; exact B7.ln, B7.no, B7.cl, fun z => by omega⟩
    · rw [upd_same, es, ← refs_app, ← refs_app]
      unfold refsN
      rw [List.map_take, List.map_drop]
      rfl
    · rcases List.mem_or_eq_of_mem_set hx with z | z
      · exact B7.rn x z
      · rw [z]; exact ht7
    · rcases mem_set_row hx with z | z
      · exact Nat.lt_succ_of_lt (B7.bd x z)
      · rw [z]
        have := B7.bd v.2 (List.mem_map.mpr ⟨v, hem, rfl⟩)
        show v.2.2 + 1 < _
        omega
  refine ⟨_, pss_cons (ps_if (PW.pt (pw_and (pt_cmpR op_eq (pv 2) pe_int (nomark _)) (pw_and1 (pt_cmpR (op_neLE hu) (pv 0) (pe_lst pa_nil) (nomark _)))))
    (pss_cons (ps_set (i := 5) scBent.nd rfl (Or.inl rfl) (pe_op z_mod (pv 3) (pe_callB call_len_seq rfl T.len PySem.boot_len (pa_cons (pv 0) pa_nil))))
    (pss_one (ps_set (i := 0) scBent.nd rfl (Or.inl rfl) (pe_op op_cat (pe_slice sl_list (pv 0) po_none (po_some (pv 5))) (pe_slice sl_list (pv 0) (po_some (pe_op n_add (pv 5) pe_int)) po_none))))) pss_nil) p1, ?_⟩
  refine ⟨_, rfl, rfl, _, rfl, ite3 (fun e => ?_) (fun e => iteF (r1 ra0 nb0 rs bs none none H hB0))⟩
  have ew : way = 1 := V.int.inj e
  refine ⟨_, rfl, nul, fun l0 hl0 => ?_⟩
  have B1 := hB0.same (Same.upd (o := .lst []) hl0)
  refine ⟨ra0, l0, refsN rs, rfl, rfl, SqL.of B1.ro, SqL.of upd_same, _, rfl, ?_⟩
  generalize upd H l0 (.lst []) = H1 at B1 ⊢
  by_cases hne : rs = []
  · exact iteB (by rw [hne]; rfl) (r1 ra0 nb0 rs bs none none H1 B1)
  have hpos : 0 < rs.length := List.length_pos_iff.mpr hne
  refine iteB1 (by cases rs with | nil => exact absurd rfl hne | cons a b => rfl) ?_
  have hlen := len_refs rs
  have hql := B1.ln
  obtain ⟨j, ej, hj⟩ := idx_pos (seed := seed) (n := (refsN rs).length) (by omega)
  have hjc : j < rs.length := by omega
  refine ⟨_, rfl, _, rfl, ra0, _, rfl, .inl (SqL.of B1.ro), seed, (refsN rs).length, j, rfl, rfl, by omega, ej, ?_⟩
  refine ⟨_, rfl, _, rfl, _, rfl, ra0, _, rfl, SqL.of B1.ro, fun l1 hl1 => ?_⟩
  rw [cut_pre (refsN rs) (by omega)]
  have S1 := Same.upd (o := .lst ((refsN rs).take j)) hl1
  have B2 := B1.same S1
  refine ⟨_, rfl, _, rfl, j, 1, j + 1, rfl, rfl, trivial, rfl, _, rfl, ra0, _, rfl, SqL.of B2.ro, fun l2 hl2 => ?_⟩
  rw [cut_suf (refsN rs) (by omega)]
  have S2 := Same.upd (o := .lst ((refsN rs).drop (j + 1))) hl2
  have B3 := B2.same S2
  refine ⟨l1, l2, _, _, rfl, rfl, S2 _ _ upd_same, upd_same, by rw [List.length_take, List.length_drop]; exact Nat.le_of_lt (small1000 (by omega)), fun l3 hl3 => ?_⟩
  have B4 := B3.same (Same.upd (o := .lst ((refsN rs).take j ++ (refsN rs).drop (j + 1))) hl3)
  have es : rs.eraseIdx j = rs.take j ++ rs.drop (j + 1) := List.eraseIdx_eq_take_drop_succ rs j
  have sub : (bare (rs.eraseIdx j)).Sublist (bare rs) := (erase_sub rs j).map _
  refine r1 l3 nb0 (rs.eraseIdx j) bs _ _ _ ⟨B4.sm, ?_, fun x hx => B4.rn x ((erase_sub rs j).subset hx), B4.ok.sub sub, fun x hx => B4.bd x (sub.subset hx), Nat.le_trans (erase_sub rs j).length_le B4.ln, B4.no, B4.cl, fun z => by omega⟩
  rw [upd_same, es, ← refs_app]
  unfold refsN
  rw [List.map_take, List.map_drop]
end
end Ts
namespace Ts
open PySem L2
def innerOf (rs : List RowN) (fi l : Nat) : List RowN := rs.filter fun r => decide (fi ≤ r.2.1) && decide (r.2.1 ≤ l)
theorem inner_snoc (rs : List RowN) (r : RowN) (fi l : Nat) : innerOf (rs ++ [r]) fi l = if fi ≤ r.2.1 ∧ r.2.1 ≤ l then innerOf rs fi l ++ [r] else innerOf rs fi l := by
  unfold innerOf
  rw [List.filter_append]
  by_cases h : fi ≤ r.2.1 ∧ r.2.1 ≤ l
  · rw [if_pos h]; simp [h.1, h.2]
  · rw [if_neg h]
    have : (decide (fi ≤ r.2.1) && decide (r.2.1 ≤ l)) = false := by
      rw [← Bool.decide_and]
      exact decide_eq_false h
    simp [this]
theorem mem_inner {rs : List RowN} {fi l : Nat} {r : RowN} : r ∈ innerOf rs fi l ↔ r ∈ rs ∧ fi ≤ r.2.1 ∧ r.2.1 ≤ l := by
  unfold innerOf
  rw [List.mem_filter]
  simp
theorem mem_bare_inner {rs : List RowN} {fi l k v : Nat} : (k, v) ∈ bare (innerOf rs fi l) ↔ (k, v) ∈ bare rs ∧ fi ≤ k ∧ k ≤ l := by
  constructor
  · intro h
    obtain ⟨r, hr, e⟩ := List.mem_map.mp h
    obtain ⟨h1, h2⟩ := mem_inner.mp hr
    rw [e] at h2
    exact ⟨List.mem_map.mpr ⟨r, h1, e⟩, h2⟩
  · rintro ⟨h, hk⟩
    obtain ⟨r, hr, e⟩ := List.mem_map.mp h
    exact List.mem_map.mpr ⟨r, mem_inner.mpr ⟨hr, by rw [e]; exact hk⟩, e⟩
theorem inner_sub (rs : List RowN) (fi l : Nat) : (bare (innerOf rs fi l)).Sublist (bare rs) := List.Sublist.map _ List.filter_sublist
theorem len_inner (rs : List RowN) (fi l : Nat) : (innerOf rs fi l).length ≤ rs.length := List.length_filter_le _ _
/-- the same number at a place, by the rows there -/
theorem leaves_at {c k : Nat} {r1 r2 : List Row} (R1 : RowsOk c r1) (R2 : RowsOk c r2) (hk : k < c) (h : ∀ v, (k, v) ∈ r1 ↔ (k, v) ∈ r2) : (leaves c r1)[k]? = (leaves c r2)[k]? := by
  have e1 : (leaves c r1)[k]? = some ((leaves c r1).getD k 0) := (getD_mem (by rw [len_leaves]; exact hk)).1
  have e2 : (leaves c r2)[k]? = some ((leaves c r2).getD k 0) := (getD_mem (by rw [len_leaves]; exact hk)).1
  rw [e1, e2]
  congr 1
  cases a : (leaves c r1).getD k 0 with
  | succ v =>
    rw [a] at e1
    have := (leaves_get R2).mpr ((h v).mp ((leaves_get R1).mp e1))
    rw [e2] at this
    exact (Option.some.inj this).symm
  | zero =>
    cases b : (leaves c r2).getD k 0 with
    | zero => rfl
    | succ v =>
      rw [b] at e2
      have := (leaves_get R1).mpr ((h v).mpr ((leaves_get R2).mp e2))
      rw [e1, a] at this
      cases this
theorem sl_same {c fi l : Nat} {r1 r2 : List Row} (hl : l < c) (hfl : fi ≤ l) : sl (leaves c r1) fi l = sl (leaves c r2) fi l ↔ ∀ k, fi ≤ k → k ≤ l → (leaves c r1)[k]? = (leaves c r2)[k]? := by
  constructor
  · intro h k h1 h2
    have e : (sl (leaves c r1) fi l)[k - fi]? = (sl (leaves c r2) fi l)[k - fi]? := by rw [h]
    rw [sl_get (by omega), sl_get (by omega), show fi + (k - fi) = k by omega] at e
    exact e
  · intro h
    apply List.ext_getElem?
    intro j
    by_cases hj : j < l + 1 - fi
    · rw [sl_get hj, sl_get hj]
      exact h (fi + j) (by omega) (by omega)
    · rw [List.getElem?_eq_none (by rw [len_sl (by rw [len_leaves]; exact hl) hfl]; omega), List.getElem?_eq_none (by rw [len_sl (by rw [len_leaves]; exact hl) hfl]; omega)]
def SpanOk (d c fi l : Nat) (gs : List RowN) (bs : List Nat) (t : Int) : Prop := bs.length = (partsP d fi l).length ∧ (∀ r ∈ bare gs, fi ≤ r.1 ∧ r.1 ≤ l) ∧ ∃ out : Prt → Nat, (∀ (j : Nat) (p : Prt) (b : Nat), (partsP d fi l)[j]? = some p → bs[j]? = some b → out p = b) ∧ ∃ n : Nat, upW out fi l (sl (leaves c (bare gs)) fi l) d = [n] ∧ (n : Int) = t
section
variable {d c fi l : Nat} {rs gs : List RowN} {bs : List Nat} (hc : c = 2 ^ d) (hfl : fi ≤ l) (hl : l < c) (R : RowsOk c (bare rs)) (G : RowsOk c (bare gs))
include hc hfl hl R G
theorem span_own : SpanOk d c fi l gs bs ((topN d (leaves c (bare rs)) : Nat) : Int) ↔ (∀ r, r ∈ bare gs ↔ r ∈ bare (innerOf rs fi l)) ∧ bs = (partsP d fi l).map (numAt (leaves c (bare rs))) := by
  have hx : (leaves c (bare rs)).length = 2 ^ d := by rw [len_leaves, hc]
  have hw : (sl (leaves c (bare gs)) fi l).length = l + 1 - fi := len_sl (by rw [len_leaves]; exact hl) hfl
  have hl2 : l < 2 ^ d := by rw [← hc]; exact hl
  constructor
  · rintro ⟨h1, h2, out, h3, n, h4, h5⟩
    have e : n = topN d (leaves c (bare rs)) := by omega
    rw [e] at h4
    obtain ⟨s1, s2⟩ := (span_iff d fi l out _ _ hx hfl hl2 hw).mp h4
    refine ⟨fun r => ?_, (good_iff hfl h1 h3).mp s2⟩
    obtain ⟨k, v⟩ := r
    rw [mem_bare_inner]
    have at1 := (sl_same hl hfl).mp s1
    constructor
    · intro hr
      obtain ⟨k1, k2⟩ := h2 _ hr
      refine ⟨?_, k1, k2⟩
      have := (leaves_get G).mpr hr
      rw [at1 k k1 k2] at this
      exact (leaves_get R).mp this
    · rintro ⟨hr, k1, k2⟩
      have := (leaves_get R).mpr hr
      rw [← at1 k k1 k2] at this
      exact (leaves_get G).mp this
  · rintro ⟨h1, h2⟩
    refine ⟨by rw [h2, List.length_map], fun r hr => ?_, numAt (leaves c (bare rs)), fun j p b a1 a2 => ?_, _, ?_, rfl⟩
    · obtain ⟨k, v⟩ := r
      exact (mem_bare_inner.mp ((h1 _).mp hr)).2
    · rw [h2, List.getElem?_map, a1] at a2
      exact Option.some.inj a2
    · refine (span_iff d fi l _ _ _ hx hfl hl2 hw).mpr ⟨(sl_same hl hfl).mpr fun k k1 k2 => ?_, fun i hi => ⟨fun _ => rfl, fun _ => rfl⟩⟩
      refine leaves_at G R (by omega) fun v => ?_
      rw [h1, mem_bare_inner]
      exact ⟨fun z => z.1, fun z => ⟨z, k1, k2⟩⟩
theorem span_else {t : Int} (ht : t ≠ ((topN d (leaves c (bare rs)) : Nat) : Int)) (h1 : bare gs = bare (innerOf rs fi l)) (h2 : bs = (partsP d fi l).map (numAt (leaves c (bare rs)))) : ¬ SpanOk d c fi l gs bs t := by
  rintro ⟨a1, a2, out, a3, n, a4, a5⟩
  have hx : (leaves c (bare rs)).length = 2 ^ d := by rw [len_leaves, hc]
  have hw : (sl (leaves c (bare gs)) fi l).length = l + 1 - fi := len_sl (by rw [len_leaves]; exact hl) hfl
  have hl2 : l < 2 ^ d := by rw [← hc]; exact hl
  have good := (good_iff (xs := leaves c (bare rs)) hfl a1 a3).mpr h2
  have e := (span_iff d fi l out (leaves c (bare rs)) _ hx hfl hl2 hw).mpr ⟨(sl_same hl hfl).mpr fun k k1 k2 => leaves_at G R (by omega) fun v => by
    rw [h1, mem_bare_inner]
    exact ⟨fun z => z.1, fun z => ⟨z, k1, k2⟩⟩, good⟩
  rw [e] at a4
  exact ht (by rw [← a5, (List.cons.inj a4).1])
end
/-- what the law holds -/
structure Cor6 (H : Hp) (p r lv u : Addr) (ls : List Addr) (z : Addr) (ns : List Int) (d c fi l : Nat) (rs : List RowN) : Prop where
  sc : H p = some (.lst (ns.map V.int))
  ro : H r = some (.lst (refsN rs))
  rn : RowsN H rs
  ok : RowsOk c (bare rs)
  bd : ∀ r ∈ bare rs, r.2 < 10 ^ 20
  l32 : rs.length ≤ 32
  le : H lv = some (.lst ((ls ++ [z]).map V.ref))
  ll : ls.length = d
  la : LevelsAt H (leaves c (bare rs)) (ls ++ [z])
  hz : H z = some (.lst [.int ((topN d (leaves c (bare rs)) : Nat) : Int)])
  du : H u = some (.lst (vn ((partsP d fi l).map (numAt (leaves c (bare rs))))))
  hd : d ≤ 8
  hc : c = 2 ^ d
  hfl : fi ≤ l
  hl : l < c
theorem LevelsAt.same6 {H H' : Hp} {xs : List Nat} {ls : List Addr} (h : LevelsAt H xs ls) (e : Same H H') : LevelsAt H' xs ls := fun j hj => by
  obtain ⟨q, h1, h2⟩ := h j hj
  exact ⟨q, h1, e _ _ h2⟩
theorem Cor6.same {H H' : Hp} {p r lv u : Addr} {ls : List Addr} {z : Addr} {ns : List Int} {d c fi l : Nat} {rs : List RowN} (m : Cor6 H p r lv u ls z ns d c fi l rs) (e : Same H H') : Cor6 H' p r lv u ls z ns d c fi l rs :=
  ⟨e _ _ m.sc, e _ _ m.ro, m.rn.same e, m.ok, m.bd, m.l32, e _ _ m.le, m.ll, m.la.same6 e, e _ _ m.hz, e _ _ m.du, m.hd, m.hc, m.hfl, m.hl⟩
section
variable {H : Hp} {p r lv u : Addr} {ls : List Addr} {z : Addr} {ns : List Int} {d c fi l : Nat} {rs : List RowN}
theorem Cor6.b67 (m : Cor6 H p r lv u ls z ns d c fi l rs) : ∀ x ∈ bare rs, x.2 + 1 < 2 ^ 67 := fun x hx => by
  have := m.bd x hx
  have e20 : (10 : Nat) ^ 20 < 2 ^ 67 - 1 := by decide
  omega
theorem Cor6.xl (m : Cor6 H p r lv u ls z ns d c fi l rs) : (leaves c (bare rs)).length = 2 ^ d := by rw [len_leaves, m.hc]
theorem Cor6.xb (m : Cor6 H p r lv u ls z ns d c fi l rs) : ∀ x ∈ leaves c (bare rs), x < 2 ^ 67 := leaves_lt (by decide) m.b67
theorem Cor6.last (m : Cor6 H p r lv u ls z ns d c fi l rs) : atI ((ls ++ [z]).map V.ref) (-1) = some (.ref z) := by rw [refs_last]; exact atI_last _ _
end
theorem Stk.ints6 {H : Hp} : ∀ bs : List Nat, Stk H bs.length (vn bs) (vn bs) := by
  intro bs
  induction bs with
  | nil => exact .nil
  | cons b r ih =>
    have one : Stk H 1 [V.int (b : Int)] [V.int (b : Int)] := .flat .nil (.inl ⟨_, rfl⟩)
    have := Stk.app one ih
    rw [Nat.add_comm] at this
    exact this
theorem eqVs_vn6 : ∀ xs ys : List Nat, eqVs (vn xs) (vn ys) = decide (xs = ys)
  | [], [] => rfl
  | [], _ :: _ => rfl
  | _ :: _, [] => rfl
  | x :: xs, y :: ys => by
    show (((x : Int) == (y : Int)) && eqVs (vn xs) (vn ys)) = _
    rw [eqVs_vn6 xs ys]
    by_cases h : x = y
    · subst h; simp
    · have h2 : ((x : Int) == (y : Int)) = false := beq_eq_false_iff_ne.mpr (by omega)
      rw [h2]
      simp [h]
end Ts
namespace Ts
open PySem L2
section
variable {P : Program} {w : World} {K : PySem.W.Frag} {mg : Str → Option Value} {base : Heap} {f : Addr} {fd : FuncData}
abbrev nLaw : List Str := ["_law_script", "_law_depth", "_law_count", "_law_rows", "_law_levels", "_law_first", "_law_last", "_law_due", "_law_rows_given", "_law_found", "_law_inner", "_law_way", "_law_key", "_law_given", "_law_numbers", "_law_top", "_law_handed", "_law_told"]
theorem scLaw : FnScope nLaw ["_law_script"] (defScope sLaw) := ⟨rfl, rfl, rfl, by decide +kernel, rfl, by decide +kernel, by decide +kernel⟩
def St10 (P : Program) (w : World) (K : PySem.W.Frag) (mg : Str → Option Value) (base : Heap) (f : Addr) (cdv : Value) (A : Around) (outer : List Env) (s : Shared) (H : Hp) (Q : VK) (E : XK) (ns : List Int) : Prop := ∃ tt, PSs (cxOf CX0 P w K mg base nLaw "law" (defScope sLaw) f cdv A outer s H E).nox ((defBody sLaw).drop 10) tt ∧ ∀ (p r lv u : Addr) (ls : List Addr) (z : Addr) (d c fi l : Nat) (rs : List RowN) (ga fo : Addr) (H' : Hp), Cor6 H' p r lv u ls z ns d c fi l rs → H' ga = some (.lst (refsN rs)) → H' fo = some (.lst (vn ((partsP d fi l).map (numAt (leaves c (bare rs)))))) → tt { nx := fun _ H' => Q .non H', rt := Q } [some (.ref p), some (.int (d : Int)), some (.int (c : Int)), some (.ref r), some (.ref lv), some (.int (fi : Int)), some (.int (l : Int)), some (.ref u), some (.ref ga), some (.ref fo), none, none, none, none, none, none, none, none] H'
def St12 (P : Program) (w : World) (K : PySem.W.Frag) (mg : Str → Option Value) (base : Heap) (f : Addr) (cdv : Value) (A : Around) (outer : List Env) (s : Shared) (H : Hp) (Q : VK) (E : XK) (ns : List Int) : Prop := ∃ tt, PSs (cxOf CX0 P w K mg base nLaw "law" (defScope sLaw) f cdv A outer s H E).nox ((defBody sLaw).drop 12) tt ∧ ∀ (p r lv u : Addr) (ls : List Addr) (z : Addr) (d c fi l : Nat) (rs : List RowN) (s8 s9 : Option V) (ia : Addr) (H' : Hp), Cor6 H' p r lv u ls z ns d c fi l rs → H' ia = some (.lst (refsN (innerOf rs fi l))) →  tt { nx := fun _ H' => Q .non H', rt := Q } [some (.ref p), some (.int (d : Int)), some (.int (c : Int)), some (.ref r), some (.ref lv), some (.int (fi : Int)), some (.int (l : Int)), some (.ref u), s8, s9, some (.ref ia), none, none, none, none, none, none, none] H'
def St15 (P : Program) (w : World) (K : PySem.W.Frag) (mg : Str → Option Value) (base : Heap) (f : Addr) (cdv : Value) (A : Around) (outer : List Env) (s : Shared) (H : Hp) (Q : VK) (E : XK) (ns : List Int) : Prop := ∃ tt, PSs (cxOf CX0 P w K mg base nLaw "law" (defScope sLaw) f cdv A outer s H E).nox ((defBody sLaw).drop 15) tt ∧ ∀ (p r lv u : Addr) (ls : List Addr) (z : Addr) (d c fi l : Nat) (rs : List RowN) (s8 s9 s12 : Option V) (ia ga nb : Addr) (gs : List RowN) (cs : List Nat) (way : Int) (H' : Hp), Cor6 H' p r lv u ls z ns d c fi l rs → H' ia = some (.lst (refsN (innerOf rs fi l))) → H' ga = some (.lst (refsN gs)) → RowsN H' gs → RowsOk c (bare gs) → gs.length ≤ 33 → H' nb = some (.lst (vn cs)) → cs.length ≤ 101 → (way = 7 → bare gs = bare (innerOf rs fi l) ∧ cs = (partsP d fi l).map (numAt (leaves c (bare rs)))) → tt { nx := fun _ H' => Q .non H', rt := Q } [some (.ref p), some (.int (d : Int)), some (.int (c : Int)), some (.ref r), some (.ref lv), some (.int (fi : Int)), some (.int (l : Int)), some (.ref u), s8, s9, some (.ref ia), some (.int way), s12, some (.ref ga), some (.ref nb), none, none, none] H'
def St19 (P : Program) (w : World) (K : PySem.W.Frag) (mg : Str → Option Value) (base : Heap) (f : Addr) (cdv : Value) (A : Around) (outer : List Env) (s : Shared) (H : Hp) (Q : VK) (E : XK) (ns : List Int) : Prop := ∃ tt, PSs (cxOf CX0 P w K mg base nLaw "law" (defScope sLaw) f cdv A outer s H E).nox ((defBody sLaw).drop 19) tt ∧ ∀ (p r lv u : Addr) (ls : List Addr) (z : Addr) (d c fi l : Nat) (rs : List RowN) (s8 s9 s12 s15 s16 : Option V) (ia ga nb : Addr) (gs : List RowN) (cs : List Nat) (way : Int) (b : Bool) (H' : Hp), Cor6 H' p r lv u ls z ns d c fi l rs → H' ia = some (.lst (refsN (innerOf rs fi l))) → H' ga = some (.lst (refsN gs)) → RowsN H' gs → RowsOk c (bare gs) → gs.length ≤ 33 → H' nb = some (.lst (vn cs)) → (b = true ↔ (∀ r, r ∈ bare gs ↔ r ∈ bare (innerOf rs fi l)) ∧ cs = (partsP d fi l).map (numAt (leaves c (bare rs))) ∧ way ≠ 7) → tt { nx := fun _ H' => Q .non H', rt := Q } [some (.ref p), some (.int (d : Int)), some (.int (c : Int)), some (.ref r), some (.ref lv), some (.int (fi : Int)), some (.int (l : Int)), some (.ref u), s8, s9, some (.ref ia), some (.int way), s12, some (.ref ga), some (.ref nb), s15, s16, some (.bl b)] H'
theorem tail19 (T : Blt mg) (mS : mg "sorted" = none) {cdv : Value} {A : Around} {outer : List Env} {s : Shared} {H : Hp} {Q : VK} {E : XK} {ns : List Int}
    (hr : Room 5 (A.deeper (PyProof.Rows.envOfC "law" (defScope sLaw) s.heap.objs.size f cdv))) (q : ∀ H', Q (.bl true) H') : St19 P w K mg base f cdv A outer s H Q E ns := by
  have hr1 : Room 1 _ := hr.mono (by decide)
  have hr2 : Room 2 _ := hr.mono (by decide)
  have hu : _ < cLine := hr.units0
  have hu1 : _ + 1 < cLine := hu_of hr
  have nul : (0 : Nat) ≤ sizeLine := by decide
  have one1 : (1 : Nat) ≤ sizeLine := by decide
  have two2 : (2 : Nat) ≤ sizeLine := by decide
  refine ⟨_, pss_one (ps_ret (pe_cmpR op_eq (pv 17) (pe_and (pe_cmpR (op_eqRows hu1) (pe_callB call_sortRows rfl mS PyProof.Rows.boot_sorted (pa_cons (pv 13) pa_nil)) (pe_callB call_sortRows rfl mS PyProof.Rows.boot_sorted (pa_cons (pv 10) pa_nil)) (nomark _)) (pe_and (pe_cmpR (op_eqL hu) (pv 14) (pv 7) (nomark _)) (pe_one (pe_cmpR op_ne (pv 11) pe_int (nomark _))))) (nomark _))), ?_⟩
  intro p r lv u ls z d c fi l rs s8 s9 s12 s15 s16 ia ga nb gs cs way b H' Co hia hga hG okG h33 hnb hb
  have l32 := Co.l32
  have li := len_inner rs fi l
  have okI : RowsOk c (bare (innerOf rs fi l)) := Co.ok.sub (inner_sub rs fi l)
  have hI : RowsN H' (innerOf rs fi l) := fun x hx => Co.rn x (mem_inner.mp hx).1
  refine ⟨_, rfl, ?_⟩
  refine ⟨_, rfl, ga, gs.map toA, rfl, by rw [refs_toA]; exact SqL.of hga, rows_toA hG, by rw [List.length_map]; exact Nat.lt_of_le_of_lt h33 (by decide), nd_toA okG.nd, fun xs1 l1 hx1 hrise1 hl1 => ?_⟩
  obtain ⟨zs, hzp, hze, hzr⟩ := sort_back hx1 hrise1
  rw [hze]
  have S1 := Same.upd (o := .lst (refsN zs)) hl1
  have hz7 : (upd H' l1 (.lst (refsN zs))) l1 = some (.lst (refsN zs)) := upd_same
  have hZ7 := (hG.same S1).perm hzp
  have hia7 := S1 _ _ hia
  have hI7 := hI.same S1
  have hnb7 := S1 _ _ hnb
  have Co7 := Co.same S1
  generalize upd H' l1 (.lst (refsN zs)) = H7 at hz7 hZ7 hia7 hI7 hnb7 Co7 ⊢
  refine ⟨_, rfl, ia, (innerOf rs fi l).map toA, rfl, by rw [refs_toA]; exact SqL.of hia7, rows_toA hI7, by rw [List.length_map]; exact Nat.lt_of_le_of_lt (Nat.le_trans li l32) (by decide), nd_toA okI.nd, fun xs2 l2 hx2 hrise2 hl2 => ?_⟩
  obtain ⟨ys, hyp, hye, hyr⟩ := sort_back hx2 hrise2
  rw [hye]
  have S2 := Same.upd (o := .lst (refsN ys)) hl2
  have hz8 := S2 _ _ hz7
  have hZ8 := hZ7.same S2
  have hy8 : (upd H7 l2 (.lst (refsN ys))) l2 = some (.lst (refsN ys)) := upd_same
  have hY8 := (hI7.same S2).perm hyp
  have hnb8 := S2 _ _ hnb7
  have Co8 := Co7.same S2
  generalize upd H7 l2 (.lst (refsN ys)) = H8 at hz8 hZ8 hy8 hY8 hnb8 Co8 ⊢
  have same : bare zs = bare ys ↔ ∀ r, r ∈ bare gs ↔ r ∈ bare (innerOf rs fi l) := by
    constructor
    · intro e r
      rw [← mem_bare_perm hzp, e, mem_bare_perm hyp]
    · intro h
      exact rising_ext hzr hyr fun r => by rw [mem_bare_perm hzp, h r, mem_bare_perm hyp]
  have no : ∀ H2, ¬ ((∀ r, r ∈ bare gs ↔ r ∈ bare (innerOf rs fi l)) ∧ cs = (partsP d fi l).map (numAt (leaves c (bare rs))) ∧ way ≠ 7) → Q (.bl (decide (V.bl b = V.bl false))) H2 := fun H2 n => by
    have eb : b = false := by
      cases b with
      | false => rfl
      | true => exact absurd (hb.mp rfl) n
    rw [eb, decide_eq_true rfl]
    exact q _
  refine ⟨l1, l2, zs, ys, rfl, rfl, SqL.of hz8, SqL.of hy8, hZ8, hY8, _, rfl, ite3 (fun e1 => ?_) (fun e1 => ⟨rfl, no _ fun n => e1 (same.mpr n.1)⟩)⟩
  refine ⟨_, rfl, _, rfl, nb, u, _, _, rfl, rfl, SqL.of hnb8, SqL.of Co8.du, flat_vn _, flat_vn _, _, rfl, ?_⟩
  rw [eqVs_vn6]
  refine ite3 (fun e2 => ?_) (fun e2 => ⟨rfl, no _ fun n => e2 n.2.1⟩)
  refine ⟨_, rfl, rfl, rfl, ?_⟩
  by_cases hw : way = 7
  · rw [show (!decide (V.int way = V.int 7)) = false by rw [hw]; simp]
    exact no _ fun n => n.2.2 hw
  · have : (!decide (V.int way = V.int 7)) = true := by
      rw [decide_eq_false (fun y => hw (V.int.inj y))]; rfl
    rw [this]
    have eb : b = true := hb.mpr ⟨same.mp e1, e2, hw⟩
    rw [eb, decide_eq_true rfl]
    exact q _
end
end Ts
namespace Ts
open PySem L2
section
variable {P : Program} {w : World} {K : PySem.W.Frag} {mg : Str → Option Value} {base : Heap} {f : Addr} {fd : FuncData}
theorem tail15 (T : Blt mg) (ST : Has P w K mg base "_law_stays_so" 1 ["_law_handed", "_law_own"] spStays) (IS : Has P w K mg base "is_span" 5 ["depth", "top", "first", "last", "rows", "numbers"] (spIsSpan K)) {cdv : Value} {A : Around} {outer : List Env} {s : Shared} {H : Hp} {Q : VK} {E : XK} {ns : List Int}
    (hr : Room 5 (A.deeper (PyProof.Rows.envOfC "law" (defScope sLaw) s.heap.objs.size f cdv))) (h19 : St19 P w K mg base f cdv A outer s H Q E ns) : St15 P w K mg base f cdv A outer s H Q E ns := by
  obtain ⟨t19, p19, r19⟩ := h19
  have hr1 : Room 1 _ := hr.mono (by decide)
  have hr2 : Room 2 _ := hr.mono (by decide)
  have hu : _ < cLine := hr.units0
  have hu1 : _ + 1 < cLine := hu_of hr
  have nul : (0 : Nat) ≤ sizeLine := by decide
  have one1 : (1 : Nat) ≤ sizeLine := by decide
  have two2 : (2 : Nat) ≤ sizeLine := by decide
  refine ⟨_, pss_cons (ps_set (i := 15) scLaw.nd rfl (Or.inl rfl) (pe_op op_add (pe_ix ix_list (pe_ix ix_list (pv 4) (pe_un un_neg pe_int) (fun _ _ => rfl)) pe_int (fun _ _ => rfl)) (pe_callTy call_int1 rfl T.int PyProof.Rows.boot_int (pa_cons (pe_cmpR op_eq (pv 11) pe_int (nomark _)) pa_nil))))
    (pss_cons (ps_set (i := 16) scLaw.nd rfl (Or.inl rfl) (pe_lst (pa_cons (pe_callTy call_list_of rfl T.list PyProof.Rows.boot_list (pa_cons (pv 13) pa_nil)) (pa_cons (pe_callTy call_list_of rfl T.list PyProof.Rows.boot_list (pa_cons (pv 14) pa_nil)) pa_nil))))
    (pss_cons (ps_set (i := 17) scLaw.nd rfl (Or.inl rfl) (pe_has IS hr (pa_cons (pv 1) (pa_cons (pv 15) (pa_cons (pv 5) (pa_cons (pv 6) (pa_cons (pe_ix ix_list (pv 16) pe_int (fun _ _ => rfl)) (pa_cons (pe_ix ix_list (pv 16) pe_int (fun _ _ => rfl)) pa_nil))))))))
    (pss_cons (ps_if (PW.pt (pw_or (pt_not (pt_val (pe_has ST hr1 (pa_cons (pv 16) (pa_cons (pe_lst (pa_cons (pv 13) (pa_cons (pv 14) pa_nil))) pa_nil)))))
      (pw_or1 (pt_not (pt_val (pe_callB call_isinst rfl T.isi PyProof.Rows.boot_isinstance (pa_cons (pv 17) (pa_cons (pe_bltn (v := .ty "bool") rfl T.bool PyProof.Rows.boot_bool rfl) pa_nil)))))))) pss_never pss_nil) p19))), ?_⟩
  intro p r lv u ls z d c fi l rs s8 s9 s12 ia ga nb gs cs way H' Co hia hga hG okG h33 hnb hcl hun
  have hl2 : l < 2 ^ d := by rw [← Co.hc]; exact Co.hl
  have okG2 : RowsOk (2 ^ d) (bare gs) := by rw [← Co.hc]; exact okG
  refine ⟨_, rfl, _, rfl, lv, _, _, _, rfl, rfl, SqL.of Co.le, Co.last, z, _, _, _, rfl, rfl, SqL.of Co.hz, atI_nat (j := 0) rfl, _, rfl, rfl, .inr ⟨_, rfl, ?_⟩⟩
  obtain ⟨e7, he7, h71, h70⟩ : ∃ e7 : Int, (if decide (V.int way = V.int 7) = true then (1 : Int) else 0) = e7 ∧ (way = 7 → e7 = 1) ∧ (way ≠ 7 → e7 = 0) := by
    by_cases y : way = 7
    · exact ⟨1, by rw [y, decide_eq_true rfl]; rfl, fun _ => rfl, fun n => absurd y n⟩
    · exact ⟨0, by rw [decide_eq_false (fun x => y (V.int.inj x))]; rfl, fun n => absurd n y, fun _ => rfl⟩
  rw [he7]
  refine ⟨_, _, rfl, rfl, ?_⟩
  refine ⟨_, rfl, ga, _, rfl, .inl (SqL.of hga), fun h1 hh1 => ?_⟩
  have S1 := Same.upd (o := .lst (refsN gs)) hh1
  refine ⟨_, rfl, nb, _, rfl, .inl (SqL.of (S1 _ _ hnb)), fun h2 hh2 => ?_⟩
  have S2 := Same.upd (o := .lst (vn cs)) hh2
  refine ⟨two2, fun h3 hh3 => ?_⟩
  have S3 := Same.upd (o := .lst [.ref h1, .ref h2]) hh3
  have g1 := S3 _ _ (S2 _ _ (upd_same (H := H') (a := h1) (o := .lst (refsN gs))))
  have g2 := S3 _ _ (upd_same (H := upd H' h1 (.lst (refsN gs))) (a := h2) (o := .lst (vn cs)))
  have g3 : (upd (upd (upd H' h1 (.lst (refsN gs))) h2 (.lst (vn cs))) h3 (.lst [.ref h1, .ref h2])) h3 = some (.lst [.ref h1, .ref h2]) := upd_same
  have S := (S1.trans S2).trans S3
  have Co3 := Co.same S
  have hia3 := S _ _ hia
  have hga3 := S _ _ hga
  have hG3 := hG.same S
  have hnb3 := S _ _ hnb
  generalize upd (upd (upd H' h1 (.lst (refsN gs))) h2 (.lst (vn cs))) h3 (.lst [.ref h1, .ref h2]) = H3 at g1 g2 g3 Co3 hia3 hga3 hG3 hnb3 ⊢
  have htop := top_lt Co.hd Co.xl Co.xb
  have big : ((2 ^ pl : Nat) : Int) < ((2 ^ bb : Nat) : Int) := Int.ofNat_lt.mpr (Nat.pow_lt_pow_right (by decide) (by decide))
  have ht : ((topN d (leaves c (bare rs)) : Nat) : Int) + e7 < ((2 ^ bb : Nat) : Int) := by
    have y := Int.ofNat_lt.mpr htop
    by_cases w7 : way = 7
    · rw [h71 w7]; omega
    · rw [h70 w7]; omega
  refine ⟨_, rfl, _, rfl, _, rfl, _, rfl, _, rfl, h3, _, _, _, rfl, rfl, SqL.of g3, atI_nat (j := 0) rfl, _, rfl, h3, _, _, _, rfl, rfl, SqL.of g3, atI_nat (j := 1) rfl, d, _, fi, l, h1, h2, gs, cs, rfl, Co.hd, Co.hfl, hl2, SqL.of g1, hG3, okG2, by omega, SqL.of g2, ht, fun b H4 hS4 hb => ?_⟩
  rw [← Co.hc] at hb
  have hb' : b = true ↔ SpanOk d c fi l gs cs (((topN d (leaves c (bare rs)) : Nat) : Int) + e7) := hb
  have Co4 := Co3.same hS4
  have hG4 := hG3.same hS4
  obtain ⟨k5, hk5, S5⟩ := Stk.rows hG4 hG4 rfl
  refine ⟨_, rfl, _, rfl, _, rfl, two2, fun h4 hh4 => ?_⟩
  have S6 := Same.upd (o := .lst [.ref ga, .ref nb]) hh4
  have f1 := S6 _ _ (hS4 _ _ g1)
  have f2 := S6 _ _ (hS4 _ _ g2)
  have f3 := S6 _ _ (hS4 _ _ g3)
  have f4 := S6 _ _ (hS4 _ _ hga3)
  have f5 := S6 _ _ (hS4 _ _ hnb3)
  have f6 : (upd H4 h4 (.lst [.ref ga, .ref nb])) h4 = some (.lst [.ref ga, .ref nb]) := upd_same
  refine ⟨.ref h3, .ref h4, _, rfl, Stk.lst .nil (Stk.lst (us := [.ref h1]) (ws := [.ref ga]) (Stk.lst .nil (S5.same S6) f1 f4) (Stk.ints6 cs) f2 f5) f3 f6, by omega, fun H5 hS5 => ?_⟩
  refine ⟨_, rfl, iteB rfl ?_⟩
  refine ⟨_, rfl, _, _, _, true, rfl, .bl b, kit_bb K (by decide +kernel), _, rfl, iteB rfl ?_⟩
  have Sz := S6.trans hS5
  refine r19 p r lv u ls z d c fi l rs s8 s9 s12 _ _ ia ga nb gs cs way b H5 (Co4.same Sz) (Sz _ _ (hS4 _ _ hia3)) (hS5 _ _ f4) (hG4.same Sz) okG h33 (hS5 _ _ f5) ?_
  by_cases w7 : way = 7
  · obtain ⟨y1, y2⟩ := hun w7
    have no := span_else Co.hc Co.hfl Co.hl Co.ok okG (t := ((topN d (leaves c (bare rs)) : Nat) : Int) + e7) (by rw [h71 w7]; omega) y1 y2
    exact ⟨fun y => absurd (hb'.mp y) no, fun y => absurd w7 y.2.2⟩
  · rw [hb', h70 w7, Int.add_zero, span_own Co.hc Co.hfl Co.hl Co.ok okG]
    exact ⟨fun y => ⟨y.1, y.2, w7⟩, fun y => ⟨y.1, y.2.1⟩⟩
end
end Ts
namespace Ts
open PySem L2
section
variable {P : Program} {w : World} {K : PySem.W.Frag} {mg : Str → Option Value} {base : Heap} {f : Addr} {fd : FuncData}
theorem tail12 (T : Blt mg) (C : Has P w K mg base "_law_at" 1 ["_law_script", "_law_k"] (spAt K)) (BN : Has P w K mg base "_law_bent" 1 ["_law_rows", "_law_numbers", "_law_way", "_law_seed", "_law_key"] (spBent K)) {cdv : Value} {A : Around} {outer : List Env} {s : Shared} {H : Hp} {Q : VK} {E : XK} {ns : List Int}
    (hr : Room 5 (A.deeper (PyProof.Rows.envOfC "law" (defScope sLaw) s.heap.objs.size f cdv))) (h15 : St15 P w K mg base f cdv A outer s H Q E ns) : St12 P w K mg base f cdv A outer s H Q E ns := by
  obtain ⟨t15, p15, r15⟩ := h15
  have hr1 : Room 1 _ := hr.mono (by decide)
  have hr2 : Room 2 _ := hr.mono (by decide)
  have hu : _ < cLine := hr.units0
  have hu1 : _ + 1 < cLine := hu_of hr
  have nul : (0 : Nat) ≤ sizeLine := by decide
  have one1 : (1 : Nat) ≤ sizeLine := by decide
  have two2 : (2 : Nat) ≤ sizeLine := by decide
  refine ⟨_, pss_cons (ps_set (i := 11) scLaw.nd rfl (Or.inl rfl) (pe_op op_mod (pe_has C hr1 (pa_cons (pv 0) (pa_cons pe_int pa_nil))) pe_int))
    (pss_cons (ps_set (i := 12) scLaw.nd rfl (Or.inl rfl) (pe_op z_mod (pe_has C hr1 (pa_cons (pv 0) (pa_cons pe_int pa_nil))) (pv 2)))
    (pss_cons (ps_asg (pe_has BN hr1 (pa_cons (pv 10) (pa_cons (pv 7) (pa_cons (pv 11) (pa_cons (pe_has C hr1 (pa_cons (pv 0) (pa_cons pe_int pa_nil))) (pa_cons (pv 12) pa_nil))))))
      (pg_tup (n := 2) rfl (pgs_cons (pg_name (i := 13) scLaw.nd rfl (Or.inl rfl)) (pgs_cons (pg_name (i := 14) scLaw.nd rfl (Or.inl rfl)) pgs_nil)))) p15)), ?_⟩
  intro p r lv u ls z d c fi l rs s8 s9 ia H' Co hia
  have hcpos : 0 < c := Nat.lt_of_le_of_lt (Nat.zero_le _) Co.hl
  have li := len_inner rs fi l
  have l32 := Co.l32
  refine ⟨_, rfl, p, ns, 56, rfl, SqL.of Co.sc, _, _, rfl, rfl, (by show (0 : Int) < 8; decide), ?_⟩
  obtain ⟨k, ek, hk⟩ := idx_pos (seed := ns.getD 58 0) hcpos
  refine ⟨_, rfl, p, ns, 58, rfl, SqL.of Co.sc, _, rfl, _, c, k, rfl, rfl, hcpos, ek, ?_⟩
  have lp : ((partsP d fi l).map (numAt (leaves c (bare rs)))).length ≤ 100 := by
    rw [List.length_map]
    unfold partsP
    rw [List.length_append]
    have := len_preP d fi
    have := len_sufP d l
    have := Co.hd
    omega
  have B0 : Bn H' H' c (ns.getD 56 0 % 8) (innerOf rs fi l) ((partsP d fi l).map (numAt (leaves c (bare rs)))) ia u (innerOf rs fi l) ((partsP d fi l).map (numAt (leaves c (bare rs)))) (10 ^ 20) 32 100 :=
    ⟨Same.refl _, hia, fun x hx => Co.rn x (mem_inner.mp hx).1, Co.ok.sub (inner_sub rs fi l), fun x hx => Co.bd x ((inner_sub rs fi l).subset hx), by omega, Co.du, lp, fun _ => ⟨rfl, rfl⟩⟩
  refine ⟨_, rfl, _, rfl, _, rfl, _, rfl, p, ns, 57, rfl, SqL.of Co.sc, _, rfl, c, k, _, _, ia, u, innerOf rs fi l, _, rfl, hk, B0, fun t ra2 nb2 qs cs H2 ht B => ?_⟩
  refine ⟨t, _, rfl, SqT.of ht, rfl, _, _, rfl, _, _, rfl, rfl, ?_⟩
  exact r15 p r lv u ls z d c fi l rs s8 s9 _ ia ra2 nb2 qs cs _ H2 (Co.same B.sm) (B.sm _ _ hia) B.ro B.rn B.ok B.ln B.no B.cl B.un
end
end Ts
namespace Ts
open PySem L2
section
variable {P : Program} {w : World} {K : PySem.W.Frag} {mg : Str → Option Value} {base : Heap} {f : Addr} {fd : FuncData}
theorem tail10 (T : Blt mg) (ST : Has P w K mg base "_law_stays_so" 1 ["_law_handed", "_law_own"] spStays) {cdv : Value} {A : Around} {outer : List Env} {s : Shared} {H : Hp} {Q : VK} {E : XK} {ns : List Int}
    (hr : Room 5 (A.deeper (PyProof.Rows.envOfC "law" (defScope sLaw) s.heap.objs.size f cdv))) (h12 : St12 P w K mg base f cdv A outer s H Q E ns) : St10 P w K mg base f cdv A outer s H Q E ns := by
  obtain ⟨t12, p12, r12⟩ := h12
  have hr1 : Room 1 _ := hr.mono (by decide)
  have hr2 : Room 2 _ := hr.mono (by decide)
  have hu : _ < cLine := hr.units0
  have hu1 : _ + 1 < cLine := hu_of hr
  have nul : (0 : Nat) ≤ sizeLine := by decide
  have one1 : (1 : Nat) ≤ sizeLine := by decide
  have two2 : (2 : Nat) ≤ sizeLine := by decide
  refine ⟨_, pss_cons (ps_if (PW.pt (pw_or (pt_not (pt_val (pe_callB call_isinst rfl T.isi PyProof.Rows.boot_isinstance (pa_cons (pv 9) (pa_cons (pe_bltn (v := .ty "list") rfl T.list PyProof.Rows.boot_list rfl) pa_nil)))))
      (pw_or1 (pt_not (pt_val (pe_has ST hr1 (pa_cons (pe_lst (pa_cons (pv 9) (pa_cons (pv 8) pa_nil))) (pa_cons (pe_lst (pa_cons (pv 7) (pa_cons (pv 3) pa_nil))) pa_nil)))))))) pss_never pss_nil)
    (pss_cons (ps_comp (i0 := 10) (cl := [("_law_last", s.heap.objs.size + 2), ("_law_first", s.heap.objs.size + 1)]) (N := ["_law_row", "_law_first", "_law_last"]) (fr := [none, some 5, some 6]) rfl
      (block_two rfl (by decide +kernel) (by decide +kernel) (by show ∀ p ∈ relS _ (defScope sLaw), _; decide +kernel) rfl rfl (by decide)) rfl ⟨⟨rfl, rfl, .inl rfl⟩, ⟨rfl, rfl, .inl rfl⟩, trivial⟩
      (pi_list (pv 3)) (fun _ _ _ _ _ => pg_name (i := 0) (show (["_law_row", "_law_first", "_law_last"] : List Str).Nodup by decide) rfl (Or.inl rfl))
      (fun _ _ _ _ _ => pifs_one (PW.pt (pw_and (pt_cmpR op_le (pv 1) (pe_ix ix_tupK (pv 0) pe_int (fun _ _ => rfl)) (nomark _)) (pw_and1 (pt_cmpR op_le (pe_ix ix_tupK (pv 0) pe_int (fun _ _ => rfl)) (pv 2) (nomark _)))))) (fun _ _ _ _ _ => pv 0) scLaw.nd rfl rfl) p12), ?_⟩
  intro p r lv u ls z d c fi l rs ga fo H' Co hga hfo
  refine ⟨_, rfl, _, _, _, true, rfl, .lst hfo, kit_bb K (by decide +kernel), _, rfl, iteB rfl ?_⟩
  refine ⟨_, rfl, _, rfl, two2, fun a1 ha1 => ?_⟩
  have S1 := Same.upd (o := .lst [.ref fo, .ref ga]) ha1
  refine ⟨_, rfl, _, rfl, two2, fun a2 ha2 => ?_⟩
  have S2 := Same.upd (o := .lst [.ref u, .ref r]) ha2
  have e1 := S2 _ _ (upd_same (H := H') (a := a1) (o := .lst [.ref fo, .ref ga]))
  have e2 : (upd (upd H' a1 (.lst [.ref fo, .ref ga])) a2 (.lst [.ref u, .ref r])) a2 = some (.lst [.ref u, .ref r]) := upd_same
  have S12 := S1.trans S2
  have C2 := Co.same S12
  have hga2 := S12 _ _ hga
  have hfo2 := S12 _ _ hfo
  generalize upd (upd H' a1 (.lst [.ref fo, .ref ga])) a2 (.lst [.ref u, .ref r]) = H2 at e1 e2 C2 hga2 hfo2 ⊢
  obtain ⟨k5, hk5, S5⟩ := Stk.rows C2.rn C2.rn rfl
  have l32 := C2.l32
  have lp : ((partsP d fi l).map (numAt (leaves c (bare rs)))).length ≤ 100 := by
    rw [List.length_map]
    unfold partsP
    rw [List.length_append]
    have := len_preP d fi
    have := len_sufP d l
    have := Co.hd
    omega
  refine ⟨.ref a1, .ref a2, _, rfl, Stk.lst .nil (Stk.lst (us := [.ref fo]) (ws := [.ref u]) (Stk.lst .nil (Stk.ints6 _) hfo2 C2.du) S5 hga2 C2.ro) e1 e2, by omega, fun H3 hS3 => ?_⟩
  refine ⟨_, rfl, iteB rfl ?_⟩
  have C3 := C2.same hS3
  dsimp only [tNext, tSeq, tAsg]
  refine comp_listV (a := r) (xs := refsN rs) ?_ (SqL.of C3.ro) rs.length (by omega) (fun i ys τ H5 => H5 = H3 ∧ ∃ t0 : Option V, τ = [t0, some (.int (fi : Int)), some (.int (l : Int))] ∧ ys = refsN (innerOf (rs.take i) fi l)) ?_ ?_ ?_ ?_
  · rfl
  · exact ⟨rfl, _, rfl, rfl⟩
  · rintro i ys τ H5 ⟨_, _, _, rfl⟩
    rw [len_refs]
    exact Nat.le_trans (len_inner _ _ _) (by rw [List.length_take]; omega)
  · rintro i ys τ H5 hi ⟨rfl, t0, rfl, rfl⟩
    have hei : rs[i]? = some rs[i] := List.getElem?_eq_getElem hi
    have hem : rs[i] ∈ rs := List.getElem_mem hi
    generalize rs[i] = v at hei hem
    refine ⟨⟨_, _, SqL.of C3.ro, refs_at hei⟩, fun y H6 hy => ?_⟩
    obtain ⟨g1, g2⟩ := hy
    have g3 : y = .ref v.1 := by
      have := g2 _ (SqL.of C3.ro)
      rw [refs_at hei] at this
      exact (Option.some.inj this).symm
    subst g1 g3
    have hsn := inner_snoc (rs.take i) v fi l
    rw [← take_one hei] at hsn
    refine gName_go ?_
    refine ⟨_, rfl, _, rfl, v.1, _, _, _, rfl, rfl, SqT.of (C3.rn v hem), atI_nat (j := 0) rfl, _, _, rfl, rfl, _, rfl, ite3 (fun e => ?_) (fun e => iteF ?_)⟩
    · refine ⟨_, rfl, v.1, _, _, _, rfl, rfl, SqT.of (C3.rn v hem), atI_nat (j := 0) rfl, _, rfl, _, _, rfl, rfl, _, rfl, ite3 (fun e2 => ?_) (fun e2 => ?_)⟩
      · rw [if_pos (by omega)] at hsn
        refine ⟨_, rfl, rfl, _, rfl, ?_⟩
        rw [hsn, ← refs_app]
        rfl
      · rw [if_neg (by omega)] at hsn
        exact ⟨rfl, _, rfl, by rw [hsn]⟩
    · rw [if_neg (by omega)] at hsn
      exact ⟨rfl, _, rfl, by rw [hsn]⟩
  · rintro ys τ H5 ⟨rfl, t0, rfl, rfl⟩
    refine ⟨⟨_, SqL.of C3.ro, by rw [len_refs]; exact Nat.le_refl _⟩, fun ia hia => ?_⟩
    rw [List.take_length]
    refine gName_go ?_
    exact r12 p r lv u ls z d c fi l rs _ _ ia _ (C3.same (Same.upd hia)) upd_same
end
end Ts
namespace Ts
open PySem L2
section
variable {P : Program} {w : World} {K : PySem.W.Frag} {mg : Str → Option Value} {base : Heap} {f : Addr} {fd : FuncData}
theorem ok_law (F : Fun K "law" "law" sLaw f fd) (T : Blt mg) (mS : mg "sorted" = none) (C : Has P w K mg base "_law_at" 1 ["_law_script", "_law_k"] (spAt K)) (B : Has P w K mg base "_law_rows_by" 2 ["_law_script", "_law_first", "_law_count"] (spBy K))
    (LV : Has P w K mg base "_law_by_levels" 2 ["_law_row"] (spLevels K)) (LE : Has P w K mg base "_law_leaves" 1 ["_law_rows", "_law_count"] (spLeaves K)) (ST : Has P w K mg base "_law_stays_so" 1 ["_law_handed", "_law_own"] spStays)
    (OU : Has P w K mg base "_law_outer" 1 ["_law_levels", "_law_start", "_law_stop"] (spOuter K)) (BN : Has P w K mg base "_law_bent" 1 ["_law_rows", "_law_numbers", "_law_way", "_law_seed", "_law_key"] (spBent K))
    (SF : Has P w K mg base "span_for" 5 ["depth", "rows", "first", "last"] (spSpan K)) (IS : Has P w K mg base "is_span" 5 ["depth", "top", "first", "last", "rows", "numbers"] (spIsSpan K)) : FnOk P w K mg base CX0 6 f fd ["_law_script"] (spLaw K) := by
  refine F.ok scLaw (fun vs H Q E h => ?_) (fun cdv A outer s H vs Q E hr h => ?_)
  · obtain ⟨a, ns, rfl, _⟩ := h
    rfl
  obtain ⟨a, ns, rfl, hS, h63, q⟩ := h
  have hr1 : Room 1 _ := hr.mono (by decide)
  have hr2 : Room 2 _ := hr.mono (by decide)
  have nine : (9 : Nat) ≤ sizeLine := by decide
  have t15 := tail15 (outer := outer) (H := H) (E := E) (ns := ns) T ST IS hr (tail19 T mS hr q)
  obtain ⟨t10, p10, r10⟩ := tail10 T ST hr (tail12 T C BN hr t15)
  refine ⟨_, pss_cons (ps_set (i := 0) scLaw.nd rfl (Or.inl rfl) (pe_slice sl_list (pv 0) po_none (po_some pe_int)))
    (pss_cons (ps_set (i := 1) scLaw.nd rfl (Or.inl rfl) (pe_ix ix_list (pe_lst (pa_int (pa_int (pa_int (pa_int (pa_int (pa_int (pa_int (pa_int (pa_int pa_nil)))))))))) (pe_op op_mod (pe_has C hr1 (pa_cons (pv 0) (pa_cons pe_int pa_nil))) pe_int) (fun _ _ => rfl)))
    (pss_cons (ps_set (i := 2) scLaw.nd rfl (Or.inl rfl) (pe_ix ix_list (pe_lst (pa_int (pa_int (pa_int (pa_int (pa_int (pa_int (pa_int (pa_int (pa_int pa_nil)))))))))) (pv 1) (fun _ _ => rfl)))
    (pss_cons (ps_set (i := 3) scLaw.nd rfl (Or.inl rfl) (pe_has B hr2 (pa_cons (pv 0) (pa_cons pe_int (pa_cons (pv 2) pa_nil)))))
    (pss_cons (ps_set (i := 4) scLaw.nd rfl (Or.inl rfl) (pe_has LV hr2 (pa_cons (pe_has LE hr1 (pa_cons (pv 3) (pa_cons (pv 2) pa_nil))) pa_nil)))
    (pss_cons (ps_set (i := 5) scLaw.nd rfl (Or.inr rfl) (pe_op z_mod (pe_has C hr1 (pa_cons (pv 0) (pa_cons pe_int pa_nil))) (pv 2)))
    (pss_cons (ps_set (i := 6) scLaw.nd rfl (Or.inr rfl) (pe_op n_add (pv 5) (pe_op z_mod (pe_has C hr1 (pa_cons (pv 0) (pa_cons pe_int pa_nil))) (pe_op n_sub (pv 2) (pv 5)))))
    (pss_cons (ps_set (i := 7) scLaw.nd rfl (Or.inl rfl) (pe_op op_cat (pe_has OU hr1 (pa_cons (pv 4) (pa_cons pe_int (pa_cons (pv 5) pa_nil)))) (pe_has OU hr1 (pa_cons (pv 4) (pa_cons (pe_op n_add (pv 6) pe_int) (pa_cons (pv 2) pa_nil))))))
    (pss_cons (ps_set (i := 8) scLaw.nd rfl (Or.inl rfl) (pe_callTy call_list_of rfl T.list PyProof.Rows.boot_list (pa_cons (pv 3) pa_nil)))
    (pss_cons (ps_set (i := 9) scLaw.nd rfl (Or.inl rfl) (pe_has SF hr (pa_cons (pv 1) (pa_cons (pv 8) (pa_cons (pv 5) (pa_cons (pv 6) pa_nil)))))) p10))))))))), ?_⟩
  refine ⟨_, rfl, _, rfl, a, _, rfl, hS, fun p hp0 => ?_⟩
  rw [cut_all ns h63]
  have hp : (upd H p (.lst (ns.map V.int))) p = some (.lst (ns.map V.int)) := upd_same
  generalize upd H p (.lst (ns.map V.int)) = H0 at hp ⊢
  clear hS hp0
  refine ⟨nine, fun m hm => ?_⟩
  have hp1 := (Same.upd (o := .lst [V.int 0, V.int 1, V.int 2, V.int 3, V.int 4, V.int 5, V.int 8, V.int 6, V.int 7]) hm) _ _ hp
  obtain ⟨d, hd, hdv⟩ := at9 (j := ns.getD 0 0 % 9) (by omega) (by omega)
  refine ⟨_, rfl, p, ns, 0, rfl, SqL.of hp1, _, _, rfl, rfl, (by show (0 : Int) < 9; decide), m, _, _, _, rfl, rfl, SqL.of upd_same, hdv, ?_⟩
  generalize upd H0 m (.lst [V.int 0, V.int 1, V.int 2, V.int 3, V.int 4, V.int 5, V.int 8, V.int 6, V.int 7]) = H1 at hp1 ⊢
  obtain ⟨c, hc⟩ : ∃ c, c = 2 ^ d := ⟨_, rfl⟩
  have h256 : c ≤ 256 := by rw [hc]; exact Nat.pow_le_pow_right (n := 2) (by decide) hd
  have hcpos : 0 < c := by rw [hc]; exact Nat.two_pow_pos d
  refine ⟨nine, fun m2 hm2 => ?_⟩
  have hp2 := (Same.upd (o := .lst [V.int 1, V.int 2, V.int 4, V.int 8, V.int 16, V.int 32, V.int 64, V.int 128, V.int 256]) hm2) _ _ hp1
  refine ⟨_, rfl, m2, _, _, _, rfl, rfl, SqL.of upd_same, cnt9 hd hc, ?_⟩
  generalize upd H1 m2 (.lst [V.int 1, V.int 2, V.int 4, V.int 8, V.int 16, V.int 32, V.int 64, V.int 128, V.int 256]) = H2 at hp2 ⊢
  refine ⟨_, rfl, _, rfl, p, ns, 1, c, rfl, SqL.of hp2, h63, hcpos, h256, fun r rs H3 hS3 _ hr3 hR3 ok hV h32 => ?_⟩
  have hp3 := hS3 _ _ hp2
  have h67 : ∀ x ∈ bare rs, x.2 + 1 < 2 ^ 67 := fun x hx => by
    have := hV x hx
    have e20 : (10 : Nat) ^ 20 < 2 ^ 67 - 1 := by decide
    omega
  have hll : (leaves c (bare rs)).length = 2 ^ d := by rw [len_leaves, hc]
  have hlb : ∀ x ∈ leaves c (bare rs), x < 2 ^ 67 := leaves_lt (by decide) h67
  refine ⟨_, rfl, _, rfl, c, r, rs, rfl, h256, SqL.of hr3, hR3, ok, fun b H4 hS4 _ hb4 => ?_⟩
  refine ⟨d, b, _, rfl, hd, SqL.of hb4, hll, hlb, fun lv ls z H5 hS5 _ hlv hls hla hz => ?_⟩
  have hS35 := hS4.trans hS5
  have hp5 := hS35 _ _ hp3
  have hr5 := hS35 _ _ hr3
  have hR5 := hR3.same hS35
  obtain ⟨k, ek⟩ := Int.eq_ofNat_of_zero_le (Int.emod_nonneg (ns.getD 54 0) (show (c : Int) ≠ 0 by omega))
  have hk0 := Int.emod_lt_of_pos (ns.getD 54 0) (show (0 : Int) < (c : Int) by omega)
  rw [ek] at hk0
  have hk : k < c := by omega
  refine ⟨_, rfl, p, ns, 54, rfl, SqL.of hp5, _, rfl, _, c, k, rfl, rfl, hcpos, ek, ?_⟩
  obtain ⟨n, hn⟩ : ∃ n, n = c - k := ⟨_, rfl⟩
  have hn0 : 0 < n := by omega
  obtain ⟨e, ee⟩ := Int.eq_ofNat_of_zero_le (Int.emod_nonneg (ns.getD 55 0) (show (n : Int) ≠ 0 by omega))
  have he0 := Int.emod_lt_of_pos (ns.getD 55 0) (show (0 : Int) < (n : Int) by omega)
  rw [ee] at he0
  obtain ⟨l, hl⟩ : ∃ l, l = k + e := ⟨_, rfl⟩
  have hlc : l < c := by omega
  have hl2 : l < 2 ^ d := by rw [← hc]; exact hlc
  have hk2 : k < 2 ^ d := by rw [← hc]; exact hk
  refine ⟨_, rfl, _, rfl, p, ns, 55, rfl, SqL.of hp5, _, rfl, _, rfl, c, k, n, rfl, rfl, Nat.le_of_lt hk, hn, _, n, e, rfl, rfl, hn0, ee, k, e, l, rfl, rfl, trivial, hl, ?_⟩
  refine ⟨_, rfl, _, rfl, d, 0, k, lv, ls, z, _, preP d k, rfl, hd, hlv, hls, hla, hll, Nat.le_of_lt hk2, grd_before hk2, fun g1 H6 hS6 _ hg1 => ?_⟩
  have hlv6 := hS6 _ _ hlv
  have hla6 := hla.same6 hS6
  refine ⟨_, rfl, _, rfl, l, 1, l + 1, rfl, rfl, trivial, rfl, _, rfl, d, l + 1, c, lv, ls, z, _, sufP d l, rfl, hd, hlv6, hls, hla6, hll, Nat.le_of_eq hc, (by rw [hc]; exact grd_behind hl2), fun g2 H7 hS7 _ hg2 => ?_⟩
  have hg1' := hS7 _ _ hg1
  have lp : ((preP d k).map (numAt (leaves c (bare rs)))).length + ((sufP d l).map (numAt (leaves c (bare rs)))).length ≤ 16 := by
    rw [List.length_map, List.length_map]
    have := len_preP d k
    have := len_sufP d l
    omega
  refine ⟨g1, g2, _, _, rfl, rfl, hg1', hg2, by rw [len_vn, len_vn]; exact Nat.le_trans lp (by decide), fun u hu8 => ?_⟩
  have eP : vn ((preP d k).map (numAt (leaves c (bare rs)))) ++ vn ((sufP d l).map (numAt (leaves c (bare rs)))) = vn ((partsP d k l).map (numAt (leaves c (bare rs)))) := by
    unfold partsP vn
    rw [List.map_append, List.map_append]
  rw [eP]
  have S8 := Same.upd (o := .lst (vn ((partsP d k l).map (numAt (leaves c (bare rs)))))) hu8
  have S58 := (hS6.trans hS7).trans S8
  have Co : Cor6 (upd H7 u (.lst (vn ((partsP d k l).map (numAt (leaves c (bare rs))))))) p r lv u ls z ns d c k l rs :=
    ⟨S58 _ _ hp5, S58 _ _ hr5, hR5.same S58, ok, hV, h32, S58 _ _ hlv, hls, hla.same6 S58, S58 _ _ hz, upd_same, hd, hc, by omega, hlc⟩
  generalize upd H7 u (.lst (vn ((partsP d k l).map (numAt (leaves c (bare rs)))))) = H8 at Co ⊢
  refine ⟨_, rfl, r, _, rfl, .inl (SqL.of Co.ro), fun ga hga0 => ?_⟩
  have S9 := Same.upd (o := .lst (refsN rs)) hga0
  have hga : (upd H8 ga (.lst (refsN rs))) ga = some (.lst (refsN rs)) := upd_same
  have C9 := Co.same S9
  generalize upd H8 ga (.lst (refsN rs)) = H9 at hga C9 ⊢
  refine ⟨_, rfl, _, rfl, _, rfl, _, rfl, d, k, l, ga, rs, rfl, hd, by omega, hl2, SqL.of hga, C9.rn, (by rw [← hc]; exact ok), by omega, h67, fun fo H10 hS10 _ hfo => ?_⟩
  refine r10 p r lv u ls z d c k l rs ga fo _ (C9.same hS10) (hS10 _ _ hga) ?_
  rw [hc]
  exact hfo
end
end Ts
namespace Ts
open PySem L2
theorem all_mk {l : PySem.W.OpenLaw} {w : World} {K : PySem.W.Frag} {h : Heap} {mg : Str → Option Value} {fa f1 f2 f3 f4 f5 f6 f7 f8 f9 f10 f11 f12 f13 f14 f15 f16 f17 f18 f19 f20 f21 f22 f23 f24 f25 f26 f27 f28  : Addr} (X : K.In h) (G : h.Ns mainGlobals mg) (hfa : mg "law" = some (.ref fa))
    {od1 an1 od2 an2 od3 an3 od4 an4 od5 an5 od6 an6 od7 an7 od8 an8 od9 an9 od10 an10 od11 an11 od12 an12 od13 an13 od14 an14 od15 an15 od16 an16 od17 an17 od18 an18 od19 an19 od20 an20 od21 an21 od22 an22 od23 an23 od24 an24 od25 an25 od26 an26 od27 an27 od28 an28 : Option Addr} {sl1 sl2 sl3 sl4 sl5 sl6 sl7 sl8 sl9 sl10 sl11 sl12 sl13 sl14 sl15 sl16 sl17 sl18 sl19 sl20 sl21 sl22 sl23 sl24 sl25 sl26 sl27 sl28 : Array (Option Value)} {oc1 kV1 dc1 pm1 cd1 ct1 oc2 kV2 dc2 pm2 cd2 ct2 oc3 kV3 dc3 pm3 cd3 ct3 oc4 kV4 dc4 pm4 cd4 ct4 oc5 kV5 dc5 pm5 cd5 ct5 oc6 kV6 dc6 pm6 cd6 ct6 oc7 kV7 dc7 pm7 cd7 ct7 oc8 kV8 dc8 pm8 cd8 ct8 oc9 kV9 dc9 pm9 cd9 ct9 oc10 kV10 dc10 pm10 cd10 ct10 oc11 kV11 dc11 pm11 cd11 ct11 oc12 kV12 dc12 pm12 cd12 ct12 oc13 kV13 dc13 pm13 cd13 ct13 oc14 kV14 dc14 pm14 cd14 ct14 oc15 kV15 dc15 pm15 cd15 ct15 oc16 kV16 dc16 pm16 cd16 ct16 oc17 kV17 dc17 pm17 cd17 ct17 oc18 kV18 dc18 pm18 cd18 ct18 oc19 kV19 dc19 pm19 cd19 ct19 oc20 kV20 dc20 pm20 cd20 ct20 oc21 kV21 dc21 pm21 cd21 ct21 oc22 kV22 dc22 pm22 cd22 ct22 oc23 kV23 dc23 pm23 cd23 ct23 oc24 kV24 dc24 pm24 cd24 ct24 oc25 kV25 dc25 pm25 cd25 ct25 oc26 kV26 dc26 pm26 cd26 ct26 oc27 kV27 dc27 pm27 cd27 ct27 oc28 kV28 dc28 pm28 cd28 ct28 : Value} {tk1 : Tok}
    (a1 : PySem.W.nsIn K mainGlobals "check_depth" = some (some (.ref f1))) (l1 : K.lookup f1 = some ⟨oc1, od1, .func (PySem.W.fnOf "check_depth" "check_depth" (defArgs sDepth) (defBody sDepth) (defScope sDepth) .none kV1 dc1 pm1 an1 cd1 ct1), sl1⟩) (c1 : PySem.W.codeIn K cd1 "check_depth" = true) (k1 : PySem.W.keepIn K (.ref f1) = true)
    (a2 : PySem.W.nsIn K mainGlobals "check_rows" = some (some (.ref f2))) (l2 : K.lookup f2 = some ⟨oc2, od2, .func (PySem.W.fnOf "check_rows" "check_rows" (defArgs sCRows) (defBody sCRows) (defScope sCRows) .none kV2 dc2 pm2 an2 cd2 ct2), sl2⟩) (c2 : PySem.W.codeIn K cd2 "check_rows" = true) (k2 : PySem.W.keepIn K (.ref f2) = true)
    (a3 : PySem.W.nsIn K mainGlobals "check_keys_of_rows" = some (some (.ref f3))) (l3 : K.lookup f3 = some ⟨oc3, od3, .func (PySem.W.fnOf "check_keys_of_rows" "check_keys_of_rows" (defArgs sCKeys) (defBody sCKeys) (defScope sCKeys) .none kV3 dc3 pm3 an3 cd3 ct3), sl3⟩) (c3 : PySem.W.codeIn K cd3 "check_keys_of_rows" = true) (k3 : PySem.W.keepIn K (.ref f3) = true)
    (a4 : PySem.W.nsIn K mainGlobals "check_key" = some (some (.ref f4))) (l4 : K.lookup f4 = some ⟨oc4, od4, .func (PySem.W.fnOf "check_key" "check_key" (defArgs sCKey) (defBody sCKey) (defScope sCKey) .none kV4 dc4 pm4 an4 cd4 ct4), sl4⟩) (c4 : PySem.W.codeIn K cd4 "check_key" = true) (k4 : PySem.W.keepIn K (.ref f4) = true)
    (a5 : PySem.W.nsIn K mainGlobals "check_value" = some (some (.ref f5))) (l5 : K.lookup f5 = some ⟨oc5, od5, .func (PySem.W.fnOf "check_value" "check_value" (defArgs sCVal) (defBody sCVal) (defScope sCVal) .none kV5 dc5 pm5 an5 cd5 ct5), sl5⟩) (c5 : PySem.W.codeIn K cd5 "check_value" = true) (k5 : PySem.W.keepIn K (.ref f5) = true)
    (a6 : PySem.W.nsIn K mainGlobals "check_numbers" = some (some (.ref f6))) (l6 : K.lookup f6 = some ⟨oc6, od6, .func (PySem.W.fnOf "check_numbers" "check_numbers" (defArgs sCNums) (defBody sCNums) (defScope sCNums) .none kV6 dc6 pm6 an6 cd6 ct6), sl6⟩) (c6 : PySem.W.codeIn K cd6 "check_numbers" = true) (k6 : PySem.W.keepIn K (.ref f6) = true)
    (a7 : PySem.W.nsIn K mainGlobals "count_of_places" = some (some (.ref f7))) (l7 : K.lookup f7 = some ⟨oc7, od7, .func (PySem.W.fnOf "count_of_places" "count_of_places" (defArgs sCount) (defBody sCount) (defScope sCount) .none kV7 dc7 pm7 an7 cd7 ct7), sl7⟩) (c7 : PySem.W.codeIn K cd7 "count_of_places" = true) (k7 : PySem.W.keepIn K (.ref f7) = true)
    (a8 : PySem.W.nsIn K mainGlobals "pair_of" = some (some (.ref f8))) (l8 : K.lookup f8 = some ⟨oc8, od8, .func (PySem.W.fnOf "pair_of" "pair_of" (defArgs sPair) (defBody sPair) (defScope sPair) .none kV8 dc8 pm8 an8 cd8 ct8), sl8⟩) (c8 : PySem.W.codeIn K cd8 "pair_of" = true) (k8 : PySem.W.keepIn K (.ref f8) = true)
    (a9 : PySem.W.nsIn K mainGlobals "pairs_below" = some (some (.ref f9))) (l9 : K.lookup f9 = some ⟨oc9, od9, .func (PySem.W.fnOf "pairs_below" "pairs_below" (defArgs sBelow) (defBody sBelow) (defScope sBelow) .none kV9 dc9 pm9 an9 cd9 ct9), sl9⟩) (c9 : PySem.W.codeIn K cd9 "pairs_below" = true) (k9 : PySem.W.keepIn K (.ref f9) = true)
    (a10 : PySem.W.nsIn K mainGlobals "place_numbers" = some (some (.ref f10))) (l10 : K.lookup f10 = some ⟨oc10, od10, .func (PySem.W.fnOf "place_numbers" "place_numbers" (defArgs sPlace) (defBody sPlace) (defScope sPlace) .none kV10 dc10 pm10 an10 cd10 ct10), sl10⟩) (c10 : PySem.W.codeIn K cd10 "place_numbers" = true) (k10 : PySem.W.keepIn K (.ref f10) = true)
    (a11 : PySem.W.nsIn K mainGlobals "number_by" = some (some (.ref f11))) (l11 : K.lookup f11 = some ⟨oc11, od11, .func (PySem.W.fnOf "number_by" "number_by" (defArgs sNumBy) (defBody sNumBy) (defScope sNumBy) .none kV11 dc11 pm11 an11 cd11 ct11), sl11⟩) (c11 : PySem.W.codeIn K cd11 "number_by" = true) (k11 : PySem.W.keepIn K (.ref f11) = true)
    (a12 : PySem.W.nsIn K mainGlobals "paired" = some (some (.ref f12))) (l12 : K.lookup f12 = some ⟨oc12, od12, .func (PySem.W.fnOf "paired" "paired" (defArgs sPaired) (defBody sPaired) (defScope sPaired) .none kV12 dc12 pm12 an12 cd12 ct12), sl12⟩) (c12 : PySem.W.codeIn K cd12 "paired" = true) (k12 : PySem.W.keepIn K (.ref f12) = true)
    (a13 : PySem.W.nsIn K mainGlobals "span_for" = some (some (.ref f13))) (l13 : K.lookup f13 = some ⟨oc13, od13, .func (PySem.W.fnOf "span_for" "span_for" (defArgs sSpan) (defBody sSpan) (defScope sSpan) .none kV13 dc13 pm13 an13 cd13 ct13), sl13⟩) (c13 : PySem.W.codeIn K cd13 "span_for" = true) (k13 : PySem.W.keepIn K (.ref f13) = true)
    (a14 : PySem.W.nsIn K mainGlobals "is_span" = some (some (.ref f14))) (l14 : K.lookup f14 = some ⟨oc14, od14, .func (PySem.W.fnOf "is_span" "is_span" (defArgs sIsSpan) (defBody sIsSpan) (defScope sIsSpan) .none kV14 dc14 pm14 an14 cd14 ct14), sl14⟩) (c14 : PySem.W.codeIn K cd14 "is_span" = true) (k14 : PySem.W.keepIn K (.ref f14) = true)
    (a15 : PySem.W.nsIn K mainGlobals "check_span" = some (some (.ref f15))) (l15 : K.lookup f15 = some ⟨oc15, od15, .func (PySem.W.fnOf "check_span" "check_span" (defArgs sCSpan) (defBody sCSpan) (defScope sCSpan) .none kV15 dc15 pm15 an15 cd15 ct15), sl15⟩) (c15 : PySem.W.codeIn K cd15 "check_span" = true) (k15 : PySem.W.keepIn K (.ref f15) = true)
    (a16 : PySem.W.nsIn K mainGlobals "all_within" = some (some (.ref f16))) (l16 : K.lookup f16 = some ⟨oc16, od16, .func (PySem.W.fnOf "all_within" "all_within" (defArgs sWithin) (defBody sWithin) (defScope sWithin) .none kV16 dc16 pm16 an16 cd16 ct16), sl16⟩) (c16 : PySem.W.codeIn K cd16 "all_within" = true) (k16 : PySem.W.keepIn K (.ref f16) = true)
    (a17 : PySem.W.nsIn K mainGlobals "levels_of" = some (some (.ref f17))) (l17 : K.lookup f17 = some ⟨oc17, od17, .func (PySem.W.fnOf "levels_of" "levels_of" (defArgs sLevelsOf) (defBody sLevelsOf) (defScope sLevelsOf) .none kV17 dc17 pm17 an17 cd17 ct17), sl17⟩) (c17 : PySem.W.codeIn K cd17 "levels_of" = true) (k17 : PySem.W.keepIn K (.ref f17) = true)
    (a18 : PySem.W.nsIn K mainGlobals "parts_outside" = some (some (.ref f18))) (l18 : K.lookup f18 = some ⟨oc18, od18, .func (PySem.W.fnOf "parts_outside" "parts_outside" (defArgs sOutside) (defBody sOutside) (defScope sOutside) .none kV18 dc18 pm18 an18 cd18 ct18), sl18⟩) (c18 : PySem.W.codeIn K cd18 "parts_outside" = true) (k18 : PySem.W.keepIn K (.ref f18) = true)
    (a19 : PySem.W.nsIn K mainGlobals "leads_to" = some (some (.ref f19))) (l19 : K.lookup f19 = some ⟨oc19, od19, .func (PySem.W.fnOf "leads_to" "leads_to" (defArgs sLeads) (defBody sLeads) (defScope sLeads) .none kV19 dc19 pm19 an19 cd19 ct19), sl19⟩) (c19 : PySem.W.codeIn K cd19 "leads_to" = true) (k19 : PySem.W.keepIn K (.ref f19) = true)
    (a20 : PySem.W.nsIn K mainGlobals "_law_at" = some (some (.ref f20))) (l20 : K.lookup f20 = some ⟨oc20, od20, .func (PySem.W.fnOf "_law_at" "_law_at" (defArgs sAt) (defBody sAt) (defScope sAt) .none kV20 dc20 pm20 an20 cd20 ct20), sl20⟩) (c20 : PySem.W.codeIn K cd20 "_law_at" = true) (k20 : PySem.W.keepIn K (.ref f20) = true)
    (a21 : PySem.W.nsIn K mainGlobals "_law_rows_by" = some (some (.ref f21))) (l21 : K.lookup f21 = some ⟨oc21, od21, .func (PySem.W.fnOf "_law_rows_by" "_law_rows_by" (defArgs sBy) (defBody sBy) (defScope sBy) .none kV21 dc21 pm21 an21 cd21 ct21), sl21⟩) (c21 : PySem.W.codeIn K cd21 "_law_rows_by" = true) (k21 : PySem.W.keepIn K (.ref f21) = true)
    (a22 : PySem.W.nsIn K mainGlobals "_law_joined_up" = some (some (.ref f22))) (l22 : K.lookup f22 = some ⟨oc22, od22, .func (PySem.W.fnOf "_law_joined_up" "_law_joined_up" (defArgs sJoin) (defBody sJoin) (defScope sJoin) .none kV22 dc22 pm22 an22 cd22 ct22), sl22⟩) (c22 : PySem.W.codeIn K cd22 "_law_joined_up" = true) (k22 : PySem.W.keepIn K (.ref f22) = true)
    (a23 : PySem.W.nsIn K mainGlobals "_law_by_levels" = some (some (.ref f23))) (l23 : K.lookup f23 = some ⟨oc23, od23, .func (PySem.W.fnOf "_law_by_levels" "_law_by_levels" (defArgs sLevels) (defBody sLevels) (defScope sLevels) .none kV23 dc23 pm23 an23 cd23 ct23), sl23⟩) (c23 : PySem.W.codeIn K cd23 "_law_by_levels" = true) (k23 : PySem.W.keepIn K (.ref f23) = true)
    (a24 : PySem.W.nsIn K mainGlobals "_law_leaves" = some (some (.ref f24))) (l24 : K.lookup f24 = some ⟨oc24, od24, .func (PySem.W.fnOf "_law_leaves" "_law_leaves" (defArgs sLeaves) (defBody sLeaves) (defScope sLeaves) .none kV24 dc24 pm24 an24 cd24 ct24), sl24⟩) (c24 : PySem.W.codeIn K cd24 "_law_leaves" = true) (k24 : PySem.W.keepIn K (.ref f24) = true)
    (a25 : PySem.W.nsIn K mainGlobals "_law_stays_so" = some (some (.ref f25))) (l25 : K.lookup f25 = some ⟨oc25, od25, .func (PySem.W.fnOf "_law_stays_so" "_law_stays_so" (defArgs sStays) (defBody sStays) (defScope sStays) .none kV25 dc25 pm25 an25 cd25 ct25), sl25⟩) (c25 : PySem.W.codeIn K cd25 "_law_stays_so" = true) (k25 : PySem.W.keepIn K (.ref f25) = true)
    (a26 : PySem.W.nsIn K mainGlobals "_law_outer" = some (some (.ref f26))) (l26 : K.lookup f26 = some ⟨oc26, od26, .func (PySem.W.fnOf "_law_outer" "_law_outer" (defArgs sOuter) (defBody sOuter) (defScope sOuter) .none kV26 dc26 pm26 an26 cd26 ct26), sl26⟩) (c26 : PySem.W.codeIn K cd26 "_law_outer" = true) (k26 : PySem.W.keepIn K (.ref f26) = true)
    (a27 : PySem.W.nsIn K mainGlobals "_law_bent" = some (some (.ref f27))) (l27 : K.lookup f27 = some ⟨oc27, od27, .func (PySem.W.fnOf "_law_bent" "_law_bent" (defArgs sBent) (defBody sBent) (defScope sBent) .none kV27 dc27 pm27 an27 cd27 ct27), sl27⟩) (c27 : PySem.W.codeIn K cd27 "_law_bent" = true) (k27 : PySem.W.keepIn K (.ref f27) = true)
    (a28 : PySem.W.nsIn K mainGlobals "law" = some (some (.ref f28))) (l28 : K.lookup f28 = some ⟨oc28, od28, .func (PySem.W.fnOf "law" "law" (defArgs sLaw) (defBody sLaw) (defScope sLaw) .none kV28 dc28 pm28 an28 cd28 ct28), sl28⟩) (c28 : PySem.W.codeIn K cd28 "law" = true) (k28 : PySem.W.keepIn K (.ref f28) = true)
    (g1 : PySem.W.nsIn K mainGlobals "GREATEST_DEPTH" = some (some (.int 8 tk1)))
    (z1 : PySem.W.nsIn K mainGlobals "len" = some none)    (z2 : PySem.W.nsIn K mainGlobals "range" = some none)    (z3 : PySem.W.nsIn K mainGlobals "min" = some none)    (z4 : PySem.W.nsIn K mainGlobals "isinstance" = some none)    (z5 : PySem.W.nsIn K mainGlobals "int" = some none)    (z6 : PySem.W.nsIn K mainGlobals "bool" = some none)    (z7 : PySem.W.nsIn K mainGlobals "tuple" = some none)    (z8 : PySem.W.nsIn K mainGlobals "list" = some none)    (z9 : PySem.W.nsIn K mainGlobals "str" = some none)    (z10 : PySem.W.nsIn K mainGlobals "sorted" = some none)    (z11 : PySem.W.nsIn K mainGlobals "max" = some none)    (z12 : PySem.W.nsIn K mainGlobals "dict" = some none)    (z13 : PySem.W.nsIn K mainGlobals "zip" = some none) :
    ∃ fd : FuncData, (∀ (s : Shared) (v : Value), BindsTo s fd ⟨[v], []⟩ [("_law_script", v)]) ∧ ∀ base : Heap, K.In base → base.Ns mainGlobals mg → FnOk l.prog w K mg base CX0 6 fa fd ["_law_script"] (spLaw K) := by
  have e := hfa.symm.trans (PySem.W.mg_of X G a28)
  cases e
  have F1 := fun_mk (st := sDepth) l1 c1 k1
  have m1 := PySem.W.mg_of X G a1
  have b1 := F1.binds (ps := ["depth"]) fun _ _ _ _ _ _ us hl => match us, hl with | [_], _ => rfl
  have F2 := fun_mk (st := sCRows) l2 c2 k2
  have m2 := PySem.W.mg_of X G a2
  have b2 := F2.binds (ps := ["depth", "rows"]) fun _ _ _ _ _ _ us hl => match us, hl with | [_, _], _ => rfl
  have F3 := fun_mk (st := sCKeys) l3 c3 k3
  have m3 := PySem.W.mg_of X G a3
  have b3 := F3.binds (ps := ["depth", "rows"]) fun _ _ _ _ _ _ us hl => match us, hl with | [_, _], _ => rfl
  have F4 := fun_mk (st := sCKey) l4 c4 k4
  have m4 := PySem.W.mg_of X G a4
  have b4 := F4.binds (ps := ["depth", "key"]) fun _ _ _ _ _ _ us hl => match us, hl with | [_, _], _ => rfl
  have F5 := fun_mk (st := sCVal) l5 c5 k5
  have m5 := PySem.W.mg_of X G a5
  have b5 := F5.binds (ps := ["value"]) fun _ _ _ _ _ _ us hl => match us, hl with | [_], _ => rfl
  have F6 := fun_mk (st := sCNums) l6 c6 k6
  have m6 := PySem.W.mg_of X G a6
  have b6 := F6.binds (ps := ["numbers"]) fun _ _ _ _ _ _ us hl => match us, hl with | [_], _ => rfl
  have F7 := fun_mk (st := sCount) l7 c7 k7
  have m7 := PySem.W.mg_of X G a7
  have b7 := F7.binds (ps := ["depth"]) fun _ _ _ _ _ _ us hl => match us, hl with | [_], _ => rfl
  have F8 := fun_mk (st := sPair) l8 c8 k8
  have m8 := PySem.W.mg_of X G a8
  have b8 := F8.binds (ps := ["one", "two"]) fun _ _ _ _ _ _ us hl => match us, hl with | [_, _], _ => rfl
  have F9 := fun_mk (st := sBelow) l9 c9 k9
  have m9 := PySem.W.mg_of X G a9
  have b9 := F9.binds (ps := ["total"]) fun _ _ _ _ _ _ us hl => match us, hl with | [_], _ => rfl
  have F10 := fun_mk (st := sPlace) l10 c10 k10
  have m10 := PySem.W.mg_of X G a10
  have b10 := F10.binds (ps := ["depth", "rows"]) fun _ _ _ _ _ _ us hl => match us, hl with | [_, _], _ => rfl
  have F11 := fun_mk (st := sNumBy) l11 c11 k11
  have m11 := PySem.W.mg_of X G a11
  have b11 := F11.binds (ps := ["value"]) fun _ _ _ _ _ _ us hl => match us, hl with | [_], _ => rfl
  have F12 := fun_mk (st := sPaired) l12 c12 k12
  have m12 := PySem.W.mg_of X G a12
  have b12 := F12.binds (ps := ["numbers"]) fun _ _ _ _ _ _ us hl => match us, hl with | [_], _ => rfl
  have F13 := fun_mk (st := sSpan) l13 c13 k13
  have m13 := PySem.W.mg_of X G a13
  have b13 := F13.binds (ps := ["depth", "rows", "first", "last"]) fun _ _ _ _ _ _ us hl => match us, hl with | [_, _, _, _], _ => rfl
  have F14 := fun_mk (st := sIsSpan) l14 c14 k14
  have m14 := PySem.W.mg_of X G a14
  have b14 := F14.binds (ps := ["depth", "top", "first", "last", "rows", "numbers"]) fun _ _ _ _ _ _ us hl => match us, hl with | [_, _, _, _, _, _], _ => rfl
  have F15 := fun_mk (st := sCSpan) l15 c15 k15
  have m15 := PySem.W.mg_of X G a15
  have b15 := F15.binds (ps := ["depth", "first", "last"]) fun _ _ _ _ _ _ us hl => match us, hl with | [_, _, _], _ => rfl
  have F16 := fun_mk (st := sWithin) l16 c16 k16
  have m16 := PySem.W.mg_of X G a16
  have b16 := F16.binds (ps := ["rows", "first", "last"]) fun _ _ _ _ _ _ us hl => match us, hl with | [_, _, _], _ => rfl
  have F17 := fun_mk (st := sLevelsOf) l17 c17 k17
  have m17 := PySem.W.mg_of X G a17
  have b17 := F17.binds (ps := ["depth", "rows"]) fun _ _ _ _ _ _ us hl => match us, hl with | [_, _], _ => rfl
  have F18 := fun_mk (st := sOutside) l18 c18 k18
  have m18 := PySem.W.mg_of X G a18
  have b18 := F18.binds (ps := ["depth", "first", "last"]) fun _ _ _ _ _ _ us hl => match us, hl with | [_, _, _], _ => rfl
  have F19 := fun_mk (st := sLeads) l19 c19 k19
  have m19 := PySem.W.mg_of X G a19
  have b19 := F19.binds (ps := ["depth", "top", "first", "last", "within", "outside"]) fun _ _ _ _ _ _ us hl => match us, hl with | [_, _, _, _, _, _], _ => rfl
  have F20 := fun_mk (st := sAt) l20 c20 k20
  have m20 := PySem.W.mg_of X G a20
  have b20 := F20.binds (ps := ["_law_script", "_law_k"]) fun _ _ _ _ _ _ us hl => match us, hl with | [_, _], _ => rfl
  have F21 := fun_mk (st := sBy) l21 c21 k21
  have m21 := PySem.W.mg_of X G a21
  have b21 := F21.binds (ps := ["_law_script", "_law_first", "_law_count"]) fun _ _ _ _ _ _ us hl => match us, hl with | [_, _, _], _ => rfl
  have F22 := fun_mk (st := sJoin) l22 c22 k22
  have m22 := PySem.W.mg_of X G a22
  have b22 := F22.binds (ps := ["_law_one", "_law_two"]) fun _ _ _ _ _ _ us hl => match us, hl with | [_, _], _ => rfl
  have F23 := fun_mk (st := sLevels) l23 c23 k23
  have m23 := PySem.W.mg_of X G a23
  have b23 := F23.binds (ps := ["_law_row"]) fun _ _ _ _ _ _ us hl => match us, hl with | [_], _ => rfl
  have F24 := fun_mk (st := sLeaves) l24 c24 k24
  have m24 := PySem.W.mg_of X G a24
  have b24 := F24.binds (ps := ["_law_rows", "_law_count"]) fun _ _ _ _ _ _ us hl => match us, hl with | [_, _], _ => rfl
  have F25 := fun_mk (st := sStays) l25 c25 k25
  have m25 := PySem.W.mg_of X G a25
  have b25 := F25.binds (ps := ["_law_handed", "_law_own"]) fun _ _ _ _ _ _ us hl => match us, hl with | [_, _], _ => rfl
  have F26 := fun_mk (st := sOuter) l26 c26 k26
  have m26 := PySem.W.mg_of X G a26
  have b26 := F26.binds (ps := ["_law_levels", "_law_start", "_law_stop"]) fun _ _ _ _ _ _ us hl => match us, hl with | [_, _, _], _ => rfl
  have F27 := fun_mk (st := sBent) l27 c27 k27
  have m27 := PySem.W.mg_of X G a27
  have b27 := F27.binds (ps := ["_law_rows", "_law_numbers", "_law_way", "_law_seed", "_law_key"]) fun _ _ _ _ _ _ us hl => match us, hl with | [_, _, _, _, _], _ => rfl
  have F28 := fun_mk (st := sLaw) l28 c28 k28
  have n_len := PySem.W.mg_none_of X G z1
  have n_range := PySem.W.mg_none_of X G z2
  have n_min := PySem.W.mg_none_of X G z3
  have n_isinstance := PySem.W.mg_none_of X G z4
  have n_int := PySem.W.mg_none_of X G z5
  have n_bool := PySem.W.mg_none_of X G z6
  have n_tuple := PySem.W.mg_none_of X G z7
  have n_list := PySem.W.mg_none_of X G z8
  have n_str := PySem.W.mg_none_of X G z9
  have n_sorted := PySem.W.mg_none_of X G z10
  have n_max := PySem.W.mg_none_of X G z11
  have n_dict := PySem.W.mg_none_of X G z12
  have n_zip := PySem.W.mg_none_of X G z13
  refine ⟨PySem.W.fnOf "law" "law" (defArgs sLaw) (defBody sLaw) (defScope sLaw) .none kV28 dc28 pm28 an28 cd28 ct28, fun s v => .of_eq rfl, fun base KB GB => ?_⟩
  have T : Blt mg := ⟨n_len, n_range, n_min, n_isinstance, n_int, n_bool, n_tuple, n_list, n_str⟩
  have G9 := ok_below (P := l.prog) (w := w) (mg := mg) (base := base) F9
  have h8 : Has l.prog w K mg base "pair_of" 2 ["one", "two"] spPair := ⟨_, _, ok_pair F8 G9 b9 k9 m9, b8, k8, m8⟩
  have h1 : Has l.prog w K mg base "check_depth" 1 ["depth"] spDepth := ⟨_, _, ok_depth F1 (PySem.W.mg_of X G g1), b1, k1, m1⟩
  have h7 : Has l.prog w K mg base "count_of_places" 1 ["depth"] spCount := ⟨_, _, ok_count F7, b7, k7, m7⟩
  have h4 : Has l.prog w K mg base "check_key" 2 ["depth", "key"] spCKey := ⟨_, _, ok_ckey F4 h7, b4, k4, m4⟩
  have h5 : Has l.prog w K mg base "check_value" 1 ["value"] spCVal := ⟨_, _, ok_cval F5, b5, k5, m5⟩
  have h3 : Has l.prog w K mg base "check_keys_of_rows" 3 ["depth", "rows"] (spCRows K) := ⟨_, _, ok_ckeys F3 h4, b3, k3, m3⟩
  have h2 : Has l.prog w K mg base "check_rows" 4 ["depth", "rows"] (spCRows K) := ⟨_, _, ok_crows F2 h3 h5, b2, k2, m2⟩
  have h11 : Has l.prog w K mg base "number_by" 1 ["value"] spNumBy := ⟨_, _, ok_numby F11, b11, k11, m11⟩
  have h10 : Has l.prog w K mg base "place_numbers" 2 ["depth", "rows"] (spPlace K) := ⟨_, _, ok_place F10 h7 h11, b10, k10, m10⟩
  have h12 : Has l.prog w K mg base "paired" 3 ["numbers"] (spPaired K) := ⟨_, _, ok_paired F12 n_range n_len h8, b12, k12, m12⟩
  have h6 : Has l.prog w K mg base "check_numbers" 1 ["numbers"] (spCNums K) := ⟨_, _, ok_cnums F6, b6, k6, m6⟩
  have h15 : Has l.prog w K mg base "check_span" 3 ["depth", "first", "last"] spCSpan := ⟨_, _, ok_cspan F15 h4, b15, k15, m15⟩
  have h16 : Has l.prog w K mg base "all_within" 1 ["rows", "first", "last"] (spWithin K) := ⟨_, _, ok_within F16, b16, k16, m16⟩
  have h17 : Has l.prog w K mg base "levels_of" 4 ["depth", "rows"] (spLevOf K) := ⟨_, _, ok_levof F17 n_len h10 h12, b17, k17, m17⟩
  have h18 : Has l.prog w K mg base "parts_outside" 1 ["depth", "first", "last"] (spOutside K) := ⟨_, _, ok_outside F18 n_range, b18, k18, m18⟩
  have h19 : Has l.prog w K mg base "leads_to" 4 ["depth", "top", "first", "last", "within", "outside"] (spLeads6 K) := ⟨_, _, ok_leads6 F19 n_range n_max h12, b19, k19, m19⟩
  have h13 : Has l.prog w K mg base "span_for" 5 ["depth", "rows", "first", "last"] (spSpan K) := ⟨_, _, ok_span F13 h1 h2 h15 h17 h18, b13, k13, m13⟩
  have h14 : Has l.prog w K mg base "is_span" 5 ["depth", "top", "first", "last", "rows", "numbers"] (spIsSpan K) := ⟨_, _, ok_isspan F14 n_len n_dict n_zip h1 h2 h15 h6 h18 h16 h10 h19, b14, k14, m14⟩
  have h20 : Has l.prog w K mg base "_law_at" 1 ["_law_script", "_law_k"] (spAt K) := ⟨_, _, ok_at F20 T, b20, k20, m20⟩
  have h21 : Has l.prog w K mg base "_law_rows_by" 2 ["_law_script", "_law_first", "_law_count"] (spBy K) := ⟨_, _, ok_by F21 T h20, b21, k21, m21⟩
  have h22 : Has l.prog w K mg base "_law_joined_up" 1 ["_law_one", "_law_two"] spJoin := ⟨_, _, ok_join F22, b22, k22, m22⟩
  have h23 : Has l.prog w K mg base "_law_by_levels" 2 ["_law_row"] (spLevels K) := ⟨_, _, ok_levels F23 T h22, b23, k23, m23⟩
  have h24 : Has l.prog w K mg base "_law_leaves" 1 ["_law_rows", "_law_count"] (spLeaves K) := ⟨_, _, ok_leaves F24, b24, k24, m24⟩
  have h25 : Has l.prog w K mg base "_law_stays_so" 1 ["_law_handed", "_law_own"] spStays := ⟨_, _, ok_stays F25 T, b25, k25, m25⟩
  have h26 : Has l.prog w K mg base "_law_outer" 1 ["_law_levels", "_law_start", "_law_stop"] (spOuter K) := ⟨_, _, ok_outer F26, b26, k26, m26⟩
  have h27 : Has l.prog w K mg base "_law_bent" 1 ["_law_rows", "_law_numbers", "_law_way", "_law_seed", "_law_key"] (spBent K) := ⟨_, _, ok_bent F27 T, b27, k27, m27⟩
  exact ok_law F28 T n_sorted h20 h21 h23 h24 h25 h26 h27 h13 h14
theorem walk {l : PySem.W.OpenLaw} {q : Program} {loose : List Str} {XP : (Str → Option Value) → Heap → Prop} {YP : World → Heap → Prop} {d : DefRec} {K : Params → PySem.W.Frag} (hn : l.most = some 63) (hdf : d.params.defaults = [])
    (hY : ∀ (w : World) (h : Heap), YP w h → (K w.params).In h)
    (F : ∀ (w : World) (mg : Str → Option Value) (fa : Addr) (h : Heap), (K w.params).In h → h.Ns mainGlobals mg → mg d.name = some (.ref fa) →
      ∃ fd : FuncData, (∀ (s : Shared) (u : Value), BindsTo s fd ⟨[u], []⟩ [("_law_script", u)]) ∧ ∀ base : Heap, (K w.params).In base → base.Ns mainGlobals mg → FnOk l.prog w (K w.params) mg base CX0 6 fa fd ["_law_script"] (spLaw (K w.params))) :
    PySem.W.WalkO q loose XP YP l.row.toRowW d [] (fun f vs => PySem.call f vs) :=
  L2.walk_of (n := 63) (k := 6) (x := "_law_script") (CX := fun _ => CX0) (sp := fun w => spLaw (K w.params)) hn (by decide) hdf ⟨rfl, by decide, by decide⟩ hY F (fun _ _ a ns hl _ hS => ⟨a, ns, rfl, hS, hl, fun _ => rfl⟩) fun _ _ _ _ _ z => z
end Ts
open PySem PySem.W PyProof.Rows
set_option maxRecDepth 100000 in
set_option maxHeartbeats 0 in
theorem PySem.Challenge.cw_topslip_k06_whole_spans_holds : PySem.Challenge.rw_topslip_k06_whole_spans.Holds := by
  w_on; o_law; k_head; (case hw => w_witness2)
  k_fill
  refine Ts.walk (l := PySem.Challenge.rw_topslip_k06_whole_spans) rfl rfl (fun w h Y => PySem.W.kIn_of Y) ?F
  case F =>
    intro w mg fa h KX G hmg
    refine' Ts.all_mk KX G hmg ?a1 ?l1 ?c1 ?k1 ?a2 ?l2 ?c2 ?k2 ?a3 ?l3 ?c3 ?k3 ?a4 ?l4 ?c4 ?k4 ?a5 ?l5 ?c5 ?k5 ?a6 ?l6 ?c6 ?k6 ?a7 ?l7 ?c7 ?k7 ?a8 ?l8 ?c8 ?k8 ?a9 ?l9 ?c9 ?k9 ?a10 ?l10 ?c10 ?k10 ?a11 ?l11 ?c11 ?k11 ?a12 ?l12 ?c12 ?k12 ?a13 ?l13 ?c13 ?k13 ?a14 ?l14 ?c14 ?k14 ?a15 ?l15 ?c15 ?k15 ?a16 ?l16 ?c16 ?k16 ?a17 ?l17 ?c17 ?k17 ?a18 ?l18 ?c18 ?k18 ?a19 ?l19 ?c19 ?k19 ?a20 ?l20 ?c20 ?k20 ?a21 ?l21 ?c21 ?k21 ?a22 ?l22 ?c22 ?k22 ?a23 ?l23 ?c23 ?k23 ?a24 ?l24 ?c24 ?k24 ?a25 ?l25 ?c25 ?k25 ?a26 ?l26 ?c26 ?k26 ?a27 ?l27 ?c27 ?k27 ?a28 ?l28 ?c28 ?k28 ?g1 ?z1 ?z2 ?z3 ?z4 ?z5 ?z6 ?z7 ?z8 ?z9 ?z10 ?z11 ?z12 ?z13
    (case a1 => k_is); (case l1 => k_is); (case c1 => k_is); (case k1 => k_is)
    (case a2 => k_is); (case l2 => k_is); (case c2 => k_is); (case k2 => k_is)
    (case a3 => k_is); (case l3 => k_is); (case c3 => k_is); (case k3 => k_is)
    (case a4 => k_is); (case l4 => k_is); (case c4 => k_is); (case k4 => k_is)
    (case a5 => k_is); (case l5 => k_is); (case c5 => k_is); (case k5 => k_is)
    (case a6 => k_is); (case l6 => k_is); (case c6 => k_is); (case k6 => k_is)
    (case a7 => k_is); (case l7 => k_is); (case c7 => k_is); (case k7 => k_is)
    (case a8 => k_is); (case l8 => k_is); (case c8 => k_is); (case k8 => k_is)
    (case a9 => k_is); (case l9 => k_is); (case c9 => k_is); (case k9 => k_is)
    (case a10 => k_is); (case l10 => k_is); (case c10 => k_is); (case k10 => k_is)
    (case a11 => k_is); (case l11 => k_is); (case c11 => k_is); (case k11 => k_is)
    (case a12 => k_is); (case l12 => k_is); (case c12 => k_is); (case k12 => k_is)
    (case a13 => k_is); (case l13 => k_is); (case c13 => k_is); (case k13 => k_is)
    (case a14 => k_is); (case l14 => k_is); (case c14 => k_is); (case k14 => k_is)
    (case a15 => k_is); (case l15 => k_is); (case c15 => k_is); (case k15 => k_is)
    (case a16 => k_is); (case l16 => k_is); (case c16 => k_is); (case k16 => k_is)
    (case a17 => k_is); (case l17 => k_is); (case c17 => k_is); (case k17 => k_is)
    (case a18 => k_is); (case l18 => k_is); (case c18 => k_is); (case k18 => k_is)
    (case a19 => k_is); (case l19 => k_is); (case c19 => k_is); (case k19 => k_is)
    (case a20 => k_is); (case l20 => k_is); (case c20 => k_is); (case k20 => k_is)
    (case a21 => k_is); (case l21 => k_is); (case c21 => k_is); (case k21 => k_is)
    (case a22 => k_is); (case l22 => k_is); (case c22 => k_is); (case k22 => k_is)
    (case a23 => k_is); (case l23 => k_is); (case c23 => k_is); (case k23 => k_is)
    (case a24 => k_is); (case l24 => k_is); (case c24 => k_is); (case k24 => k_is)
    (case a25 => k_is); (case l25 => k_is); (case c25 => k_is); (case k25 => k_is)
    (case a26 => k_is); (case l26 => k_is); (case c26 => k_is); (case k26 => k_is)
    (case a27 => k_is); (case l27 => k_is); (case c27 => k_is); (case k27 => k_is)
    (case a28 => k_is); (case l28 => k_is); (case c28 => k_is); (case k28 => k_is)
    (case g1 => k_is)
    (case z1 => k_is)
    (case z2 => k_is)
    (case z3 => k_is)
    (case z4 => k_is)
    (case z5 => k_is)
    (case z6 => k_is)
    (case z7 => k_is)
    (case z8 => k_is)
    (case z9 => k_is)
    (case z10 => k_is)
    (case z11 => k_is)
    (case z12 => k_is)
    (case z13 => k_is)
