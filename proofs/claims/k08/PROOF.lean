import PyProof.Rows.All
import Wide.All
import OpenK.AllK
import Wide.FinOn
import Lean
import PyProof.EqAt
import PyProof.EqKinds
import PyProof.TupleCall
import PyProof.ZipIter
import PyProof.AttrMissHeap
import KE.KDictOf
import PyProof.Rows.FactsT1
import PyProof.Rows.FactsT2
import PyProof.Rows.MinMaxN
import PyProof.AutoSeq1
import KE.KTryMore
import KE.KDictSum
import PyProof.SetRoads
import PyProof.Rows.SetFrom
import PyProof.FactsAll.set_1
import PyProof.FactsAll.set_2
import PyProof.Rows.CountFlat
import PySem.Challenge.RW_topslip_k08_refused
set_option Elab.async false
set_option linter.all false
set_option maxRecDepth 100000
namespace L2
open PySem PySem.Spec PyProof.Rows
abbrev Key := Sum Int Str
def keyIs : Key → Value → Bool
  | .inl k, v => Value.isInt k v
  | .inr x, v => Value.isStrOf x v
def keyH (w : World) : Key → Int
  | .inl k => hashInt k
  | .inr x => hashStr w x
theorem keyIs_shape : ∀ {k : Key} {v : Value}, keyIs k v = true → (∃ i t, k = Sum.inl i ∧ v = Value.int i t) ∨ (∃ x t, k = Sum.inr x ∧ v = Value.str x t)
  | .inl i, v, h => by
    obtain ⟨t, e⟩ := Value.isInt_shape (k := i) (v := v) h
    exact .inl ⟨i, t, rfl, e⟩
  | .inr x, v, h => by
    obtain ⟨t, e⟩ := Value.isStrOf_shape (x := x) (v := v) h
    exact .inr ⟨x, t, rfl, e⟩
theorem keyIs_int (i : Int) (t : Tok) : keyIs (.inl i) (.int i t) = true := by simp [keyIs, Value.isInt]
theorem keyIs_str (x : Str) (t : Tok) : keyIs (.inr x) (.str x t) = true := by simp [keyIs, Value.isStrOf]
theorem key_ll (a b : Int) : decide ((Sum.inl a : Key) = Sum.inl b) = (a == b) := by
  by_cases e : a = b
  · subst e; simp
  · have h : ¬ (Sum.inl a : Key) = Sum.inl b := fun q => e (Sum.inl.inj q)
    rw [decide_eq_false h]
    exact (beq_eq_false_iff_ne.mpr e).symm
theorem key_rr (a b : Str) : decide ((Sum.inr a : Key) = Sum.inr b) = decide (a = b) := by
  by_cases e : a = b
  · subst e; simp
  · have h : ¬ (Sum.inr a : Key) = Sum.inr b := fun q => e (Sum.inr.inj q)
    rw [decide_eq_false h, decide_eq_false e]
theorem key_lr (a : Int) (b : Str) : decide ((Sum.inl a : Key) = Sum.inr b) = false := decide_eq_false (fun q => nomatch q)
theorem key_rl (a : Str) (b : Int) : decide ((Sum.inr a : Key) = Sum.inl b) = false := decide_eq_false (fun q => nomatch q)
def mixKind (prog : Program) (w : World) : PySem.KeyKind prog w Key where
  is := keyIs
  hash := keyH w
  inj := fun v a b ha hb => by
    rcases keyIs_shape ha with ⟨i, t, rfl, rfl⟩ | ⟨x, t, rfl, rfl⟩
    · rcases keyIs_shape hb with ⟨j, u, rfl, e⟩ | ⟨y, u, rfl, e⟩
      · injection e with e1 _; rw [e1]
      · exact nomatch e
    · rcases keyIs_shape hb with ⟨j, u, rfl, e⟩ | ⟨y, u, rfl, e⟩
      · exact nomatch e
      · injection e with e1 _; rw [e1]
  byValue := fun k v h => by
    rcases keyIs_shape h with ⟨i, t, rfl, rfl⟩ | ⟨x, t, rfl, rfl⟩ <;> rfl
  pyHash := fun hv h => by
    rcases keyIs_shape hv with ⟨i, t, rfl, rfl⟩ | ⟨x, t, rfl, rfl⟩
    · exact wpAny_pyHash_int h
    · exact wpAny_pyHash_str h
  eqBool := fun hu hv h => by
    rcases keyIs_shape hu with ⟨i, t, rfl, rfl⟩ | ⟨x, t, rfl, rfl⟩
    · rcases keyIs_shape hv with ⟨j, u, rfl, rfl⟩ | ⟨y, u, rfl, rfl⟩
      · rw [key_ll] at h; exact wpAny_eqBool_int h
      · rw [key_lr] at h; exact SeqAt.EqAt.int_str i t y u _ _ _ _ h
    · rcases keyIs_shape hv with ⟨j, u, rfl, rfl⟩ | ⟨y, u, rfl, rfl⟩
      · rw [key_rl] at h; exact SeqAt.EqAt.str_int x t j u _ _ _ _ h
      · rw [key_rr] at h; exact wpAny_eqBool_str h
  «strs» := fun k x t v h => by
    rcases keyIs_shape h with ⟨i, u, rfl, e⟩ | ⟨y, u, rfl, e⟩
    · exact nomatch e
    · injection e with e1 _
      subst e1
      cases v <;> rfl
theorem mixKind_int (prog : Program) (w : World) (i : Int) (t : Tok) : (mixKind prog w).is (.inl i) (.int i t) = true := keyIs_int i t
theorem mixKind_str (prog : Program) (w : World) (x : Str) (t : Tok) : (mixKind prog w).is (.inr x) (.str x t) = true := keyIs_str x t
end L2
namespace L2
open PySem PySem.Spec PyProof.Rows
inductive V where
  | non | bl (b : Bool) | int (i : Int) | str (x : Str) | byt (b : Array UInt8) | flt (b : UInt64) | ref (a : Addr) | ty (n : String)
  deriving DecidableEq
def RelV : V → Value → Prop
  | .non, u => u = Value.none
  | .bl b, u => u = Value.bool b
  | .int i, u => ∃ t, u = Value.int i t
  | .str x, u => ∃ t, u = Value.str x t
  | .byt b, u => ∃ t, u = Value.bytes b t
  | .flt b, u => ∃ t, u = Value.float b t
  | .ref a, u => u = Value.ref a
  | .ty n, u => u = Value.type n
abbrev Vals : List V → List Value → Prop := Paired RelV
theorem Vals.length {xs : List V} {us : List Value} (r : Vals xs us) : xs.length = us.length := Paired.length r
theorem Vals.get : ∀ {xs : List V} {us : List Value} {i : Nat} {x : V}, Vals xs us → xs[i]? = some x → ∃ u, us[i]? = some u ∧ RelV x u
  | _, _, _, _, .nil, e => by simp at e
  | _, _, 0, _, .cons r _, e => by simp at e; subst e; exact ⟨_, rfl, r⟩
  | _, _, i + 1, x, .cons _ t, e => by
    obtain ⟨u, h1, h2⟩ := Vals.get (i := i) (x := x) t (by simpa using e)
    exact ⟨u, by simpa using h1, h2⟩
theorem Vals.set {x : V} {u : Value} (r : RelV x u) : ∀ {xs : List V} {us : List Value} (i : Nat), Vals xs us → Vals (xs.set i x) (us.set i u)
  | _, _, _, .nil => .nil
  | _, _, 0, .cons _ t => .cons r t
  | _, _, i + 1, .cons q t => .cons q (Vals.set r i t)
theorem Vals.append : ∀ {xs ys : List V} {us ws : List Value}, Vals xs us → Vals ys ws → Vals (xs ++ ys) (us ++ ws)
  | _, _, _, _, .nil, s => s
  | _, _, _, _, .cons r t, s => .cons r (Vals.append t s)
theorem Vals.take : ∀ {xs : List V} {us : List Value} (n : Nat), Vals xs us → Vals (xs.take n) (us.take n)
  | _, _, 0, _ => .nil
  | _, _, _ + 1, .nil => .nil
  | _, _, n + 1, .cons r t => .cons r (Vals.take n t)
theorem Vals.drop : ∀ {xs : List V} {us : List Value} (n : Nat), Vals xs us → Vals (xs.drop n) (us.drop n)
  | _, _, 0, r => r
  | _, _, _ + 1, .nil => .nil
  | _, _, n + 1, .cons _ t => Vals.drop n t
def RelO : Option V → Option Value → Prop
  | some v, some u => RelV v u
  | none, none => True
  | _, _ => False
def KV {κ : Type} : List (κ × V) → List (κ × Value) → Prop := Paired fun (p : κ × V) (q : κ × Value) => p.1 = q.1 ∧ RelV p.2 q.2
def kV : Key → V
  | .inl i => .int i
  | .inr x => .str x
inductive HO where
  /-- a list -/
  | lst (xs : List V)
  /-- a tuple (never changes) -/
  | tup (xs : List V)
  /-- a dict whose keys are ints and texts; one whose keys are tuples of ints and texts (the empty one is both) -/
  | dK (kvs : List (Key × V)) | dT (kvs : List (List Key × V))
  /-- a set of ints: its members, its size -/
  | set (S : Int → Bool) (n : Nat)
  /-- an instance of the class at C, its dict at dx, its attributes -/
  | ins (C dx : Addr) (fs : List (Str × V))
  /-- the dict of the instance at x -/
  | own (x : Addr)
  /-- the dict of an exception -/
  | xd (fs : List (Str × V))
  /-- a bound method, f of x -/
  | met (f x : Addr)
  /-- a range object lo, lo + 1, .. below hi -/
  | rng (lo hi : Int)
  /-- a thing that is known to the object (the script; a dict while a loop walks it): read, never written while it is so -/
  | frz (o : Obj) (u : HO)
  /-- a code object's table -/
  | tbl (ps : Array Value)
  /-- any other thing, by what is true of its one object (a def of one's own: SetO a S n := HO.ext fun h => ..) -/
  | ext (φ : Heap → Prop)
abbrev Hp := Addr → Option HO
def upd (H : Hp) (a : Addr) (o : HO) : Hp := fun b => if b = a then some o else H b
theorem upd_same {H : Hp} {a : Addr} {o : HO} : upd H a o a = some o := by unfold upd; rw [if_pos rfl]
theorem upd_ne {H : Hp} {a b : Addr} {o : HO} (h : b ≠ a) : upd H a o b = H b := by unfold upd; rw [if_neg h]
theorem ne_of {H : Hp} {a b : Addr} {o u : HO} (h : H a = some o) (h' : H b = some u) (d : o ≠ u) : a ≠ b := by
  intro e; subst e; rw [h] at h'; exact d (Option.some.inj h')
theorem ne_of_none {H : Hp} {a b : Addr} {o : HO} (h : H a = some o) (h' : H b = none) : a ≠ b := by
  intro e; subst e; rw [h] at h'; cases h'
section
variable (P : Program) (w : World)
def ObjOk (H : Hp) (h : Heap) (a : Addr) : HO → Prop
  | .lst xs => xs.length ≤ sizeLine ∧ ∃ (its : List Value) (n : Nat), Vals xs its ∧ h.get? a = some { cls := .type "list", data := .seq its.toArray n }
  | .tup xs => xs.length ≤ sizeLine ∧ ∃ its : List Value, Vals xs its ∧ IsTup h a its.toArray
  | .dK kvs => kvs.length ≤ sizeLine ∧ (a == sysModules) = false ∧ ∃ vs, KV kvs vs ∧ h.DictOf (mixKind P w) a vs
  | .dT kvs => kvs.length ≤ sizeLine ∧ (a == sysModules) = false ∧ ∃ xs : List (List Key × Addr × Value),
      Paired (fun (p : List Key × V) (q : List Key × Addr × Value) => p.1 = q.1 ∧ H q.2.1 = some (.tup (p.1.map kV)) ∧ RelV p.2 q.2.2) kvs xs ∧
      ∃ o es ep, h.get? a = some o ∧ o.ExactDict ∧ o.data = .dict es ep ∧ es.toList = xs.map (entryOfKey (tupleKind (mixKind P w))) ∧ (xs.map (·.1)).Nodup
  | .set S n => h.SetOf (intKind P w) a S n
  | .ins C dx fs => H dx = some (.own a) ∧ fs.length ≤ 1000 ∧ dx ≠ a ∧ h.get? a = some (PySem.W.instObj C dx) ∧
      ∃ mA, h.Ns1 dx mA ∧ (∀ f, RelO (fs.lookup f) (mA f)) ∧ PySem.Within mA (fs.map (·.1))
  | .own _ => ∃ o, h.get? a = some o
  | .xd fs => ∃ mA, h.Ns1 a mA ∧ ∀ f, RelO (fs.lookup f) (mA f)
  | .rng lo hi => ∃ t u v, h.get? a = some { cls := .type "range", data := .fields #[.int lo t, .int hi u, .int 1 v] }
  | .frz o u => h.get? a = some o ∧ ObjOk H h a u
  | .tbl ps => h.get? a = some { cls := .none, data := .fields ps }
  | .met f x => h.get? a = some (PySem.W.methodObj (.ref f) (.ref x))
  | .ext φ => φ h ∧ (∃ o, h.get? a = some o) ∧ ∀ h1 h2 : Heap, φ h1 → (∀ o, h1.get? a = some o → h2.get? a = some o) → φ h2
def HOk (H : Hp) (h : Heap) : Prop := ∀ a o, H a = some o → ObjOk P w H h a o
end
section
variable {P : Program} {w : World} {H H' : Hp} {h h' : Heap} {a : Addr} {o : HO}
theorem ObjOk.lt (x : ObjOk P w H h a o) : a < h.objs.size := by
  cases o with
  | lst xs => obtain ⟨_, _, _, _, e⟩ := x; exact Heap.lt_size e
  | tup xs => obtain ⟨_, _, _, p⟩ := x; exact p.lt
  | dK kvs => obtain ⟨_, _, _, _, o, _, _, e, _⟩ := x; exact Heap.lt_size e
  | dT kvs => obtain ⟨_, _, _, _, o, _, _, e, _⟩ := x; exact Heap.lt_size e
  | set S n => obtain ⟨o, _, _, _, e, _⟩ := x; exact Heap.lt_size e
  | ins C dx fs => obtain ⟨_, _, _, e, _⟩ := x; exact Heap.lt_size e
  | own y => obtain ⟨_, e⟩ := x; exact Heap.lt_size e
  | xd fs => obtain ⟨_, ⟨_, _, _, e, _⟩, _⟩ := x; exact Heap.lt_size e
  | rng lo hi => obtain ⟨_, _, _, e⟩ := x; exact Heap.lt_size e
  | frz ob u => obtain ⟨e, _⟩ := x; exact Heap.lt_size e
  | tbl ps => exact Heap.lt_size (show h.get? a = some _ from x)
  | met f y => exact Heap.lt_size (show h.get? a = some _ from x)
  | ext φ => obtain ⟨_, ⟨_, e⟩, _⟩ := x; exact Heap.lt_size e
theorem Paired.mapP {α β : Type} {F G : α → β → Prop} : ∀ {l₁ : List α} {l₂ : List β}, Paired F l₁ l₂ → (∀ a b, F a b → G a b) → Paired G l₁ l₂
  | _, _, .nil, _ => .nil
  | _, _, .cons r t, f => .cons (f _ _ r) (Paired.mapP t f)
theorem ObjOk.stay (x : ObjOk P w H h a o) (k : ∀ b u, (b = a ∨ H b = some (.own a)) → h.get? b = some u → h'.get? b = some u)
    (ho : ∀ b, H b = some (.own a) → H' b = some (.own a)) (ht : ∀ b xs, H b = some (.tup xs) → H' b = some (.tup xs)) : ObjOk P w H' h' a o := by
  induction o with
  | lst xs => obtain ⟨z, its, n, r, e⟩ := x; exact ⟨z, its, n, r, k _ _ (.inl rfl) e⟩
  | tup xs => obtain ⟨z, its, r, ob, e, c⟩ := x; exact ⟨z, its, r, ob, k _ _ (.inl rfl) e, c⟩
  | dK kvs => obtain ⟨z, y, vs, r, ob, es, ep, e, c⟩ := x; exact ⟨z, y, vs, r, ob, es, ep, k _ _ (.inl rfl) e, c⟩
  | dT kvs =>
    obtain ⟨z, y, xs, r, ob, es, ep, e, c⟩ := x
    exact ⟨z, y, xs, Paired.mapP r fun p q z => ⟨z.1, ht _ _ z.2.1, z.2.2⟩, ob, es, ep, k _ _ (.inl rfl) e, c⟩
  | set S n => obtain ⟨ob, es, ep, t, e, c⟩ := x; exact ⟨ob, es, ep, t, k _ _ (.inl rfl) e, c⟩
  | ins C dx fs =>
    obtain ⟨d, z, ne, e, mA, ⟨od, es, ep, e2, c⟩, r⟩ := x
    exact ⟨ho _ d, z, ne, k _ _ (.inl rfl) e, mA, ⟨od, es, ep, k _ _ (.inr d) e2, c⟩, r⟩
  | own y => obtain ⟨ob, e⟩ := x; exact ⟨ob, k _ _ (.inl rfl) e⟩
  | xd fs => obtain ⟨mA, ⟨od, es, ep, e, c⟩, r⟩ := x; exact ⟨mA, ⟨od, es, ep, k _ _ (.inl rfl) e, c⟩, r⟩
  | rng lo hi => obtain ⟨t, u, v, e⟩ := x; exact ⟨t, u, v, k _ _ (.inl rfl) e⟩
  | frz ob u ih => obtain ⟨e, q⟩ := x; exact ⟨k _ _ (.inl rfl) e, ih q⟩
  | tbl ps =>
    have e : h.get? a = some { cls := .none, data := .fields ps } := x
    show h'.get? a = some { cls := .none, data := .fields ps }
    exact k a _ (.inl rfl) e
  | met f y =>
    have e : h.get? a = some (PySem.W.methodObj (.ref f) (.ref y)) := x
    show h'.get? a = some (PySem.W.methodObj (.ref f) (.ref y))
    exact k a _ (.inl rfl) e
  | ext φ => obtain ⟨p, ⟨o, e⟩, st⟩ := x; exact ⟨st _ _ p fun o q => k _ _ (.inl rfl) q, ⟨o, k _ _ (.inl rfl) e⟩, st⟩
theorem HOk.lt (x : HOk P w H h) (e : H a = some o) : a < h.objs.size := (x a o e).lt
theorem HOk.fresh (x : HOk P w H h) (e : h.objs.size ≤ a) : H a = none := by
  cases q : H a with
  | none => rfl
  | some u => exact absurd (Nat.lt_of_lt_of_le (x.lt q) e) (Nat.lt_irrefl _)
theorem HOk.kept (x : HOk P w H h) (k : ∀ b u, h.get? b = some u → h'.get? b = some u) : HOk P w H h' := fun a o e =>
  (x a o e).stay (fun b u _ q => k b u q) (fun _ q => q) fun _ _ q => q
theorem HOk.laid (x : HOk P w H h) (k : ∀ b u, h.get? b = some u → h'.get? b = some u) (hp : h.objs.size ≤ a) (new : ObjOk P w (upd H a o) h' a o) : HOk P w (upd H a o) h' := fun b u e => by
  have hn := x.fresh hp
  by_cases hb : b = a
  · subst hb; rw [upd_same] at e; cases e; exact new
  · rw [upd_ne hb] at e
    exact (x b u e).stay (fun c v _ q => k c v q) (fun c q => by rw [upd_ne (ne_of_none q hn)]; exact q) fun c xs q => by rw [upd_ne (ne_of_none q hn)]; exact q
end
def Rd (H : Hp) (a : Addr) (u : HO) : Prop := H a = some u ∨ ∃ o, H a = some (.frz o u)
theorem Rd.of {H : Hp} {a : Addr} {u : HO} (h : H a = some u) : Rd H a u := .inl h
theorem Rd.ok {P : Program} {w : World} {H : Hp} {h : Heap} {a : Addr} {u : HO} (r : Rd H a u) (x : HOk P w H h) : ObjOk P w H h a u := by
  rcases r with r | ⟨o, r⟩
  · exact x a u r
  · obtain ⟨_, q⟩ := x a _ r
    exact q
def Mut : Option HO → Prop
  | some (.lst _) => True
  | some (.dK _) => True
  | some (.dT _) => True
  | some (.set _ _) => True
  | some (.ins _ _ _) => True
  | some (.ext _) => True
  | _ => False
section
variable {P : Program} {w : World} {H : Hp} {h h' : Heap} {x e : Addr} {o' : HO}
theorem HOk.write (ok : HOk P w H h) (mu : Mut (H x)) (he : e = x ∨ H e = some (.own x)) (k : ∀ b u, b ≠ e → h.get? b = some u → h'.get? b = some u) (heo : ∃ u, h'.get? e = some u)
    (new : ObjOk P w (upd H x o') h' x o') : HOk P w (upd H x o') h' := fun b u q => by
  have nown : ∀ c y, H c = some (.own y) → c ≠ x := fun c y r z => by subst z; rw [r] at mu; exact mu
  have ntup : ∀ c xs, H c = some (.tup xs) → c ≠ x := fun c xs r z => by subst z; rw [r] at mu; exact mu
  by_cases hb : b = x
  · subst hb; rw [upd_same] at q; cases q; exact new
  · rw [upd_ne hb] at q
    by_cases hbe : b = e
    · have q' : H b = some (.own x) := by
        rcases he with z | z
        · exact absurd (hbe.trans z) hb
        · rw [hbe]; exact z
      rw [q] at q'; cases q'
      obtain ⟨v, hv⟩ := heo
      exact ⟨v, by rw [hbe]; exact hv⟩
    · refine (ok b u q).stay (fun c v hc r => k c v ?_ r) (fun c r => by rw [upd_ne (nown c b r)]; exact r) fun c xs r => by rw [upd_ne (ntup c xs r)]; exact r
      rcases hc with rfl | hc
      · exact hbe
      · rintro rfl
        rcases he with z | z
        · exact nown c b hc z
        · rw [hc] at z; cases z; exact hb rfl
end
structure Un (fs ex : List Addr) (H H' : Hp) (h h' : Heap) : Prop where
  keep : ∀ b o, h.get? b = some o → H b = none → b ∉ fs → b ∉ ex → h'.get? b = some o
  slot : ∀ b o, h.get? b = some o → H b = none → b ∈ fs → b ∉ ex → ∃ sl, h'.get? b = some { o with slots := sl }
  free : ∀ b o, h.get? b = some o → H b = none → b ∉ ex → H' b = none
  there : ∀ b o, h.get? b = some o → b ∉ ex → ∃ o', h'.get? b = some o'
  tups : ∀ b xs, H b = some (.tup xs) → H' b = some (.tup xs)
  frzs : ∀ b o u, H b = some (.frz o u) → H' b = some (.frz o u)
  tbls : ∀ b ps, H b = some (.tbl ps) → ∃ more, H' b = some (.tbl (ps ++ more))
section
variable {fs fs' ex ex' : List Addr} {H H1 H2 : Hp} {h h1 h2 h' : Heap} {a x e : Addr} {o : HO}
theorem Un.any (u : Un fs ex H H1 h h1) {b : Addr} {ob : Obj} (q : h.get? b = some ob) (n : H b = none) (hx : b ∉ ex) : ∃ sl, h1.get? b = some { ob with slots := sl } := by
  by_cases hb : b ∈ fs
  · exact u.slot b ob q n hb hx
  · exact ⟨ob.slots, u.keep b ob q n hb hx⟩
theorem Un.kept (k : ∀ b u, h.get? b = some u → h'.get? b = some u) : Un fs ex H H h h' :=
  ⟨fun b ob q _ _ _ => k b ob q, fun b ob q _ _ _ => ⟨ob.slots, k b ob q⟩, fun _ _ _ n _ => n, fun b ob q _ => ⟨ob, k b ob q⟩, fun _ _ q => q, fun _ _ _ q => q, fun _ ps q => ⟨#[], by rw [q]; simp⟩⟩
theorem Un.refl : Un fs ex H H h h := Un.kept fun _ _ q => q
theorem Un.laid (k : ∀ b u, h.get? b = some u → h'.get? b = some u) (hp : h.objs.size ≤ a) (hn : H a = none) : Un fs ex H (upd H a o) h h' where
  keep := fun b u q _ _ _ => k b u q
  slot := fun b u q _ _ _ => ⟨u.slots, k b u q⟩
  free := fun b u q n _ => by rw [upd_ne (Nat.ne_of_lt (Nat.lt_of_lt_of_le (Heap.lt_size q) hp))]; exact n
  there := fun b u q _ => ⟨u, k b u q⟩
  tups := fun b xs q => by rw [upd_ne (ne_of_none q hn)]; exact q
  frzs := fun b u xs q => by rw [upd_ne (ne_of_none q hn)]; exact q
  tbls := fun b ps q => ⟨#[], by rw [upd_ne (ne_of_none q hn), q]; simp⟩
theorem Un.write (mu : Mut (H x)) (he : e = x ∨ H e = some (.own x)) (k : ∀ b u, b ≠ e → h.get? b = some u → h'.get? b = some u) (heo : ∃ u, h'.get? e = some u) : Un fs ex H (upd H x o) h h' := by
  have hx : ∀ b, H b = none → b ≠ x := fun b n z => by subst z; rw [n] at mu; exact mu
  have hb : ∀ b, H b = none → b ≠ e := fun b n z => by
    subst z
    rcases he with r | r
    · exact hx b n r
    · rw [n] at r; cases r
  have hm : ∀ b u, H b = some u → ¬ Mut (some u) → b ≠ x := fun b u q nm z => by subst z; rw [q] at mu; exact nm mu
  refine ⟨fun b u q n _ _ => k b u (hb b n) q, fun b u q n _ _ => ⟨u.slots, k b u (hb b n) q⟩, fun b u q n _ => by rw [upd_ne (hx b n)]; exact n, fun b u q _ => ?_,
    fun b xs q => by rw [upd_ne (hm b _ q fun z => z)]; exact q, fun b u xs q => by rw [upd_ne (hm b _ q fun z => z)]; exact q, fun b ps q => ⟨#[], by rw [upd_ne (hm b _ q fun z => z), q]; simp⟩⟩
  by_cases hbe : b = e
  · subst hbe; exact heo
  · exact ⟨u, k b u hbe q⟩
end
def trk (h : Heap) (H : Hp) : List Addr := (List.range h.objs.size).filter fun a => (H a).isSome
def hidT (h : Heap) (H : Hp) : Heap := PySem.W.hideAll h (trk h H)
theorem hidT_size (h : Heap) (H : Hp) : (hidT h H).objs.size = h.objs.size := PySem.W.hideAll_size _ _
theorem hidT_get {h : Heap} {H : Hp} {b : Addr} {o : Obj} (e : h.get? b = some o) (n : H b = none) : (hidT h H).get? b = some o :=
  PySem.W.hideAll_get _ e fun hm => by
    have q : (H b).isSome = true := (List.mem_filter.mp hm).2
    rw [n] at q; simp at q
theorem of_hidT {h : Heap} {H : Hp} {b : Addr} {o : Obj} (e : (hidT h H).get? b = some o) : h.get? b = some o ∧ H b = none := by
  have e' : h.get? b = some o := PySem.W.of_hideAll (trk h H) e
  refine ⟨e', ?_⟩
  cases q : H b with
  | none => rfl
  | some x =>
    have hm : b ∈ trk h H := List.mem_filter.mpr ⟨List.mem_range.mpr (Heap.lt_size e'), by simp [q]⟩
    have z : (hidT h H).get? b = none := PySem.W.hideAll_none (trk h H) hm
    rw [z] at e; cases e
def allNews (g h : Heap) (L : Addr) : List (Addr × Obj) := (List.range h.objs.size).filterMap fun a => if a = L ∨ (g.get? a).isSome = true then none else (h.get? a).map fun o => (a, o)
def rest (g h : Heap) (L d : Addr) : List (Addr × Obj) := (allNews g h L).filter fun p => decide (p.1 ≠ d)
end L2
namespace L2
open PySem PySem.Spec PyProof.Rows
structure Mod (K : PySem.W.Frag) (mg : Str → Option Value) (base : Heap) : Prop where
  kin : K.In base
  glob : base.Ns mainGlobals mg
  blt : ∃ mb, base.Ns builtinsNs mb ∧ ∀ x : Str, x ≠ "__name__" → mb x = bootBuiltins x
  nolimit : base.NoLimit
structure Cx where
  prog : Program
  w : World
  K : PySem.W.Frag
  mg : Str → Option Value
  base : Heap
  A : Around
  N : List Str
  s₀ : Shared
  H₀ : Hp
  env : Env
  outer : List Env
  stack : List Env
  ex : List Addr
  fn : Str → Bool
  calm : Bool
  pn : List (Addr × Obj)
  xe : Value → Shared → Prop
def frs (l : List Env) : List Addr := l.filterMap (·.frame)
abbrev Cx.fs (X : Cx) : List Addr := frs X.outer
def Vis (sc : Scope) (x : Str) : Prop := sc.names.lookup x = some .local ∨ sc.names.lookup x = some .cell ∨ sc.names.lookup x = some .free
def Loc (sc : Scope) (x : Str) : Prop := sc.names.lookup x = some .local ∨ sc.names.lookup x = some .cell
def Look (env : Env) (h : Heap) (m : Str → Option Value) (x : Str) (u : Value) : Prop :=
  (env.kindOf x = some .local ∧ m x = some u) ∨ ((env.kindOf x = some .cell ∨ env.kindOf x = some .free) ∧ ∃ c, env.cells.lookup x = some c ∧ h.IsCell c (some u))
structure Cx.Ok (X : Cx) : Prop where
  mod : Mod X.K X.mg X.base
  kind : X.env.scope.kind = .function
  glob : X.env.globals = mainGlobals
  blt : X.env.builtins = builtinsNs
  above : X.s₀.heap.objs.size ≤ X.env.locals
  inj : ∀ x y c, X.env.cells.lookup x = some c → X.env.cells.lookup y = some c → x = y
  has : ∀ x, (X.env.kindOf x = some .cell ∨ X.env.kindOf x = some .free) → ∃ c, X.env.cells.lookup x = some c
  cab : ∀ x c, X.fn x = true → X.env.cells.lookup x = some c → X.s₀.heap.objs.size ≤ c
  hd : X.calm = true → X.A.handled = none
  frames : X.A.frames = some X.stack
  stk : X.stack = X.outer ∨ (X.stack = X.env :: X.outer ∧ X.env.frame = some X.env.locals)
  exf : ∀ b ∈ X.ex, b ≠ X.env.locals ∧ ∀ x c, X.env.cells.lookup x = some c → c ≠ b
  bs : ∀ b o, X.base.get? b = some o → X.s₀.heap.get? b = some o ∧ X.H₀ b = none
  bsz : X.base.objs.size ≤ X.s₀.heap.objs.size
  noex : ∀ b o, X.base.get? b = some o → b ∉ X.ex
  exfs : ∀ b ∈ X.ex, b ∉ X.fs
  funs : X.s₀.heap.FunFrames X.base X.outer
  frf : ∀ b ∈ X.fs, X.H₀ b = none
structure Inv (X : Cx) (pins : List (Addr × Obj)) (σ : List (Option V)) (H : Hp) (s : Shared) : Prop where
  ok : X.Ok
  os : s.os = X.s₀.os
  bare : AllBare s.gens
  base : Un X.fs X.ex X.H₀ H X.s₀.heap s.heap
  loc : ∃ m, s.heap.Ns X.env.locals m ∧ ∀ (i : Nat) (x : Str) (v : V), X.N[i]? = some x → σ[i]? = some (some v) → Vis X.env.scope x → ∃ u, RelV v u ∧ Look X.env s.heap m x u
  cell : ∀ x c, X.env.cells.lookup x = some c → ∃ v, s.heap.IsCell c v
  free : H X.env.locals = none
  freeC : ∀ x c, X.env.cells.lookup x = some c → H c = none
  pin : ∀ p ∈ X.pn ++ pins, s.heap.get? p.1 = some p.2 ∧ H p.1 = none ∧ p.1 ≠ X.env.locals ∧ p.1 ∉ X.fs ∧ ∀ v, p.2.data ≠ .cell v
  hok : HOk X.prog X.w H s.heap
  len : σ.length = X.N.length
section
variable {X : Cx} {pins : List (Addr × Obj)} {σ : List (Option V)} {H H' : Hp} {s : Shared} {h' : Heap}
theorem Cx.Ok.nofr (ok : X.Ok) {b : Addr} {o : Obj} (e : X.base.get? b = some o) : b ∉ X.fs := fun hb => by
  have := (ok.funs.mem hb).1
  rw [e] at this; cases this
theorem Inv.bs (I : Inv X pins σ H s) : ∀ b o, X.base.get? b = some o → s.heap.get? b = some o ∧ H b = none := fun b o e =>
  ⟨I.base.keep b o (I.ok.bs b o e).1 (I.ok.bs b o e).2 (I.ok.nofr e) (I.ok.noex b o e), I.base.free b o (I.ok.bs b o e).1 (I.ok.bs b o e).2 (I.ok.noex b o e)⟩
theorem Inv.bk (I : Inv X pins σ H s) : ∀ b o, X.base.get? b = some o → s.heap.get? b = some o := fun b o e => (I.bs b o e).1
theorem Inv.mod (I : Inv X pins σ H s) : Mod X.K X.mg X.base := I.ok.mod
theorem Inv.kIn (I : Inv X pins σ H s) : X.K.In s.heap := I.ok.mod.kin.keeps I.bk
theorem Inv.nolimit (I : Inv X pins σ H s) : s.heap.NoLimit := I.ok.mod.nolimit.keeps I.bk
theorem Inv.lt (I : Inv X pins σ H s) : X.env.locals < s.heap.objs.size := let ⟨_, hn, _⟩ := I.loc; hn.lt
theorem Inv.sz (I : Inv X pins σ H s) : X.s₀.heap.objs.size ≤ s.heap.objs.size := Nat.le_trans I.ok.above (Nat.le_of_lt I.lt)
theorem Inv.nofs (I : Inv X pins σ H s) {a : Addr} (h : s.heap.objs.size ≤ a) : a ∉ X.fs := fun hb => by
  obtain ⟨_, o, ho, _⟩ := I.ok.funs.mem hb
  exact absurd (Nat.lt_of_lt_of_le (Heap.lt_size ho) (Nat.le_trans I.sz h)) (Nat.lt_irrefl _)
theorem Inv.cne (I : Inv X pins σ H s) : ∀ x c, X.env.cells.lookup x = some c → c ≠ X.env.locals := fun x c e z => by
  obtain ⟨v, o, ho, hd⟩ := I.cell x c e
  obtain ⟨m, ⟨o', es, ep, ho', hd', _⟩, _⟩ := I.loc
  rw [z, ho'] at ho; cases ho; rw [hd'] at hd; cases hd
theorem Inv.funs (I : Inv X pins σ H s) : s.heap.FunFrames X.base X.outer := by
  have all : ∀ (l : List Env), (∀ b ∈ frs l, b ∈ X.fs) → X.s₀.heap.FunFrames X.base l → s.heap.FunFrames X.base l := by
    intro l
    induction l with
    | nil => intro _ _; trivial
    | cons env r ih =>
      intro hs hl
      obtain ⟨hk, ⟨L, o, hf, hn, ho, hd⟩, hr⟩ := hl
      have hL : L ∈ X.fs := hs L (by unfold frs; rw [List.filterMap_cons, hf]; exact List.mem_cons_self)
      obtain ⟨sl, e⟩ := I.base.slot L o ho (I.ok.frf L hL) hL fun z => I.ok.exfs L z hL
      exact ⟨hk, ⟨L, _, hf, hn, e, hd⟩, ih (fun b hb => hs b (by unfold frs; rw [List.filterMap_cons, hf]; exact List.mem_cons_of_mem _ hb)) hr⟩
  exact all X.outer (fun _ hb => hb) I.ok.funs
theorem Inv.stack (I : Inv X pins σ H s) : s.heap.FunFrames X.base X.stack := by
  rcases I.ok.stk with e | ⟨e, hf⟩
  · rw [e]; exact I.funs
  · rw [e]
    obtain ⟨m, hn, _⟩ := I.loc
    refine .cons (by rw [I.ok.kind]; decide) hf hn ?_ I.funs
    exact Heap.get?_none_of_le (Nat.le_trans I.ok.bsz I.ok.above)
theorem Inv.stkSub (I : Inv X pins σ H s) : ∀ b ∈ frs X.stack, b ∈ X.env.locals :: X.fs := fun b hb => by
  rcases I.ok.stk with e | ⟨e, hf⟩
  · rw [e] at hb; exact List.mem_cons_of_mem _ hb
  · rw [e] at hb
    unfold frs at hb
    rw [List.filterMap_cons, hf] at hb
    exact hb
theorem Inv.stkFree (I : Inv X pins σ H s) : ∀ b ∈ frs X.stack, H b = none := fun b hb => by
  rcases List.mem_cons.mp (I.stkSub b hb) with e | hb
  · rw [e]; exact I.free
  · obtain ⟨_, o, ho, _⟩ := I.ok.funs.mem hb
    exact I.base.free b o ho (I.ok.frf b hb) fun z => I.ok.exfs b z hb
theorem Inv.step {g' : Array GenState} {t' : Nat} {d' : Drawn} {ch : List Addr} (I : Inv X pins σ H s)
    (hch : ∀ b ∈ ch, (b ∈ X.ex ∨ X.s₀.heap.objs.size ≤ b) ∧ b ≠ X.env.locals ∧ (∀ x c, X.env.cells.lookup x = some c → c ≠ b) ∧ ∀ p ∈ X.pn ++ pins, p.1 ≠ b)
    (keep : ∀ b o, b ≠ X.env.locals → b ∉ X.fs → b ∉ ch → s.heap.get? b = some o → H b = none → h'.get? b = some o)
    (slot : ∀ b o, b ≠ X.env.locals → b ∈ X.fs → b ∉ ch → s.heap.get? b = some o → H b = none → ∃ sl, h'.get? b = some { o with slots := sl }) (free : ∀ b o, b ∉ ch → s.heap.get? b = some o → H b = none → H' b = none)
    (there : ∀ b o, b ∉ ch → s.heap.get? b = some o → ∃ o', h'.get? b = some o')
    (tups : ∀ b xs, H b = some (.tup xs) → H' b = some (.tup xs)) (frzs : ∀ b o u, H b = some (.frz o u) → H' b = some (.frz o u)) (tbls : ∀ b ps, H b = some (.tbl ps) → ∃ more, H' b = some (.tbl (ps ++ more)))
    (ns : ∀ m, s.heap.Ns X.env.locals m → h'.Ns X.env.locals m) (hok : HOk X.prog X.w H' h') (hg : AllBare g') :
    Inv X pins σ H' { s with heap := h', gens := g', drawn := d', toks := t' } := by
  have neL : ∀ b o, X.s₀.heap.get? b = some o → b ≠ X.env.locals := fun b o e => Nat.ne_of_lt (Nat.lt_of_lt_of_le (Heap.lt_size e) I.ok.above)
  have neC : ∀ b o, X.s₀.heap.get? b = some o → b ∉ X.ex → b ∉ ch := fun b o e hx hb => by
    rcases (hch b hb).1 with z | z
    · exact hx z
    · exact absurd (Nat.lt_of_lt_of_le (Heap.lt_size e) z) (Nat.lt_irrefl _)
  have cellK : ∀ x c, X.env.cells.lookup x = some c → ∀ v, s.heap.IsCell c v → h'.IsCell c v := fun x c e v ⟨o, ho, hd⟩ => by
    have nch : c ∉ ch := fun z => (hch c z).2.2.1 x c e rfl
    by_cases hc : c ∈ X.fs
    · obtain ⟨sl, q⟩ := slot c o (I.cne x c e) hc nch ho (I.freeC x c e)
      exact ⟨_, q, hd⟩
    · exact ⟨o, keep c o (I.cne x c e) hc nch ho (I.freeC x c e), hd⟩
  refine ⟨I.ok, I.os, hg, ⟨fun b o e n hb hx => ?_, fun b o e n hb hx => ?_, fun b o e n hx => ?_, fun b o e hx => ?_, fun b xs e => tups b xs (I.base.tups b xs e), fun b o xs e => frzs b o xs (I.base.frzs b o xs e), fun b ps e => ?_⟩, ?_, fun x c e => ?_, ?_, fun x c e => ?_, fun p hp => ?_, hok, I.len⟩
  · exact keep b o (neL b o e) hb (neC b o e hx) (I.base.keep b o e n hb hx) (I.base.free b o e n hx)
  · obtain ⟨sl, e1⟩ := I.base.slot b o e n hb hx
    obtain ⟨sl', e2⟩ := slot b _ (neL b o e) hb (neC b o e hx) e1 (I.base.free b o e n hx)
    exact ⟨sl', e2⟩
  · obtain ⟨o', e1⟩ := I.base.there b o e hx
    exact free b o' (neC b o e hx) e1 (I.base.free b o e n hx)
  · obtain ⟨o', e1⟩ := I.base.there b o e hx
    exact there b o' (neC b o e hx) e1
  · obtain ⟨m1, e1⟩ := I.base.tbls b ps e
    obtain ⟨m2, e2⟩ := tbls b _ e1
    exact ⟨m1 ++ m2, by rw [e2, Array.append_assoc]⟩
  · obtain ⟨m, hn, hl⟩ := I.loc
    refine ⟨m, ns m hn, fun i x v e1 e2 e3 => ?_⟩
    obtain ⟨u, r, l⟩ := hl i x v e1 e2 e3
    refine ⟨u, r, ?_⟩
    rcases l with l | ⟨k, c, e, z⟩
    · exact .inl l
    · exact .inr ⟨k, c, e, cellK x c e _ z⟩
  · obtain ⟨v, z⟩ := I.cell x c e
    exact ⟨v, cellK x c e v z⟩
  · obtain ⟨m, ⟨o, _, _, ho, _⟩, _⟩ := I.loc
    exact free _ o (fun z => (hch _ z).2.1 rfl) ho I.free
  · obtain ⟨v, o, ho, hd⟩ := I.cell x c e
    exact free c o (fun z => (hch c z).2.2.1 x c e rfl) ho (I.freeC x c e)
  · obtain ⟨e, n, ne, nf, d⟩ := I.pin p hp
    have nch : p.1 ∉ ch := fun z => (hch p.1 z).2.2.2 p hp rfl
    exact ⟨keep p.1 p.2 ne nf nch e n, free p.1 p.2 nch e n, ne, nf, d⟩
theorem Inv.un {t' : Nat} (I : Inv X pins σ H s) (u : Un X.fs [] H H' s.heap h') (hok : HOk X.prog X.w H' h') : Inv X pins σ H' { s with heap := h', toks := t' } := by
  obtain ⟨m, ⟨o, es, ep, ho, r⟩, _⟩ := id I.loc
  obtain ⟨sl, hL⟩ := u.any ho I.free (by simp)
  exact I.step (g' := s.gens) (d' := s.drawn) (ch := []) (fun _ z => nomatch z) (fun b o _ hb _ e n => u.keep b o e n hb (by simp)) (fun b o _ hb _ e n => u.slot b o e n hb (by simp)) (fun b o _ e n => u.free b o e n (by simp)) (fun b o _ e => u.there b o e (by simp)) u.tups u.frzs u.tbls (fun m' hm => by
    obtain ⟨o', es', ep', ho', r'⟩ := hm
    rw [ho] at ho'; cases ho'
    exact ⟨_, es', ep', hL, r'⟩) hok I.bare
theorem Inv.call {g' : Array GenState} {t' : Nat} {d' : Drawn} {ch : List Addr} (I : Inv X pins σ H s) (u : Un (frs X.stack) ch H H' s.heap h') (hok : HOk X.prog X.w H' h') (hg : AllBare g')
    (hch : ∀ b ∈ ch, (b ∈ X.ex ∨ X.s₀.heap.objs.size ≤ b) ∧ b ≠ X.env.locals ∧ (∀ x c, X.env.cells.lookup x = some c → c ≠ b) ∧ ∀ p ∈ X.pn ++ pins, p.1 ≠ b) :
    Inv X pins σ H' { s with heap := h', gens := g', drawn := d', toks := t' } := by
  obtain ⟨m, ⟨o, es, ep, ho, r⟩, _⟩ := id I.loc
  obtain ⟨sl, hL⟩ := u.any ho I.free fun z => (hch _ z).2.1 rfl
  exact I.step (ch := ch) hch (fun b o hL hb hc e n => u.keep b o e n (fun z => (List.mem_cons.mp (I.stkSub b z)).elim hL hb) hc) (fun b o _ _ hc e n => u.any e n hc) (fun b o hc e n => u.free b o e n hc) (fun b o hc e => u.there b o e hc) u.tups u.frzs u.tbls (fun m' hm => by
    obtain ⟨o', es', ep', ho', r'⟩ := hm
    rw [ho] at ho'; cases ho'
    exact ⟨_, es', ep', hL, r'⟩) hok hg
theorem Inv.turned {t' : Nat} {it : Addr} (I : Inv X pins σ H s) (k : ∀ b o, b ≠ it → s.heap.get? b = some o → h'.get? b = some o) (hn : H it = none) (hL : it ≠ X.env.locals)
    (h1 : it ∈ X.ex ∨ X.s₀.heap.objs.size ≤ it) (h2 : ∀ x c, X.env.cells.lookup x = some c → c ≠ it) (h3 : ∀ p ∈ X.pn ++ pins, p.1 ≠ it) : Inv X pins σ H { s with heap := h', toks := t' } := by
  have nit : ∀ b u, H b = some u → b ≠ it := fun b u e z => by rw [z, hn] at e; cases e
  refine I.step (g' := s.gens) (d' := s.drawn) (ch := [it]) (fun b hb => ?_) (fun b o _ _ hc e _ => k b o (fun z => hc (by simp [z])) e) (fun b o _ _ hc e _ => ⟨o.slots, k b o (fun z => hc (by simp [z])) e⟩) (fun _ _ _ _ n => n)
    (fun b o hc e => ⟨o, k b o (fun z => hc (by simp [z])) e⟩) (fun _ _ e => e) (fun _ _ _ e => e) (fun b ps e => ⟨#[], by rw [e]; simp⟩) (fun m hm => ?_) (fun b u e => ?_) I.bare
  · have e : b = it := by simpa using hb
    subst e
    exact ⟨h1, hL, h2, h3⟩
  · obtain ⟨o, es, ep, ho, r⟩ := hm
    exact ⟨o, es, ep, k _ o (Ne.symm hL) ho, r⟩
  · refine (I.hok b u e).stay (fun c v hc q => k c v ?_ q) (fun _ q => q) fun _ _ q => q
    rcases hc with z | z
    · rw [z]; exact nit b u e
    · exact nit c _ z
theorem Inv.tok (I : Inv X pins σ H s) (t : Nat) : Inv X pins σ H { s with toks := t } := I.un (h' := s.heap) (t' := t) Un.refl I.hok
theorem Inv.kept {t' : Nat} (I : Inv X pins σ H s) (k : ∀ b u, s.heap.get? b = some u → h'.get? b = some u) : Inv X pins σ H { s with heap := h', toks := t' } := I.un (Un.kept k) (I.hok.kept k)
theorem Inv.laid {a : Addr} {o : HO} {t' : Nat} (I : Inv X pins σ H s) (k : ∀ b u, s.heap.get? b = some u → h'.get? b = some u) (hp : s.heap.objs.size ≤ a) (new : ObjOk X.prog X.w (upd H a o) h' a o) :
    Inv X pins σ (upd H a o) { s with heap := h', toks := t' } := I.un (Un.laid k hp (I.hok.fresh hp)) (I.hok.laid k hp new)
theorem Inv.write {x e : Addr} {o : HO} {t' : Nat} (I : Inv X pins σ H s) (mu : Mut (H x)) (he : e = x ∨ H e = some (.own x)) (k : ∀ b u, b ≠ e → s.heap.get? b = some u → h'.get? b = some u) (heo : ∃ u, h'.get? e = some u)
    (new : ObjOk X.prog X.w (upd H x o) h' x o) : Inv X pins σ (upd H x o) { s with heap := h', toks := t' } := I.un (Un.write mu he k heo) (I.hok.write mu he k heo new)
theorem Inv.pins_of {pins' : List (Addr × Obj)} (I : Inv X pins σ H s) (h : ∀ p ∈ pins', s.heap.get? p.1 = some p.2 ∧ H p.1 = none ∧ p.1 ≠ X.env.locals ∧ p.1 ∉ X.fs ∧ ∀ v, p.2.data ≠ .cell v) : Inv X pins' σ H s :=
  ⟨I.ok, I.os, I.bare, I.base, I.loc, I.cell, I.free, I.freeC, fun p hp => (List.mem_append.mp hp).elim (fun z => I.pin p (List.mem_append_left _ z)) (h p), I.hok, I.len⟩
theorem nodup_ix {N : List Str} (hN : N.Nodup) {i j : Nat} {x : Str} (a : N[i]? = some x) (b : N[j]? = some x) : i = j := by
  obtain ⟨h1, e1⟩ := List.getElem?_eq_some_iff.mp a
  obtain ⟨h2, e2⟩ := List.getElem?_eq_some_iff.mp b
  exact (List.getElem_inj hN).mp (e1.trans e2.symm)
theorem store_ok2 {M : Model} {A : Around} {E : Value → Shared → Prop} {i : Nat} {x : Str} {v : V} {u : Value} {Q : Unit → Shared → Prop} (I : Inv X pins σ H s) (hN : X.N.Nodup) (hi : X.N[i]? = some x) (hx : Loc X.env.scope x) (r : RelV v u)
    (h : ∀ s', Inv X pins (σ.set i (some v)) H s' → (∃ a, Heap.SameBut a s.heap s'.heap ∧ (a = X.env.locals ∨ X.env.cells.lookup x = some a)) → Q () s') (hf : X.fn x = true ∨ X.env.scope.names.lookup x = some .local := by first | exact .inl rfl | exact .inr rfl | assumption) : wpAny M A (storeName X.env x u) Q E s := by
  obtain ⟨m, hn, hl⟩ := id I.loc
  have hcls : (X.env.scope.kind == .class || (X.env.scope.kind == .module && X.env.locals != X.env.globals)) = false := by rw [I.ok.kind]; rfl
  have hiσ : i < σ.length := by rw [I.len]; exact (List.getElem?_eq_some_iff.mp hi).1
  have cne := I.cne
  have tracked : ∀ {a : Addr} {h' : Heap}, (∃ o, s.heap.get? a = some o ∧ H a = none) → Heap.SameBut a s.heap h' → HOk X.prog X.w H h' := fun {a h'} ha hs b ob e => by
    obtain ⟨_, _, hfree⟩ := ha
    refine (I.hok b ob e).stay (fun c w' hc q => (hs.2 c ?_).trans q) (fun _ q => q) fun _ _ q => q
    rintro rfl
    rcases hc with rfl | hc
    · rw [hfree] at e; cases e
    · rw [hfree] at hc; cases hc
  rcases hx with hk | hk
  · refine wpAny_storeName_local hk hn (fun h' hn' hs => ?_) hcls
    obtain ⟨oL, _, _, hoL, _⟩ := id hn
    refine h _ ⟨I.ok, I.os, I.bare, ⟨fun b o e n hb hx => ?_, fun b o e n hb hx => ?_, I.base.free, fun b o e hx => ?_, I.base.tups, I.base.frzs, I.base.tbls⟩, ⟨_, hn', fun j y v' e1 e2 e3 => ?_⟩, fun y c e => ?_, I.free, I.freeC, fun p hp => ?_, tracked ⟨oL, hoL, I.free⟩ hs, by simpa using I.len⟩ ⟨_, hs, .inl rfl⟩
    · exact (hs.2 b (Nat.ne_of_lt (Nat.lt_of_lt_of_le (Heap.lt_size e) I.ok.above))).trans (I.base.keep b o e n hb hx)
    · obtain ⟨sl, e1⟩ := I.base.slot b o e n hb hx
      exact ⟨sl, (hs.2 b (Nat.ne_of_lt (Nat.lt_of_lt_of_le (Heap.lt_size e) I.ok.above))).trans e1⟩
    · obtain ⟨o', e1⟩ := I.base.there b o e hx
      exact ⟨o', (hs.2 b (Nat.ne_of_lt (Nat.lt_of_lt_of_le (Heap.lt_size e) I.ok.above))).trans e1⟩
    · by_cases hj : j = i
      · subst hj
        rw [hi] at e1; cases e1
        rw [List.getElem?_set_self hiσ] at e2
        cases e2
        exact ⟨u, r, .inl ⟨hk, by simp⟩⟩
      · rw [List.getElem?_set_ne (Ne.symm hj)] at e2
        obtain ⟨u', r', q⟩ := hl j y v' e1 e2 e3
        refine ⟨u', r', ?_⟩
        rcases q with ⟨k, e⟩ | ⟨k, c, e, z⟩
        · refine .inl ⟨k, ?_⟩
          have : y ≠ x := fun e => hj (nodup_ix hN e1 (e ▸ hi))
          simp [this, e]
        · exact .inr ⟨k, c, e, z.sameBut hs (cne y c e)⟩
    · obtain ⟨w', z⟩ := I.cell y c e
      exact ⟨w', z.sameBut hs (cne y c e)⟩
    · obtain ⟨e, n, ne, nf, d⟩ := I.pin p hp
      exact ⟨(hs.2 p.1 ne).trans e, n, ne, nf, d⟩
  · have hfn : X.fn x = true := by
      rcases hf with z | z
      · exact z
      · rw [z] at hk; cases hk
    obtain ⟨c, hc⟩ := I.ok.has x (.inl hk)
    obtain ⟨w', z⟩ := I.cell x c hc
    refine wpAny_storeName_cell I.ok.kind hk hc z (fun h' hc' hs => ?_)
    obtain ⟨oc, hoc, hocd⟩ := id z
    refine h { s with heap := h' } ⟨I.ok, I.os, I.bare, ⟨fun b o e n hb hx => ?_, fun b o e n hb hx => ?_, I.base.free, fun b o e hx => ?_, I.base.tups, I.base.frzs, I.base.tbls⟩, ⟨m, hn.sameBut hs (Ne.symm (cne x c hc)), fun j y v' e1 e2 e3 => ?_⟩, fun y c' e => ?_, I.free, I.freeC, fun p hp => ?_, tracked ⟨oc, hoc, I.freeC x c hc⟩ hs, by simpa using I.len⟩ ⟨c, hs, .inr hc⟩
    · exact (hs.2 b (Nat.ne_of_lt (Nat.lt_of_lt_of_le (Heap.lt_size e) (I.ok.cab x c hfn hc)))).trans (I.base.keep b o e n hb hx)
    · obtain ⟨sl, e1⟩ := I.base.slot b o e n hb hx
      exact ⟨sl, (hs.2 b (Nat.ne_of_lt (Nat.lt_of_lt_of_le (Heap.lt_size e) (I.ok.cab x c hfn hc)))).trans e1⟩
    · obtain ⟨o', e1⟩ := I.base.there b o e hx
      exact ⟨o', (hs.2 b (Nat.ne_of_lt (Nat.lt_of_lt_of_le (Heap.lt_size e) (I.ok.cab x c hfn hc)))).trans e1⟩
    · by_cases hj : j = i
      · subst hj
        rw [hi] at e1; cases e1
        rw [List.getElem?_set_self hiσ] at e2
        cases e2
        exact ⟨u, r, .inr ⟨.inl hk, c, hc, hc'⟩⟩
      · rw [List.getElem?_set_ne (Ne.symm hj)] at e2
        obtain ⟨u', r', q⟩ := hl j y v' e1 e2 e3
        refine ⟨u', r', ?_⟩
        rcases q with q | ⟨k, c', e, z'⟩
        · exact .inl q
        · refine .inr ⟨k, c', e, z'.sameBut hs ?_⟩
          rintro rfl
          exact hj (nodup_ix hN e1 (I.ok.inj _ _ _ e hc ▸ hi))
    · by_cases hcc : c' = c
      · subst hcc; exact ⟨_, hc'⟩
      · obtain ⟨w2, z2⟩ := I.cell y c' e
        exact ⟨w2, z2.sameBut hs hcc⟩
    · obtain ⟨e, n, ne, nf, d⟩ := I.pin p hp
      refine ⟨(hs.2 p.1 ?_).trans e, n, ne, nf, d⟩
      intro q
      rw [q, hoc] at e
      have q' : oc = p.2 := Option.some.inj e
      exact d w' (by rw [← q']; exact hocd)
theorem store_ok {M : Model} {A : Around} {E : Value → Shared → Prop} {i : Nat} {x : Str} {v : V} {u : Value} {Q : Unit → Shared → Prop} (I : Inv X pins σ H s) (hN : X.N.Nodup) (hi : X.N[i]? = some x) (hx : Loc X.env.scope x) (r : RelV v u)
    (h : ∀ s', Inv X pins (σ.set i (some v)) H s' → Q () s') (hf : X.fn x = true ∨ X.env.scope.names.lookup x = some .local := by first | exact .inl rfl | exact .inr rfl | assumption) : wpAny M A (storeName X.env x u) Q E s :=
  store_ok2 I hN hi hx r (fun s' I' _ => h s' I') hf
theorem Inv.call' {s' : Shared} {ch : List Addr} (I : Inv X pins σ H s) (ho : s'.os = s.os) (u : Un (frs X.stack) ch H H' s.heap s'.heap) (hok : HOk X.prog X.w H' s'.heap) (hg : AllBare s'.gens)
    (hch : ∀ b ∈ ch, (b ∈ X.ex ∨ X.s₀.heap.objs.size ≤ b) ∧ b ≠ X.env.locals ∧ (∀ x c, X.env.cells.lookup x = some c → c ≠ b) ∧ ∀ p ∈ X.pn ++ pins, p.1 ≠ b) : Inv X pins σ H' s' := by
  obtain ⟨h', g', d', t', o'⟩ := s'
  have e : o' = s.os := ho
  subst e
  exact I.call (g' := g') (t' := t') (d' := d') u hok hg hch
end
abbrev XK := Value → Option Addr → Hp → Prop
abbrev St := List (Option V)
abbrev VK := V → Hp → Prop
abbrev TE := St → Hp → VK → Prop
abbrev TT := St → Hp → (Bool → Hp → Prop) → Prop
abbrev TA := St → Hp → (List V → Hp → Prop) → Prop
structure Ends where
  nx : St → Hp → Prop
  rt : VK
  bk : St → Hp → Prop := fun _ _ => False
  ct : St → Hp → Prop := fun _ _ => False
abbrev TS := Ends → St → Hp → Prop
def EP (X : Cx) (pins : List (Addr × Obj)) (σ : St) (Q : VK) (u : Value) (s' : Shared) : Prop := ∃ v H', Inv X pins σ H' s' ∧ RelV v u ∧ Q v H'
def TP (X : Cx) (pins : List (Addr × Obj)) (σ : St) (Q : Bool → Hp → Prop) (b : Bool) (s' : Shared) : Prop := ∃ H', Inv X pins σ H' s' ∧ Q b H'
def AP (X : Cx) (pins : List (Addr × Obj)) (σ : St) (Q : List V → Hp → Prop) (us : List Value) (s' : Shared) : Prop := ∃ vs H', Inv X pins σ H' s' ∧ Vals vs us ∧ Q vs H'
def SP (X : Cx) (pins : List (Addr × Obj)) (D : Ends) (f : Flow) (s' : Shared) : Prop :=
  match f with
  | .next => ∃ σ' H', Inv X pins σ' H' s' ∧ D.nx σ' H'
  | .brk => ∃ σ' H', Inv X pins σ' H' s' ∧ D.bk σ' H'
  | .cont => ∃ σ' H', Inv X pins σ' H' s' ∧ D.ct σ' H'
  | .ret u => ∃ v σ' H', Inv X pins σ' H' s' ∧ RelV v u ∧ D.rt v H'
def PE (X : Cx) (e : Expr) (t : TE) : Prop :=
  ∀ (pins : List (Addr × Obj)) (s : Shared) (σ : St) (H : Hp) (Q : VK), Inv X pins σ H s → t σ H Q → wpAny (model X.prog X.w) X.A (eval e X.env) (EP X pins σ Q) X.xe s
def PT (X : Cx) (e : Expr) (t : TT) : Prop :=
  ∀ (pins : List (Addr × Obj)) (s : Shared) (σ : St) (H : Hp) (Q : Bool → Hp → Prop), Inv X pins σ H s → t σ H Q → wpAny (model X.prog X.w) X.A (isTrue e X.env (eval e X.env)) (TP X pins σ Q) X.xe s
def PW (X : Cx) (e : Expr) (t : TT) : Prop :=
  ∀ (whole : Sem Value) (pins : List (Addr × Obj)) (s : Shared) (σ : St) (H : Hp) (Q : Bool → Hp → Prop), Inv X pins σ H s → t σ H Q → wpAny (model X.prog X.w) X.A (isTrue e X.env whole) (TP X pins σ Q) X.xe s
theorem PW.pt {X : Cx} {e : Expr} {t : TT} (h : PW X e t) : PT X e t := h _
def PA (X : Cx) (es : List Expr) (t : TA) : Prop :=
  ∀ (pos : Pos) (pins : List (Addr × Obj)) (s : Shared) (σ : St) (H : Hp) (Q : List V → Hp → Prop), Inv X pins σ H s → t σ H Q → wpAny (model X.prog X.w) X.A (spliced (backTo pos (starEach es X.env))) (AP X pins σ Q) X.xe s
def PS (X : Cx) (st : Stmt) (t : TS) : Prop :=
  ∀ (pins : List (Addr × Obj)) (s : Shared) (σ : St) (H : Hp) (D : Ends), Inv X pins σ H s → t D σ H → wpAny (model X.prog X.w) X.A (exec st X.env) (SP X pins D) X.xe s
def PSs (X : Cx) (st : List Stmt) (t : TS) : Prop :=
  ∀ (pins : List (Addr × Obj)) (s : Shared) (σ : St) (H : Hp) (D : Ends), Inv X pins σ H s → t D σ H → wpAny (model X.prog X.w) X.A (execs st X.env) (SP X pins D) X.xe s
theorem thn {α : Type} {t : Sem α} {Q Q' : α → Shared → Prop} {M : Model} {A : Around} {E : Value → Shared → Prop} {s : Shared} (h : wpAny M A t Q E s) (hQ : ∀ a s, Q a s → Q' a s) : wpAny M A t Q' E s := wpAny_mono h hQ fun _ _ x => x
end L2
namespace L2
open PySem PySem.Spec PyProof.Rows
section
variable {X : Cx}
theorem bin {a b : Expr} {ta tb : TE} (ha : PE X a ta) (hb : PE X b tb) {pins : List (Addr × Obj)} {s : Shared} {σ : St} {H : Hp} {R : V → V → Hp → Prop} (I : Inv X pins σ H s) (h : ta σ H fun x H1 => tb σ H1 fun y H2 => R x y H2)
    {α : Type} {Q : α → Shared → Prop} {f : Value → Value → Sem α}
    (hf : ∀ v u s2 x y H2, Inv X pins σ H2 s2 → RelV x v → RelV y u → R x y H2 → wpAny (model X.prog X.w) X.A (f v u) Q X.xe s2) :
    wpAny (model X.prog X.w) X.A (eval a X.env) (fun v s₁ => wpAny (model X.prog X.w) X.A (eval b X.env) (fun u s₂ => wpAny (model X.prog X.w) X.A (f v u) Q X.xe s₂) X.xe s₁) X.xe s := by
  refine thn (ha pins s σ H _ I h) fun v s1 ⟨x, H1, I1, r1, q1⟩ => ?_
  refine thn (hb pins s1 σ H1 _ I1 q1) fun u s2 ⟨y, H2, I2, r2, q2⟩ => ?_
  exact hf v u s2 x y H2 I2 r1 r2 q2
def tVar (i : Nat) : TE := fun σ H Q => ∃ v, σ[i]? = some (some v) ∧ Q v H
def tC (v : V) : TE := fun _ H Q => Q v H
theorem pe_var {i : Nat} {x : Str} {pos : Pos} (hN : X.N[i]? = some x) (hv : Vis X.env.scope x) (hd : (x == ("__debug__" : Str)) = false := by decide) (hcd : (x == ("__classdict__" : Str)) = false := by decide) : PE X (.Name x pos) (tVar i) := by
  intro pins s σ H Q I h
  obtain ⟨v, e, h⟩ := h
  obtain ⟨m, hn, hl⟩ := I.loc
  obtain ⟨u, r, l⟩ := hl i x v hN e hv
  have fin : EP X pins σ Q u s := ⟨v, H, I, r, h⟩
  rcases l with ⟨hk, hm⟩ | ⟨hk, c, hc, hcell⟩
  · exact wpAny_Name (wpAny_loadName_local I.ok.kind hk hn hm fin) hd
  · rcases hk with hk | hk
    · exact wpAny_Name (wpAny_loadName_cell I.ok.kind hk hc hcell fin) hd
    · exact wpAny_Name (wpAny_loadName_free I.ok.kind hk hc hcell fin hcd) hd
theorem pe_int {i j pos} : PE X (.Constant (.int i) j pos) (tC (.int i)) := fun _ _ _ H _ I h => wpAny_Constant_int ⟨.int i, H, I.tok _, ⟨_, rfl⟩, h⟩
theorem pe_bl {b j pos} : PE X (.Constant (.bool b) j pos) (tC (.bl b)) := fun _ _ _ H _ I h => Constant_bool ⟨.bl b, H, I, rfl, h⟩
theorem pe_non {j pos} : PE X (.Constant .none j pos) (tC .non) := fun _ _ _ H _ I h => Constant_none ⟨.non, H, I, rfl, h⟩
theorem pe_str {x j pos} : PE X (.Constant (.str x) j pos) (tC (.str x)) := fun _ _ _ H _ I h => Calls.Constant_str ⟨.str x, H, I.tok _, ⟨_, rfl⟩, h⟩
def Gl (X : Cx) (x : Str) : Prop := X.env.kindOf x = some .globalImplicit
theorem ld_glob {E : Value → Shared → Prop} {pins : List (Addr × Obj)} {s : Shared} {σ : St} {H : Hp} {x : Str} {u : Value} {pos : Pos} {Q : Value → Shared → Prop} (I : Inv X pins σ H s) (hg : Gl X x) (hm : X.mg x = some u) (h : Q u s)
    (hd : (x == ("__debug__" : Str)) = false := by decide) : wpAny (model X.prog X.w) X.A (eval (.Name x pos) X.env) Q E s :=
  Calls.Name_function_global I.ok.kind hg (Calls.loadGlobal_global (by rw [I.ok.glob]; exact I.mod.glob.keeps I.bk) hm h) hd
theorem ld_blt {E : Value → Shared → Prop} {pins : List (Addr × Obj)} {s : Shared} {σ : St} {H : Hp} {x : Str} {u : Value} {pos : Pos} {Q : Value → Shared → Prop} (I : Inv X pins σ H s) (hg : Gl X x) (hm : X.mg x = none) (hv : bootBuiltins x = some u) (h : Q u s)
    (hn : x ≠ "__name__" := by decide) (hd : (x == ("__debug__" : Str)) = false := by decide) : wpAny (model X.prog X.w) X.A (eval (.Name x pos) X.env) Q E s := by
  obtain ⟨mb, h1, h2⟩ := I.mod.blt
  exact Calls.Name_function_global I.ok.kind hg (Calls.loadGlobal_builtin (by rw [I.ok.glob]; exact I.mod.glob.keeps I.bk) hm (by rw [I.ok.blt]; exact h1.keeps I.bk) ((h2 x hn).trans hv) h) hd
theorem pe_glob {x : Str} {v : V} {u : Value} {pos : Pos} (hg : Gl X x) (hm : X.mg x = some u) (r : RelV v u) (hd : (x == ("__debug__" : Str)) = false := by decide) : PE X (.Name x pos) (tC v) :=
  fun _ _ _ H _ I h => ld_glob I hg hm ⟨v, H, I, r, h⟩ hd
theorem pe_bltn {x : Str} {v : V} {u : Value} {pos : Pos} (hg : Gl X x) (hm : X.mg x = none) (hv : bootBuiltins x = some u) (r : RelV v u) (hn : x ≠ "__name__" := by decide) (hd : (x == ("__debug__" : Str)) = false := by decide) : PE X (.Name x pos) (tC v) :=
  fun _ _ _ H _ I h => ld_blt I hg hm hv ⟨v, H, I, r, h⟩ hn hd
variable {a b : Expr} {ta tb : TE} {pos : Pos}
def PC (X : Cx) (op : CmpOp) (a b : Expr) (t : TE) : Prop :=
  ∀ (pins : List (Addr × Obj)) (s : Shared) (σ : St) (H : Hp) (Q : VK), Inv X pins σ H s → t σ H Q →
    wpAny (model X.prog X.w) X.A (eval a X.env) (fun v s₁ => wpAny (model X.prog X.w) X.A (eval b X.env) (fun u s₂ => wpAny (model X.prog X.w) X.A (compareOp op v u) (EP X pins σ Q) X.xe s₂) X.xe s₁) X.xe s
theorem nobehind (b : Expr) {op : CmpOp} (h : op ≠ .In) (h2 : op ≠ .NotIn) : behindInMarks op b = false := by
  have e1 : (op == CmpOp.In) = false := by cases op <;> first | rfl | exact absurd rfl h
  have e2 : (op == CmpOp.NotIn) = false := by cases op <;> first | rfl | exact absurd rfl h2
  cases b <;> simp [behindInMarks, e1, e2]
def tIsN (ta : TE) : TE := fun σ H Q => ta σ H fun x H1 => Q (.bl (decide (x = .non))) H1
def tNotN (ta : TE) : TE := fun σ H Q => ta σ H fun x H1 => Q (.bl (!decide (x = .non))) H1
theorem RelV.none_iff {x : V} {v : Value} (r : RelV x v) : (v == Value.none) = decide (x = .non) := by
  cases x with
  | non => cases r; rfl
  | bl _ => cases r; rfl
  | int _ => obtain ⟨t, rfl⟩ := r; rfl
  | str _ => obtain ⟨t, rfl⟩ := r; rfl
  | byt _ => obtain ⟨t, rfl⟩ := r; rfl
  | flt _ => obtain ⟨t, rfl⟩ := r; rfl
  | ref _ => cases r; rfl
  | ty _ => cases r; rfl
theorem pc_isN {j pos'} (ha : PE X a ta) : PC X .Is a (.Constant .none j pos') (tIsN ta) := by
  intro pins s σ H Q I h
  refine thn (ha pins s σ H _ I h) fun v s1 ⟨x, H1, I1, r1, q1⟩ => ?_
  exact Constant_none (is_none_gen ⟨.bl _, H1, I1, by rw [r1.none_iff]; rfl, q1⟩)
theorem pc_notN {j pos'} (ha : PE X a ta) : PC X .IsNot a (.Constant .none j pos') (tNotN ta) := by
  intro pins s σ H Q I h
  refine thn (ha pins s σ H _ I h) fun v s1 ⟨x, H1, I1, r1, q1⟩ => ?_
  exact Constant_none (isnot_none_gen ⟨.bl _, H1, I1, by rw [r1.none_iff]; rfl, q1⟩)
def tB (t : TE) : TT := fun σ H Q => t σ H fun x H1 => ∃ c, x = .bl c ∧ Q c H1
theorem pt_cmp {op : CmpOp} {t : TE} (h : PC X op a b t) (h1 : behindInMarks op b = false := by first | exact nobehind _ (by decide) (by decide) | rfl) : PT X (.Compare a [op] [b] pos) (tB t) := by
  intro pins s σ H Q I hw
  refine wpAny_isTrue_Compare1 (thn (h pins s σ H _ I hw) fun v s1 h1 => thn h1 fun u s2 h2 => thn h2 fun c s3 ⟨x, H1, I1, r1, q1⟩ => ?_) h1
  obtain ⟨d, rfl, q⟩ := q1
  cases r1
  exact wpAny_truthy_bool ⟨H1, I1, q⟩
theorem pt_val {e : Expr} {t : TE} (h : PE X e t) (he : ∀ whole, isTrue e X.env whole = (do let v ← whole; standAt e.pos; holding [v] (truthy v)) := by intro _; rfl) : PT X e (tB t) := by
  intro pins s σ H Q I hw
  refine isTrue_plain (thn (h pins s σ H _ I hw) fun v s1 ⟨x, H1, I1, r1, q1⟩ => ?_) (he _)
  obtain ⟨d, rfl, q⟩ := q1
  cases r1
  exact wpAny_truthy_bool ⟨H1, I1, q⟩
variable {tA tB' : TT} {rest : List Expr}
def tAnd (t u : TT) : TT := fun σ H Q => t σ H fun c H1 => if c = true then u σ H1 Q else Q false H1
def tOr (t u : TT) : TT := fun σ H Q => t σ H fun c H1 => if c = true then Q true H1 else u σ H1 Q
def tNot (t : TT) : TT := fun σ H Q => t σ H fun c H1 => Q (!c) H1
theorem pw_and1 (ha : PT X a tA) : PW X (.BoolOp .And [a] pos) tA := by
  intro wh pins s σ H Q I h
  refine isTrue_and (thn (ha pins s σ H Q I h) fun c s1 e => ?_)
  cases c with
  | true => exact isTrue_and_nil e
  | false => exact e
theorem pw_or1 (ha : PT X a tA) : PW X (.BoolOp .Or [a] pos) tA := by
  intro wh pins s σ H Q I h
  refine isTrue_or (thn (ha pins s σ H Q I h) fun c s1 e => ?_)
  cases c with
  | false => exact isTrue_or_nil e
  | true => exact e
theorem pw_and (ha : PT X a tA) (hb : PW X (.BoolOp .And (b :: rest) pos) tB') : PW X (.BoolOp .And (a :: b :: rest) pos) (tAnd tA tB') := by
  intro wh pins s σ H Q I h
  refine isTrue_and (thn (ha pins s σ H _ I h) fun c s1 ⟨H1, I1, q1⟩ => ?_)
  cases c with
  | true => exact hb wh pins s1 σ H1 Q I1 q1
  | false => exact ⟨H1, I1, q1⟩
theorem pw_or (ha : PT X a tA) (hb : PW X (.BoolOp .Or (b :: rest) pos) tB') : PW X (.BoolOp .Or (a :: b :: rest) pos) (tOr tA tB') := by
  intro wh pins s σ H Q I h
  refine isTrue_or (thn (ha pins s σ H _ I h) fun c s1 ⟨H1, I1, q1⟩ => ?_)
  cases c with
  | true => exact ⟨H1, I1, q1⟩
  | false => exact hb wh pins s1 σ H1 Q I1 q1
theorem pt_not (ha : PT X a tA) : PT X (.UnaryOp .Not a pos) (tNot tA) := by
  intro pins s σ H Q I h
  exact isTrue_not (ha pins s σ H (fun c H1 => Q (!c) H1) I h)
def tAndV (ta tb : TE) : TE := fun σ H Q => ta σ H fun x H1 => ∃ c, x = .bl c ∧ if c = true then tb σ H1 Q else Q (.bl false) H1
def tOrV (ta tb : TE) : TE := fun σ H Q => ta σ H fun x H1 => ∃ c, x = .bl c ∧ if c = true then Q (.bl true) H1 else tb σ H1 Q
theorem pe_one {op} {t : TE} (h : PE X a t) : PE X (.BoolOp op [a] pos) t := fun pins s σ H Q I hw => BoolOp_one (h pins s σ H Q I hw)
theorem pe_and (ha : PE X a ta) (hb : PE X (.BoolOp .And (b :: rest) pos) tb) : PE X (.BoolOp .And (a :: b :: rest) pos) (tAndV ta tb) := by
  intro pins s σ H Q I h
  refine BoolOp_and (thn (ha pins s σ H _ I h) fun v s1 ⟨x, H1, I1, r1, q1⟩ => ?_)
  obtain ⟨c, rfl, q1⟩ := q1
  cases r1
  refine wpAny_truthy_bool ?_
  cases c with
  | true => exact hb pins s1 σ H1 Q I1 q1
  | false => exact ⟨.bl false, H1, I1, rfl, q1⟩
theorem pe_or (ha : PE X a ta) (hb : PE X (.BoolOp .Or (b :: rest) pos) tb) : PE X (.BoolOp .Or (a :: b :: rest) pos) (tOrV ta tb) := by
  intro pins s σ H Q I h
  refine BoolOp_or (thn (ha pins s σ H _ I h) fun v s1 ⟨x, H1, I1, r1, q1⟩ => ?_)
  obtain ⟨c, rfl, q1⟩ := q1
  cases r1
  refine wpAny_truthy_bool ?_
  cases c with
  | false => exact hb pins s1 σ H1 Q I1 q1
  | true => exact ⟨.bl true, H1, I1, rfl, q1⟩
def tIf (t : TT) (ta tb : TE) : TE := fun σ H Q => t σ H fun c H1 => if c = true then ta σ H1 Q else tb σ H1 Q
theorem pe_ifExp {c : Expr} (hc : PT X c tA) (ha : PE X a ta) (hb : PE X b tb) : PE X (.IfExp c a b pos) (tIf tA ta tb) := by
  intro pins s σ H Q I h
  refine wpAny_IfExp (thn (hc pins s σ H _ I h) fun d s1 ⟨H1, I1, q1⟩ => ?_)
  cases d with
  | true => exact ha pins s1 σ H1 Q I1 q1
  | false => exact hb pins s1 σ H1 Q I1 q1
end
end L2
namespace L2
open PySem PySem.Spec PyProof.Rows
def SqL (K : PySem.W.Frag) (H : Hp) (a : Addr) (xs : List V) : Prop :=
  Rd H a (.lst xs) ∨
    ∃ (o : Obj) (its : Array Value) (n : Nat), K.lookup a = some o ∧ o.cls = .type "list" ∧ o.dict = none ∧ o.data = .seq its n ∧ its.size ≤ sizeLine ∧ Vals xs its.toList
def SqT (K : PySem.W.Frag) (H : Hp) (a : Addr) (xs : List V) : Prop :=
  Rd H a (.tup xs) ∨
    ∃ (o : Obj) (its : Array Value) (n : Nat), K.lookup a = some o ∧ o.cls = .type "tuple" ∧ o.data = .seq its n ∧ its.size ≤ sizeLine ∧ Vals xs its.toList
def absV : Value → Option V
  | .none => some .non
  | .bool b => some (.bl b)
  | .int i _ => some (.int i)
  | .str x _ => some (.str x)
  | .bytes b _ => some (.byt b)
  | .float b _ => some (.flt b)
  | .ref a => some (.ref a)
  | .type n => some (.ty n)
  | _ => none
theorem RelV.abs {x : V} {u : Value} (r : RelV x u) : absV u = some x := by
  cases x with
  | non => cases r; rfl
  | bl _ => cases r; rfl
  | int _ => obtain ⟨t, rfl⟩ := r; rfl
  | str _ => obtain ⟨t, rfl⟩ := r; rfl
  | byt _ => obtain ⟨t, rfl⟩ := r; rfl
  | flt _ => obtain ⟨t, rfl⟩ := r; rfl
  | ref _ => cases r; rfl
  | ty _ => cases r; rfl
theorem RelV.inj {x y : V} {u : Value} (r : RelV x u) (q : RelV y u) : x = y := Option.some.inj (r.abs.symm.trans q.abs)
theorem Vals.inj : ∀ {xs ys : List V} {us : List Value}, Vals xs us → Vals ys us → xs = ys
  | _, _, _, .nil, .nil => rfl
  | _, _, _, .cons r t, .cons r' t' => by rw [r.inj r', Vals.inj t t']
section
variable {X : Cx} {pins : List (Addr × Obj)} {σ : St} {H : Hp} {s : Shared} {a : Addr} {xs ys : List V}
theorem SqL.of {K : PySem.W.Frag} (h : H a = some (.lst xs)) : SqL K H a xs := .inl (.inl h)
theorem SqT.of {K : PySem.W.Frag} (h : H a = some (.tup xs)) : SqT K H a xs := .inl (.inl h)
theorem Inv.list (I : Inv X pins σ H s) (h : SqL X.K H a xs) : ∃ its : List Value, Vals xs its ∧ PlainL s.heap a its.toArray ∧ xs.length ≤ sizeLine := by
  rcases h with h | ⟨o, its, n, hk, hc, hd, hs, hz, r⟩
  · obtain ⟨z, its, n, r, e⟩ := h.ok I.hok
    exact ⟨its, r, ⟨_, n, e, rfl, rfl, rfl⟩, z⟩
  · refine ⟨its.toList, r, ⟨o, n, I.kIn a o hk, hc, hd, by simpa using hs⟩, ?_⟩
    have e := r.length
    simp only [Array.length_toList] at e
    omega
theorem Inv.tuple (I : Inv X pins σ H s) (h : SqT X.K H a xs) : ∃ its : List Value, Vals xs its ∧ IsTup s.heap a its.toArray ∧ xs.length ≤ sizeLine := by
  rcases h with h | ⟨o, its, n, hk, hc, hs, hz, r⟩
  · obtain ⟨z, its, r, p⟩ := h.ok I.hok
    exact ⟨its, r, p, z⟩
  · refine ⟨its.toList, r, ⟨o, I.kIn a o hk, hc, n, by simpa using hs⟩, ?_⟩
    have e := r.length
    simp only [Array.length_toList] at e
    omega
theorem Inv.list_inj (I : Inv X pins σ H s) (h : SqL X.K H a xs) (h' : SqL X.K H a ys) : xs = ys := by
  obtain ⟨its, r, ⟨o, n, e, _, _, d⟩, _⟩ := I.list h
  obtain ⟨its', r', ⟨o', n', e', _, _, d'⟩, _⟩ := I.list h'
  rw [e] at e'; cases e'
  rw [d] at d'
  injection d' with d1 _
  have : its = its' := by simpa using congrArg Array.toList d1
  subst this
  exact r.inj r'
end
abbrev Cx.wish (X : Cx) (E : Value → Shared → Prop) : Cx := { X with xe := E }
abbrev Cx.nox (X : Cx) : Cx := X.wish fun _ _ => False
theorem Cx.Ok.wish {X : Cx} (ok : X.Ok) (E : Value → Shared → Prop) : (X.wish E).Ok :=
  ⟨ok.mod, ok.kind, ok.glob, ok.blt, ok.above, ok.inj, ok.has, ok.cab, ok.hd, ok.frames, ok.stk, ok.exf, ok.bs, ok.bsz, ok.noex, ok.exfs, ok.funs, ok.frf⟩
theorem Cx.Ok.unwish {X : Cx} {E : Value → Shared → Prop} (ok : (X.wish E).Ok) : X.Ok :=
  ⟨ok.mod, ok.kind, ok.glob, ok.blt, ok.above, ok.inj, ok.has, ok.cab, ok.hd, ok.frames, ok.stk, ok.exf, ok.bs, ok.bsz, ok.noex, ok.exfs, ok.funs, ok.frf⟩
section
variable {X : Cx} {pins : List (Addr × Obj)} {σ : St} {H : Hp} {s : Shared} {E : Value → Shared → Prop}
theorem Inv.wish (I : Inv X pins σ H s) (E : Value → Shared → Prop) : Inv (X.wish E) pins σ H s := ⟨I.ok.wish E, I.os, I.bare, I.base, I.loc, I.cell, I.free, I.freeC, I.pin, I.hok, I.len⟩
theorem Inv.unwish (I : Inv (X.wish E) pins σ H s) : Inv X pins σ H s := ⟨I.ok.unwish, I.os, I.bare, I.base, I.loc, I.cell, I.free, I.freeC, I.pin, I.hok, I.len⟩
theorem SP.unwish {D : Ends} {f : Flow} {s' : Shared} (h : SP (X.wish E) pins D f s') : SP X pins D f s' := by
  cases f with
  | next => obtain ⟨σ', H', I, q⟩ := h; exact ⟨σ', H', I.unwish, q⟩
  | brk => obtain ⟨σ', H', I, q⟩ := h; exact ⟨σ', H', I.unwish, q⟩
  | cont => obtain ⟨σ', H', I, q⟩ := h; exact ⟨σ', H', I.unwish, q⟩
  | ret u => obtain ⟨v, σ', H', I, r, q⟩ := h; exact ⟨v, σ', H', I.unwish, r, q⟩
theorem PSs.nox {st : List Stmt} {t : TS} (h : PSs X.nox st t) : PSs X st t := fun pins s σ H D I hw =>
  wpAny_mono (h pins s σ H D (I.wish _) hw) (fun _ _ q => q.unwish) fun _ _ z => False.elim z
end
section
variable {X : Cx} {st : Stmt} {rest : List Stmt} {t u : TS} {e : Expr} {te : TE} {pos : Pos}
def tNext : TS := fun D σ H => D.nx σ H
def tSeq (t u : TS) : TS := fun D σ H => t { D with nx := u D } σ H
theorem pss_nil : PSs X [] tNext := fun _ _ σ H _ I h => wpAny_execs_nil ⟨σ, H, I, h⟩
theorem pss_cons (h1 : PS X st t) (h2 : PSs X rest u) : PSs X (st :: rest) (tSeq t u) := by
  intro pins s σ H D I h
  refine wpAny_execs_cons (thn (h1 pins s σ H { D with nx := u D } I h) fun f s1 q => ?_)
  cases f with
  | next =>
    obtain ⟨σ', H', I', q⟩ := q
    exact h2 pins s1 σ' H' D I' q
  | ret v => exact q
  | brk => exact q
  | cont => exact q
theorem pss_one (h1 : PS X st t) : PSs X [st] t := by
  intro pins s σ H D I h
  refine wpAny_execs_cons (thn (h1 pins s σ H D I h) fun f s1 q => ?_)
  cases f with
  | next => exact wpAny_execs_nil q
  | ret v => exact q
  | brk => exact q
  | cont => exact q
theorem Inv.quiet {pins : List (Addr × Obj)} {σ : St} {H : Hp} {s : Shared} (I : Inv X pins σ H s) : interactive X.env = false := by simp [interactive, I.ok.kind]
def tDrop (te : TE) : TS := fun D σ H => te σ H fun _ H1 => D.nx σ H1
theorem ps_expr (he : PE X e te) (hs : swapsWith e none pos.line X.env = pure false := by rfl) : PS X (.Expr e pos) (tDrop te) := by
  intro pins s σ H D I h
  exact wpAny_Expr_any (thn (he pins s σ H _ I h) fun v s1 ⟨x, H1, I1, r1, q1⟩ => ⟨σ, H1, I1, q1⟩) I.quiet hs
def tRet (te : TE) : TS := fun D σ H => te σ H D.rt
theorem ps_ret (he : PE X e te) : PS X (.Return (some e) pos) (tRet te) := by
  intro pins s σ H D I h
  exact wpAny_Return_some (thn (he pins s σ H _ I h) fun v s1 ⟨x, H1, I1, r1, q1⟩ => ⟨x, σ, H1, I1, r1, q1⟩)
def tIfS (c : TT) (t u : TS) : TS := fun D σ H => c σ H fun b H1 => if b = true then t D σ H1 else u D σ H1
theorem ps_if {c : Expr} {a b : List Stmt} {tc : TT} (hc : PT X c tc) (ha : PSs X a t) (hb : PSs X b u) : PS X (.If c a b pos) (tIfS tc t u) := by
  intro pins s σ H D I h
  refine wpAny_If (thn (hc pins s σ H _ I h) fun d s1 ⟨H1, I1, q1⟩ => ?_)
  cases d with
  | true => exact ha pins s1 σ H1 D I1 q1
  | false => exact hb pins s1 σ H1 D I1 q1
def tNever : TS := fun _ _ _ => False
theorem pss_never {sts : List Stmt} : PSs X sts tNever := fun _ _ _ _ _ _ h => h.elim
end
abbrev TG := V → St → Hp → (St → Hp → Prop) → Prop
abbrev TGs := List V → St → Hp → (St → Hp → Prop) → Prop
def PG (X : Cx) (target : Expr) (t : TG) : Prop :=
  ∀ (pins : List (Addr × Obj)) (s : Shared) (σ : St) (H : Hp) (v : V) (u : Value) (Q : St → Hp → Prop), Inv X pins σ H s → RelV v u → t v σ H Q →
    wpAny (model X.prog X.w) X.A (assign target X.env u) (fun _ s' => ∃ σ' H', Inv X pins σ' H' s' ∧ Q σ' H') X.xe s
def PGs (X : Cx) (ts : List Expr) (t : TGs) : Prop :=
  ∀ (pins : List (Addr × Obj)) (s : Shared) (σ : St) (H : Hp) (vs : List V) (us : List Value) (Q : St → Hp → Prop), Inv X pins σ H s → Vals vs us → t vs σ H Q →
    wpAny (model X.prog X.w) X.A (assignInOrder ((assignEach ts X.env).map (·.2)) us) (fun _ s' => ∃ σ' H', Inv X pins σ' H' s' ∧ Q σ' H') X.xe s
abbrev TSet := V → V → V → Hp → (Hp → Prop) → Prop
def PSet (X : Cx) (t : TSet) : Prop :=
  ∀ (pins : List (Addr × Obj)) (s : Shared) (σ : St) (H : Hp) (o i v : V) (ov iv u : Value) (Q : Hp → Prop), Inv X pins σ H s → RelV o ov → RelV i iv → RelV v u → t o i v H Q →
    wpAny (model X.prog X.w) X.A (setItem ov iv u) (fun _ s' => ∃ H', Inv X pins σ H' s' ∧ Q H') X.xe s
section
variable {X : Cx} {pos : Pos}
def gName (i : Nat) : TG := fun v σ H Q => Q (σ.set i (some v)) H
theorem pg_name {i : Nat} {x : Str} (hN : X.N.Nodup) (hi : X.N[i]? = some x) (hx : Loc X.env.scope x) (hf : X.fn x = true ∨ X.env.scope.names.lookup x = some .local := by first | exact .inl rfl | exact .inr rfl | assumption) : PG X (.Name x pos) (gName i) := by
  intro pins s σ H v u Q I r h
  exact wpAny_assign_Name (store_ok I hN hi hx r (fun s' I' => ⟨_, H, I', h⟩) hf)
def gNil : TGs := fun vs σ H Q => vs = [] ∧ Q σ H
def gCons (t : TG) (u : TGs) : TGs := fun vs σ H Q => ∃ v r, vs = v :: r ∧ t v σ H fun σ' H' => u r σ' H' Q
theorem pgs_nil : PGs X [] gNil := by
  intro pins s σ H vs us Q I r h
  obtain ⟨e, h⟩ := h
  subst e
  cases r
  exact assignInOrder_nil ⟨σ, H, I, h⟩
theorem pgs_cons {e : Expr} {es : List Expr} {t : TG} {u : TGs} (h1 : PG X e t) (h2 : PGs X es u)
    (hs : (assignEach (e :: es) X.env).map (·.2) = assign e X.env :: (assignEach es X.env).map (·.2) := by rfl) : PGs X (e :: es) (gCons t u) := by
  intro pins s σ H vs us Q I r h
  obtain ⟨v, vr, e1, h⟩ := h
  subst e1
  cases r with
  | cons r rr =>
    rw [hs]
    refine assignInOrder_cons (thn (h1 pins s σ H _ _ _ I r h) fun _ s1 ⟨σ1, H1, I1, q1⟩ => ?_)
    exact h2 pins s1 σ1 H1 _ _ Q I1 rr q1
def gTup (K : PySem.W.Frag) (n : Nat) (t : TGs) : TG := fun v σ H Q => ∃ a xs, v = .ref a ∧ SqT K H a xs ∧ xs.length = n ∧ t xs σ H Q
theorem pg_tup {es : List Expr} {k : Nat} {t : TGs} {n : Nat} (hc : X.calm = true) (h : PGs X es t)
    (hn : (assignEach es X.env).length = n := by rfl) (hst : (assignEach es X.env).findIdx? (·.1) = none := by rfl) : PG X (.Tuple es k pos) (gTup X.K n t) := by
  intro pins s σ H v u Q I r hw
  obtain ⟨a, xs, e1, hq, hl, hw⟩ := hw
  subst e1
  cases r
  obtain ⟨its, rv, ht, hz⟩ := I.tuple hq
  refine assign_Tuple_tuple (I.ok.hd hc) ht (by simp [hn, ← hl, rv.length]) hst fun h' hx => ?_
  have I1 : Inv X pins σ H { s with heap := h' } := I.kept (t' := s.toks) fun b o e => hx b o (Nat.ne_of_lt (Heap.lt_size e)) e
  exact h pins _ σ H xs _ Q I1 (by simpa using rv) hw
def gSub (to ti : TE) (t : TSet) : TG := fun v σ H Q => to σ H fun o H1 => ti σ H1 fun i H2 => t o i v H2 fun H3 => Q σ H3
theorem pg_sub {o i : Expr} {to ti : TE} {t : TSet} (ho : PE X o to) (hi : PE X i ti) (hs : PSet X t)
    (ha : ∀ v, assign (.Subscript o i pos) X.env v = (do
      let ov ← holding [v] (eval o X.env)
      let iv ← holding [v, ov] (eval i X.env)
      standAt pos
      holding [v, ov, iv] (setItem ov iv v)
      release [v, ov, iv] []) := by intro _; rfl) : PG X (.Subscript o i pos) (gSub to ti t) := by
  intro pins s σ H v u Q I r h
  rw [ha]
  refine wpAny_bind (wpAny_holding (thn (ho pins s σ H _ I h) fun ov s1 ⟨x, H1, I1, r1, q1⟩ => ?_))
  refine wpAny_bind (wpAny_holding (thn (hi pins s1 σ H1 _ I1 q1) fun iv s2 ⟨y, H2, I2, r2, q2⟩ => ?_))
  refine wpAny_bind (wpAny_standAt (wpAny_bind (wpAny_holding (thn (hs pins s2 σ H2 x y v ov iv u _ I2 r1 r2 r q2) fun _ s3 ⟨H3, I3, q3⟩ => ?_))))
  exact wpAny_release ⟨σ, H3, I3, q3⟩
def tAsg (te : TE) (g : TG) : TS := fun D σ H => te σ H fun x H1 => g x σ H1 D.nx
theorem ps_asg {tg e : Expr} {te : TE} {g : TG} (he : PE X e te) (hg : PG X tg g) (hs : swapsWithSole [tg] e pos.line X.env = pure false := by rfl) (hw : swappedStores [tg] e X.env = pure none := by rfl)
    (h1 : (assignEach [tg] X.env).map (·.2) = [assign tg X.env] := by rfl) : PS X (.Assign [tg] e pos) (tAsg te g) := by
  intro pins s σ H D I h
  refine wpAny_Assign_stores (thn (he pins s σ H _ I h) fun v s1 ⟨x, H1, I1, r1, q1⟩ => ?_) hs hw
  rw [h1]
  exact thn (hg pins s1 σ H1 x v _ I1 r1 q1) fun _ s2 q => q
theorem ps_set {i : Nat} {x : Str} {e : Expr} {te : TE} {pos' : Pos} (hN : X.N.Nodup) (hi : X.N[i]? = some x) (hx : Loc X.env.scope x) (he : PE X e te) (hs : swapsWith e (some (.Name x pos')) pos.line X.env = pure false := by rfl) (hf : X.fn x = true ∨ X.env.scope.names.lookup x = some .local := by first | exact .inl rfl | exact .inr rfl | assumption) :
    PS X (.Assign [.Name x pos'] e pos) (tAsg te (gName i)) := by
  intro pins s σ H D I h
  refine wpAny_Assign_Name (thn (he pins s σ H _ I h) fun v s1 ⟨y, H1, I1, r1, q1⟩ => ?_) hs
  exact store_ok I1 hN hi hx r1 (fun s2 I2 => ⟨_, H1, I2, q1⟩) hf
end
section
variable {X : Cx} {pos : Pos}
def tWhile (c : TT) (tb : TS) : TS := fun D σ H => ∃ W : Nat → St → Hp → Prop, (∃ m, W m σ H) ∧ ∀ m σ H, W m σ H →
  c σ H fun b H1 => if b = true then ∃ N : St → Hp → Prop, (∀ σ' H', N σ' H' → ∃ m', m' < m ∧ W m' σ' H') ∧ tb { D with nx := N, ct := N, bk := D.nx } σ H1 else D.nx σ H1
theorem ps_while {c : Expr} {body : List Stmt} {tc : TT} {tb : TS} (hp : PassesOwn (model X.prog X.w) X.A X.env X.xe) (hc : PT X c tc) (hb : PSs X body tb) : PS X (.While c body [] pos) (tWhile tc tb) := by
  intro pins s σ H D I h
  obtain ⟨W, ⟨m0, w0⟩, turn⟩ := h
  refine wpAny_While (codeAny_whileLoop (fun n s' => ∃ σ' H', Inv X pins σ' H' s' ∧ W n σ' H') ?_ m0 ⟨σ, H, I, w0⟩)
  rintro n s1 ⟨σ1, H1, I1, w1⟩
  refine wpAny_passesOwn hp (thn (hc pins s1 σ1 H1 _ I1 (turn n σ1 H1 w1)) fun b s2 ⟨H2, I2, q2⟩ => ?_)
  cases b with
  | true =>
    obtain ⟨N, hN, q2⟩ := q2
    rw [if_pos rfl]
    refine wpAny_passesOwn hp (thn (hb pins s2 σ1 H2 _ I2 q2) fun f s3 q3 => ?_)
    cases f with
    | next =>
      obtain ⟨σ3, H3, I3, n3⟩ := q3
      obtain ⟨m', hm, w3⟩ := hN σ3 H3 n3
      exact ⟨m', hm, σ3, H3, I3, w3⟩
    | cont =>
      obtain ⟨σ3, H3, I3, n3⟩ := q3
      obtain ⟨m', hm, w3⟩ := hN σ3 H3 n3
      exact ⟨m', hm, σ3, H3, I3, w3⟩
    | brk => exact q3
    | ret v => exact q3
  | false =>
    rw [if_neg Bool.false_ne_true]
    exact wpAny_execs_nil ⟨σ1, H2, I2, q2⟩
end
structure It where
  go : Nat → Hp → Prop
  yld : Nat → Hp → V → Hp → Prop
  stop : Nat → Hp → Prop
def FpOk (X : Cx) (pins : List (Addr × Obj)) (H : Hp) (b : Addr) : Prop :=
  H b = none ∧ b ≠ X.env.locals ∧ b ∉ X.fs ∧ (b ∈ X.ex ∨ X.s₀.heap.objs.size ≤ b) ∧ (∀ x c, X.env.cells.lookup x = some c → c ≠ b) ∧ ∀ p ∈ X.pn ++ pins, p.1 ≠ b
theorem Inv.fpOk {X : Cx} {pins : List (Addr × Obj)} {σ : St} {H H' : Hp} {s : Shared} {b : Addr} (I : Inv X pins σ H s) (hb : s.heap.objs.size ≤ b) (hn : H' b = none) : FpOk X pins H' b := by
  refine ⟨hn, Nat.ne_of_gt (Nat.lt_of_lt_of_le I.lt hb), I.nofs hb, .inr (Nat.le_trans I.sz hb), fun x c e z => ?_, fun p hp z => ?_⟩
  · obtain ⟨v, q⟩ := I.cell x c e
    exact absurd (Nat.lt_of_lt_of_le q.lt (by rw [z]; exact hb)) (Nat.lt_irrefl _)
  · exact absurd (Nat.lt_of_lt_of_le (Heap.lt_size (I.pin p hp).1) (by rw [z]; exact hb)) (Nat.lt_irrefl _)
structure Turn (P : Program) (w : World) (K : PySem.W.Frag) (tg : Expr) (J : It) (fp : List Addr) (it : Addr) (tn : Nat → Heap → Prop) : Prop where
  mem : it ∈ fp
  obj : ∀ i h, tn i h → ∀ b ∈ fp, ∃ o, h.get? b = some o ∧ ∀ v, o.data ≠ .cell v
  keep : ∀ i h h', tn i h → (∀ b ∈ fp, ∀ o, h.get? b = some o → h'.get? b = some o) → tn i h'
  item : ∀ (X : Cx), X.prog = P → X.w = w → X.K = K → X.calm = true → ∀ (i : Nat) (pins : List (Addr × Obj)) (s : Shared) (σ : St) (H : Hp) (E : Value → Shared → Prop), Inv X pins σ H s → (∀ b ∈ fp, FpOk X pins H b) → tn i s.heap → J.go i H →
    wpAny (model P w) X.A (pyNext (.ref it)) (fun r s1 => ∃ u, r = some u ∧
      wpAny (model P w) X.A (letOwnedTupleGo tg (.ref it) u) (fun _ s2 => ∃ x H', Inv X pins σ H' s2 ∧ RelV x u ∧ J.yld i H x H' ∧ tn (i + 1) s2.heap ∧ ∀ b ∈ fp, H' b = none) E s1) E s
  done : ∀ (X : Cx), X.prog = P → X.w = w → X.K = K → X.calm = true → ∀ (i : Nat) (pins : List (Addr × Obj)) (s : Shared) (σ : St) (H : Hp) (E : Value → Shared → Prop), Inv X pins σ H s → (∀ b ∈ fp, FpOk X pins H b) → tn i s.heap → J.stop i H →
    wpAny (model P w) X.A (pyNext (.ref it)) (fun r s1 => r = none ∧ Inv X pins σ H s1) E s
  self : ∀ (A : Around) (i : Nat) (s : Shared) (Q : Value → Shared → Prop) (E : Value → Shared → Prop), tn i s.heap → Q (.ref it) s → wpAny (model P w) A (pyIter (.ref it)) Q E s
abbrev TI := St → Hp → (It → Hp → Prop) → Prop
def PIE (X : Cx) (pins : List (Addr × Obj)) (σ : St) (tg : Expr) (R : It → Hp → Prop) (itv : Value) (s2 : Shared) : Prop :=
  ∃ (it : Addr) (fp : List Addr) (tn : Nat → Heap → Prop) (J : It) (H' : Hp), itv = .ref it ∧ Inv X pins σ H' s2 ∧ Turn X.prog X.w X.K tg J fp it tn ∧ tn 0 s2.heap ∧ (∀ b ∈ fp, FpOk X pins H' b) ∧ R J H'
def PI (X : Cx) (tg iter : Expr) (wi : TI) : Prop :=
  ∀ (pins : List (Addr × Obj)) (s : Shared) (σ : St) (H : Hp) (R : It → Hp → Prop), Inv X pins σ H s → wi σ H R →
    wpAny (model X.prog X.w) X.A (eval iter X.env) (fun v s1 => wpAny (model X.prog X.w) X.A (pyIter v) (PIE X pins σ tg R) X.xe s1) X.xe s
theorem go_of {M : Model} {A : Around} {E : Value → Shared → Prop} {s : Shared} {tg : Expr} {it : Addr} {u : Value} {o : Obj} {n : String} {vs : Array Value} {Q : Unit → Shared → Prop} (ho : s.heap.get? it = some o) (hc : o.cls = .type n) (hd : o.data = .fields vs)
    (hn : ["enumerate", "zip", "dict_itemiterator", "dict_reverseitemiterator", "odict_iterator", "itertools.zip_longest", "itertools.pairwise"].contains n = false) (hQ : Q () s) : wpAny M A (letOwnedTupleGo tg (.ref it) u) Q E s := by
  unfold letOwnedTupleGo
  cases tg <;> first
    | exact wpAny_pure hQ
    | (cases u <;> first
        | exact wpAny_pure hQ
        | (refine wpAny_bind (wpAny_load ho ?_)
           rw [hc, hd]
           show wpAny M A (if (["enumerate", "zip", "dict_itemiterator", "dict_reverseitemiterator", "odict_iterator", "itertools.zip_longest", "itertools.pairwise"].contains n && vs[0]? == some (rawInt _)) = true then _ else _) Q E s
           rw [if_neg (by intro h; rw [hn, Bool.false_and] at h; cases h)]
           exact wpAny_pure hQ))
def Itl (K : PySem.W.Frag) (a : Addr) : It :=
  ⟨fun i H => ∃ xs x, SqL K H a xs ∧ xs[i]? = some x, fun i H x H' => H' = H ∧ ∀ xs, SqL K H a xs → xs[i]? = some x, fun i H => ∃ xs, SqL K H a xs ∧ xs.length ≤ i⟩
def Itr (lo : Int) (n : Nat) : It := ⟨fun i _ => i < n, fun i H x H' => H' = H ∧ x = .int (lo + i), fun i _ => n ≤ i⟩
theorem turn_list {P : Program} {w : World} {K : PySem.W.Frag} {tg : Expr} (a it : Addr) : Turn P w K tg (Itl K a) [it] it (fun i h => h.IsListIter it a i) where
  mem := by simp
  obj := fun i h st b hb => by
    have e : b = it := by simpa using hb
    subst e
    obtain ⟨o, e, c, d⟩ := st
    exact ⟨o, e, fun v z => by rw [d] at z; cases z⟩
  keep := fun i h h' st k => st.at fun o e => k it (by simp) o e
  item := by
    intro X hP hw hK hc i pins s σ H E I hf st hg
    subst hP hw hK
    obtain ⟨xs, x, hq, hx⟩ := hg
    obtain ⟨its, rv, p, hz⟩ := I.list hq
    obtain ⟨u, hu, ru⟩ := rv.get hx
    obtain ⟨f0, f1, f2, f3, f4, f5⟩ := hf it (by simp)
    refine wpAny_pyNext_list_item st p.isList (x := u) (by simpa using hu) fun h' st' sb => ?_
    have I1 : Inv X pins σ H { s with heap := h' } := I.turned (t' := s.toks) (fun b o hb e => (sb.2 b hb).trans e) f0 f1 f3 f4 f5
    obtain ⟨o, e, c, d⟩ := id st'
    exact ⟨u, rfl, go_of (s := { s with heap := h' }) e c d (by decide) ⟨x, H, I1, ru, ⟨rfl, fun ys hy => by rw [I.list_inj hy hq]; exact hx⟩, st', fun b hb => (hf b hb).1⟩⟩
  done := by
    intro X hP hw hK hc i pins s σ H E I hf st hg
    subst hP hw hK
    obtain ⟨xs, hq, hx⟩ := hg
    obtain ⟨its, rv, p, hz⟩ := I.list hq
    obtain ⟨f0, f1, f2, f3, f4, f5⟩ := hf it (by simp)
    have hl := rv.length
    exact wpAny_pyNext_list_end (I.ok.hd hc) st p.isList (by simp; omega) fun h' eb => ⟨rfl, I.turned (t' := s.toks) (fun b o hb e => eb b o hb e) f0 f1 f3 f4 f5⟩
  self := fun _ _ _ _ _ st h => wpAny_pyIter_listiter st h
theorem turn_range {P : Program} {w : World} {K : PySem.W.Frag} {tg : Expr} (it : Addr) (lo : Int) (n : Nat) : Turn P w K tg (Itr lo n) [it] it (fun i h => IsRangeIter h it (lo + (i : Nat) * 1) ((n : Int) - (i : Nat)) 1) where
  mem := by simp
  obj := fun i h st b hb => by
    have e : b = it := by simpa using hb
    subst e
    exact ⟨_, st, fun v z => by
      have z' : Data.fields _ = Data.cell v := z
      cases z'⟩
  keep := fun i h h' st k => k it (by simp) _ st
  item := by
    intro X hP hw hK hc i pins s σ H E I hf st hg
    subst hP hw hK
    obtain ⟨f0, f1, f2, f3, f4, f5⟩ := hf it (by simp)
    have W := Walks.range (prog := X.prog) (w := X.w) (I.ok.hd hc) it lo 1 n
    refine W.item i s _ _ hg st fun v h' tk hv st' kk => ?_
    obtain ⟨t, rfl⟩ := hv
    have I1 : Inv X pins σ H { s with heap := h', toks := tk } := I.turned (fun b o hb e => kk b o (by simpa using hb) e) f0 f1 f3 f4 f5
    refine ⟨_, rfl, go_of (s := { s with heap := h', toks := tk }) (n := "range_iterator") st' rfl rfl (by decide) ⟨.int (lo + i), H, I1, ⟨t, ?_⟩, ⟨rfl, rfl⟩, st', fun b hb => (hf b hb).1⟩⟩
    rw [Int.mul_one]
  done := by
    intro X hP hw hK hc i pins s σ H E I hf st hg
    subst hP hw hK
    obtain ⟨f0, f1, f2, f3, f4, f5⟩ := hf it (by simp)
    exact wpAny_pyNext_range_end (I.ok.hd hc) st (by have : n ≤ i := hg; omega) fun h' eb => ⟨rfl, I.turned (t' := s.toks) (fun b o hb e => eb b o hb e) f0 f1 f3 f4 f5⟩
  self := fun _ _ _ _ _ st h => wpAny_pyIter_rangeiter st h
end L2
namespace L2
open PySem PySem.Spec PyProof.Rows
section
variable {X : Cx} {tg : Expr}
def iList (K : PySem.W.Frag) (tl : TE) : TI := fun σ H R => tl σ H fun x H1 => ∃ a, x = .ref a ∧ (∃ xs, SqL K H1 a xs) ∧ R (Itl K a) H1
theorem pi_list {l : Expr} {tl : TE} (hl : PE X l tl) : PI X tg l (iList X.K tl) := by
  intro pins s σ H R I h
  refine thn (hl pins s σ H _ I h) fun v s1 ⟨x, H1, I1, r1, q1⟩ => ?_
  obtain ⟨a, e, ⟨xs, hq⟩, q⟩ := q1
  subst e
  cases r1
  obtain ⟨its, rv, p, hz⟩ := I1.list hq
  refine wpAny_pyIter_list p.isList ?_
  refine ⟨s1.heap.objs.size, [s1.heap.objs.size], _, _, H1, rfl, I1.kept (t' := s1.toks) fun b o e => Heap.get?_push_of_some _ e, turn_list a _, ⟨_, Heap.get?_push_size _ rfl, rfl, rfl⟩, fun b hb => ?_, q⟩
  have e : b = s1.heap.objs.size := by simpa using hb
  subst e
  exact I1.fpOk (Nat.le_refl _) (I1.hok.fresh (Nat.le_refl _))
theorem range_it {pins : List (Addr × Obj)} {σ : St} {H : Hp} {s : Shared} {R : It → Hp → Prop} {E : Value → Shared → Prop} {lo hi : Int} {t u v : Tok} {tk : Nat} (I : Inv X pins σ H s) (h1 : -(2 ^ 62) ≤ lo) (h2 : lo < 2 ^ 62) (h3 : -(2 ^ 62) ≤ hi) (h4 : hi < 2 ^ 62)
    (q : R (Itr lo (hi - lo).toNat) H) : wpAny (model X.prog X.w) X.A (pyIter (.ref s.heap.objs.size)) (PIE X pins σ tg R) E { s with heap := s.heap.push { cls := .type "range", data := .fields #[.int lo t, .int hi u, .int 1 v] }, toks := tk } := by
  refine wpAny_pyIter_range (IsRange.new ..) (small_one h1 h2 h3 h4) ?_
  have I1 : Inv X pins σ H { s with heap := s.heap.push { cls := .type "range", data := .fields #[.int lo t, .int hi u, .int 1 v] }, toks := tk } := I.kept fun b o e => Heap.get?_push_of_some _ e
  refine ⟨(s.heap.push { cls := .type "range", data := .fields #[.int lo t, .int hi u, .int 1 v] }).objs.size, [(s.heap.push { cls := .type "range", data := .fields #[.int lo t, .int hi u, .int 1 v] }).objs.size], _, _, H, rfl,
    I1.kept (t' := tk) fun b o e => Heap.get?_push_of_some _ e, turn_range _ lo (hi - lo).toNat, ?_, fun b hb => ?_, q⟩
  · have e1 : lo + ((0 : Nat) : Int) * 1 = lo := by simp
    have e2 : (((hi - lo).toNat : Nat) : Int) - ((0 : Nat) : Int) = Builtin.Range.rangeSize lo hi 1 := by rw [rangeSize_one]; split <;> omega
    show IsRangeIter _ _ (lo + ((0 : Nat) : Int) * 1) ((((hi - lo).toNat : Nat) : Int) - ((0 : Nat) : Int)) 1
    rw [e1, e2]
    exact Heap.get?_push_size _ rfl
  · have e : b = (s.heap.push { cls := .type "range", data := .fields #[.int lo t, .int hi u, .int 1 v] }).objs.size := by simpa using hb
    subst e
    exact I1.fpOk (Nat.le_refl _) (I1.hok.fresh (Nat.le_refl _))
def iRng1 (ta : TA) : TI := fun σ H R => ta σ H fun vs H1 => ∃ j : Int, vs = [.int j] ∧ -(2 ^ 62) ≤ j ∧ j < 2 ^ 62 ∧ R (Itr 0 j.toNat) H1
theorem pi_range1 {a : Expr} {ta : TA} {p pos : Pos} (hg : Gl X "range") (hm : X.mg "range" = none) (ha : PA X [a] ta) (hs : starEach [a] X.env = [(false, eval a X.env)] := by rfl) : PI X tg (.Call (.Name "range" p) [a] [] pos) (iRng1 ta) := by
  intro pins s σ H R I h
  refine Call_ (ld_blt I hg hm boot_range (PyProof.Rows.callWith_type1 (thn (ha pos pins s σ H _ I h) fun us s1 ⟨vs, H1, I1, r1, q1⟩ => ?_) hs rfl))
  obtain ⟨j, e, q1, q2, q⟩ := q1
  subst e
  cases r1 with
  | cons r rr =>
    cases rr
    obtain ⟨t, rfl⟩ := r
    exact call_range_1 (range_it I1 (by omega) (by omega) q1 q2 (by simpa using q))
def tFor (wi : TI) (g : TG) (tb : TS) : TS := fun D σ H => wi σ H fun J H1 => ∃ W : Nat → Nat → St → Hp → Prop, (∃ m, W 0 m σ H1) ∧ ∀ i m σ H, W i m σ H →
  (J.stop i H ∧ D.nx σ H) ∨ (J.go i H ∧ ∃ N : St → Hp → Prop, (∀ σ' H', N σ' H' → ∃ m', m' < m ∧ W (i + 1) m' σ' H') ∧ ∀ x H', J.yld i H x H' → g x σ H' fun σ2 H2 => tb { D with nx := N, ct := N, bk := D.nx } σ2 H2)
def pinsAt (fp : List Addr) (h : Heap) : List (Addr × Obj) := fp.filterMap fun b => (h.get? b).map fun o => (b, o)
theorem mem_pinsAt {fp : List Addr} {h : Heap} {b : Addr} {o : Obj} (hb : b ∈ fp) (e : h.get? b = some o) : (b, o) ∈ pinsAt fp h := List.mem_filterMap.mpr ⟨b, hb, by rw [e]; rfl⟩
theorem of_pinsAt {fp : List Addr} {h : Heap} {p : Addr × Obj} (hp : p ∈ pinsAt fp h) : p.1 ∈ fp ∧ h.get? p.1 = some p.2 := by
  obtain ⟨b, hb, e⟩ := List.mem_filterMap.mp hp
  cases q : h.get? b with
  | none => rw [q] at e; cases e
  | some o =>
    rw [q] at e
    have e' : (b, o) = p := Option.some.inj e
    subst e'
    exact ⟨hb, q⟩
theorem Inv.pinned {pins : List (Addr × Obj)} {σ : St} {H : Hp} {s : Shared} {fp : List Addr} (I : Inv X pins σ H s) (hf : ∀ b ∈ fp, FpOk X pins H b) (ho : ∀ b ∈ fp, ∃ o, s.heap.get? b = some o ∧ ∀ v, o.data ≠ .cell v) : Inv X (pins ++ pinsAt fp s.heap) σ H s :=
  I.pins_of fun p hp => (List.mem_append.mp hp).elim (fun z => I.pin p (List.mem_append_right _ z)) fun z => by
    obtain ⟨hb, e⟩ := of_pinsAt z
    obtain ⟨f0, f1, f2, _⟩ := hf p.1 hb
    obtain ⟨o, e', d⟩ := ho p.1 hb
    rw [e] at e'; cases e'
    exact ⟨e, f0, f1, f2, d⟩
theorem Inv.unpinned {pins pl : List (Addr × Obj)} {σ : St} {H : Hp} {s : Shared} (I : Inv X (pins ++ pl) σ H s) : Inv X pins σ H s := I.pins_of fun p hp => I.pin p (List.mem_append_right _ (List.mem_append_left _ hp))
theorem ps_for {iter : Expr} {body : List Stmt} {wi : TI} {g : TG} {tb : TS} {pos : Pos} (hp : PassesOwn (model X.prog X.w) X.A X.env X.xe) (hc : X.calm = true) (hi : PI X tg iter wi) (hg : PG X tg g) (hb : PSs X body tb)
    (hs : ∀ x, foldedSetIterable iter X.env x = pure x := by intro _; rfl) : PS X (.For tg iter body [] pos) (tFor wi g tb) := by
  intro pins s σ H D I h
  refine wpAny_For (thn (hi pins s σ H _ I h) fun v s1 h1 => thn h1 fun itv s2 h2 => ?_) hs
  obtain ⟨it, fp, tn, J, H2, e, I2, T, st2, f2, W, ⟨m0, w0⟩, turn⟩ := h2
  subst e
  -- what stays true of the iterator's objects through the loop
  have stat : ∀ {H' : Hp}, (∀ b ∈ fp, H' b = none) → ∀ b ∈ fp, FpOk X pins H' b := fun hn b hb => ⟨hn b hb, (f2 b hb).2⟩
  refine codeAny_forLoop_any (fun n s' => ∃ i σ' H', Inv X pins σ' H' s' ∧ tn i s'.heap ∧ (∀ b ∈ fp, H' b = none) ∧ W i n σ' H') ?_ m0 ⟨0, σ, H2, I2, st2, fun b hb => (f2 b hb).1, w0⟩
  rintro n s3 ⟨i, σ3, H3, I3, st3, fr3, w3⟩
  rcases turn i n σ3 H3 w3 with ⟨stop, qn⟩ | ⟨go, N, hN, step⟩
  · refine wpAny_passesOwn hp (thn (T.done X rfl rfl rfl hc i pins s3 σ3 H3 X.xe I3 (stat fr3) st3 stop) fun r s4 ⟨hr, I4⟩ => ?_)
    subst hr
    exact wpAny_execs_nil ⟨σ3, H3, I4, qn⟩
  · refine wpAny_passesOwn hp (thn (T.item X rfl rfl rfl hc i pins s3 σ3 H3 X.xe I3 (stat fr3) st3 go) fun r s4 ⟨u, hr, h4⟩ => ?_)
    subst hr
    refine wpAny_passesOwn hp (thn h4 fun _ s5 ⟨x, H5, I5, r5, y5, st5, fr5⟩ => ?_)
    have I5' := I5.pinned (stat fr5) (T.obj _ _ st5)
    refine wpAny_passesOwn hp (thn (hg _ s5 σ3 H5 x u _ I5' r5 (step x H5 y5)) fun _ s6 ⟨σ6, H6, I6, q6⟩ => ?_)
    refine wpAny_passesOwn hp (thn (hb _ s6 σ6 H6 _ I6 q6) fun f s7 q7 => ?_)
    have again : ∀ {σ7 : St} {H7 : Hp}, Inv X (pins ++ pinsAt fp s5.heap) σ7 H7 s7 → N σ7 H7 → ∃ m, m < n ∧ ∃ i σ' H', Inv X pins σ' H' s7 ∧ tn i s7.heap ∧ (∀ b ∈ fp, H' b = none) ∧ W i m σ' H' := fun {σ7 H7} I7 n7 => by
      obtain ⟨m', hm, w7⟩ := hN σ7 H7 n7
      refine ⟨m', hm, i + 1, σ7, H7, I7.unpinned, T.keep _ _ _ st5 fun b hb o e => (I7.pin (b, o) (List.mem_append_right _ (List.mem_append_right _ (mem_pinsAt hb e)))).1, fun b hb => ?_, w7⟩
      obtain ⟨o, e, d⟩ := T.obj _ _ st5 b hb
      exact (I7.pin (b, o) (List.mem_append_right _ (List.mem_append_right _ (mem_pinsAt hb e)))).2.1
    cases f with
    | next => obtain ⟨σ7, H7, I7, n7⟩ := q7; exact again I7 n7
    | cont => obtain ⟨σ7, H7, I7, n7⟩ := q7; exact again I7 n7
    | brk => obtain ⟨σ7, H7, I7, q7⟩ := q7; exact ⟨σ7, H7, I7.unpinned, q7⟩
    | ret v => obtain ⟨x7, σ7, H7, I7, r7, q7⟩ := q7; exact ⟨x7, σ7, H7, I7.unpinned, r7, q7⟩
end
theorem for_list {K : PySem.W.Frag} {a : Addr} {xs : List V} {g : TG} {tb : TS} {D : Ends} {σ : St} {H : Hp} (Pv : Nat → St → Hp → Prop) (h0 : Pv 0 σ H) (hl : ∀ i σ H, i ≤ xs.length → Pv i σ H → SqL K H a xs)
    (hs : ∀ i x σ H, xs[i]? = some x → Pv i σ H → g x σ H fun σ2 H2 => tb { D with nx := Pv (i + 1), ct := Pv (i + 1), bk := D.nx } σ2 H2) (hd : ∀ σ H, Pv xs.length σ H → D.nx σ H) :
    ∃ W : Nat → Nat → St → Hp → Prop, (∃ m, W 0 m σ H) ∧ ∀ i m σ H, W i m σ H →
      ((Itl K a).stop i H ∧ D.nx σ H) ∨ ((Itl K a).go i H ∧ ∃ N : St → Hp → Prop, (∀ σ' H', N σ' H' → ∃ m', m' < m ∧ W (i + 1) m' σ' H') ∧ ∀ x H', (Itl K a).yld i H x H' → g x σ H' fun σ2 H2 => tb { D with nx := N, ct := N, bk := D.nx } σ2 H2) := by
  refine ⟨fun i m σ H => m = xs.length - i ∧ i ≤ xs.length ∧ Pv i σ H, ⟨xs.length, by simp, Nat.zero_le _, h0⟩, ?_⟩
  rintro i m σ H ⟨rfl, hi, p⟩
  have q := hl i σ H hi p
  by_cases hlt : i < xs.length
  · refine .inr ⟨⟨xs, xs[i], q, by simp [hlt]⟩, Pv (i + 1), fun σ' H' p' => ⟨xs.length - (i + 1), by omega, rfl, hlt, p'⟩, fun x H' y => ?_⟩
    obtain ⟨e, y⟩ := y
    subst e
    exact hs i x σ _ (y xs q) p
  · have e : i = xs.length := by omega
    subst e
    exact .inl ⟨⟨xs, q, Nat.le_refl _⟩, hd σ H p⟩
theorem for_range {lo : Int} {n : Nat} {g : TG} {tb : TS} {D : Ends} {σ : St} {H : Hp} (Pv : Nat → St → Hp → Prop) (h0 : Pv 0 σ H)
    (hs : ∀ i σ H, i < n → Pv i σ H → g (.int (lo + i)) σ H fun σ2 H2 => tb { D with nx := Pv (i + 1), ct := Pv (i + 1), bk := D.nx } σ2 H2) (hd : ∀ σ H, Pv n σ H → D.nx σ H) :
    ∃ W : Nat → Nat → St → Hp → Prop, (∃ m, W 0 m σ H) ∧ ∀ i m σ H, W i m σ H →
      ((Itr lo n).stop i H ∧ D.nx σ H) ∨ ((Itr lo n).go i H ∧ ∃ N : St → Hp → Prop, (∀ σ' H', N σ' H' → ∃ m', m' < m ∧ W (i + 1) m' σ' H') ∧ ∀ x H', (Itr lo n).yld i H x H' → g x σ H' fun σ2 H2 => tb { D with nx := N, ct := N, bk := D.nx } σ2 H2) := by
  refine ⟨fun i m σ H => m = n - i ∧ i ≤ n ∧ Pv i σ H, ⟨n, by simp, Nat.zero_le _, h0⟩, ?_⟩
  rintro i m σ H ⟨rfl, hi, p⟩
  by_cases hlt : i < n
  · refine .inr ⟨hlt, Pv (i + 1), fun σ' H' p' => ⟨n - (i + 1), by omega, rfl, hlt, p'⟩, fun x H' y => ?_⟩
    obtain ⟨e, y⟩ := y
    subst e y
    exact hs i σ _ hlt p
  · have e : i = n := by omega
    subst e
    exact .inl ⟨Nat.le_refl _, hd σ H p⟩
end L2
namespace L2
open PySem PySem.Spec PyProof.Rows
abbrev R2 := V → V → Hp → VK → Prop
def OpR (X : Cx) (f : Value → Value → Sem Value) (r : R2) : Prop :=
  ∀ (pins : List (Addr × Obj)) (s : Shared) (σ : St) (H : Hp) (x y : V) (v u : Value) (Q : VK), Inv X pins σ H s → RelV x v → RelV y u → r x y H Q →
    wpAny (model X.prog X.w) X.A (f v u) (EP X pins σ Q) X.xe s
def UnR (X : Cx) (f : Value → Sem Value) (r : V → Hp → VK → Prop) : Prop :=
  ∀ (pins : List (Addr × Obj)) (s : Shared) (σ : St) (H : Hp) (x : V) (v : Value) (Q : VK), Inv X pins σ H s → RelV x v → r x H Q →
    wpAny (model X.prog X.w) X.A (f v) (EP X pins σ Q) X.xe s
def CallR (X : Cx) (f : Value) (r : List V → Hp → VK → Prop) : Prop :=
  ∀ (pins : List (Addr × Obj)) (s : Shared) (σ : St) (H : Hp) (xs : List V) (us : List Value) (Q : VK), Inv X pins σ H s → Vals xs us → r xs H Q →
    wpAny (model X.prog X.w) X.A (call f us) (EP X pins σ Q) X.xe s
def tOp (r : R2) (ta tb : TE) : TE := fun σ H Q => ta σ H fun x H1 => tb σ H1 fun y H2 => r x y H2 Q
def tUn (r : V → Hp → VK → Prop) (ta : TE) : TE := fun σ H Q => ta σ H fun x H1 => r x H1 Q
def rI (C : Int → Int → Prop) (g : Int → Int → V) : R2 := fun x y H Q => ∃ i j, x = .int i ∧ y = .int j ∧ C i j ∧ Q (g i j) H
def rI0 (g : Int → Int → V) : R2 := fun x y H Q => ∃ i j, x = .int i ∧ y = .int j ∧ Q (g i j) H
def rU (g : Int → V) : V → Hp → VK → Prop := fun x H Q => ∃ i, x = .int i ∧ Q (g i) H
section
variable {X : Cx} {a b c : Expr} {ta tb tc : TE} {pos : Pos}
theorem binT (ha : PE X a ta) (hb : PE X b tb) {pins : List (Addr × Obj)} {s : Shared} {σ : St} {H : Hp} {R : V → V → Hp → Prop} (I : Inv X pins σ H s)
    (h : ta σ H fun x H1 => tb σ H1 fun y H2 => R x y H2) {Q : Value → Shared → Prop} {f : Value → Value → Sem Value}
    (hf : ∀ v u s2 x y H2, Inv X pins σ H2 s2 → RelV x v → RelV y u → R x y H2 → wpAny (model X.prog X.w) X.A (f v u) Q X.xe s2) :
    wpAny (model X.prog X.w) X.A (eval a X.env) (fun v s₁ => wpAny (model X.prog X.w) X.A (eval b X.env) (fun u s₂ => wpAny (model X.prog X.w) X.A (f v u) Q X.xe s₂) X.xe s₁) X.xe s := by
  refine thn (ha pins s σ H _ I h) fun v s1 ⟨x, H1, I1, r1, q1⟩ => ?_
  refine thn (hb pins s1 σ H1 _ I1 q1) fun u s2 ⟨y, H2, I2, r2, q2⟩ => ?_
  exact hf v u s2 x y H2 I2 r1 r2 q2
theorem pe_op {op : Operator} {r : R2} (ho : OpR X (binaryOp op) r) (ha : PE X a ta) (hb : PE X b tb) : PE X (.BinOp a op b pos) (tOp r ta tb) := by
  intro pins s σ H Q I h
  exact wpAny_BinOp (binT ha hb I h fun v u s2 x y H2 I2 rx ry q => ho pins s2 σ H2 x y v u Q I2 rx ry q)
theorem pe_un {op : UnaryOp} {r : V → Hp → VK → Prop} (ho : UnR X (unaryOp op) r) (ha : PE X a ta) : PE X (.UnaryOp op a pos) (tUn r ta) := by
  intro pins s σ H Q I h
  exact UnaryOp_ (thn (ha pins s σ H _ I h) fun v s1 ⟨x, H1, I1, r1, q1⟩ => ho pins s1 σ H1 x v Q I1 r1 q1)
theorem opI {f : Value → Value → Sem Value} {C : Int → Int → Prop} {g : Int → Int → Int}
    (rule : ∀ (i j : Int) (t u : Tok) (s : Shared) (Q : Value → Shared → Prop) (E : Value → Shared → Prop), C i j → Q (.int (g i j) s.toks) { s with toks := s.toks + 1 } → wpAny (model X.prog X.w) X.A (f (.int i t) (.int j u)) Q E s) :
    OpR X f (rI C fun i j => .int (g i j)) := by
  intro pins s σ H x y v u Q I rx ry h
  obtain ⟨i, j, rfl, rfl, hc, q⟩ := h
  obtain ⟨t, rfl⟩ := rx
  obtain ⟨t', rfl⟩ := ry
  exact rule i j t t' s _ _ hc ⟨.int (g i j), H, I.tok _, ⟨_, rfl⟩, q⟩
theorem opI0 {f : Value → Value → Sem Value} {g : Int → Int → Int}
    (rule : ∀ (i j : Int) (t u : Tok) (s : Shared) (Q : Value → Shared → Prop) (E : Value → Shared → Prop), Q (.int (g i j) s.toks) { s with toks := s.toks + 1 } → wpAny (model X.prog X.w) X.A (f (.int i t) (.int j u)) Q E s) :
    OpR X f (rI0 fun i j => .int (g i j)) := by
  intro pins s σ H x y v u Q I rx ry h
  obtain ⟨i, j, rfl, rfl, q⟩ := h
  obtain ⟨t, rfl⟩ := rx
  obtain ⟨t', rfl⟩ := ry
  exact rule i j t t' s _ _ ⟨.int (g i j), H, I.tok _, ⟨_, rfl⟩, q⟩
theorem opB0 {f : Value → Value → Sem Value} {g : Int → Int → Bool}
    (rule : ∀ (i j : Int) (t u : Tok) (s : Shared) (Q : Value → Shared → Prop) (E : Value → Shared → Prop), Q (.bool (g i j)) s → wpAny (model X.prog X.w) X.A (f (.int i t) (.int j u)) Q E s) :
    OpR X f (rI0 fun i j => .bl (g i j)) := by
  intro pins s σ H x y v u Q I rx ry h
  obtain ⟨i, j, rfl, rfl, q⟩ := h
  obtain ⟨t, rfl⟩ := rx
  obtain ⟨t', rfl⟩ := ry
  exact rule i j t t' s _ _ ⟨.bl (g i j), H, I, rfl, q⟩
def CDiv (i j : Int) : Prop := 0 < j ∧ j < 1073741824
def CMul (i j : Int) : Prop := (-(2 ^ 64) < i ∧ i < 2 ^ 64) ∨ (-(2 ^ 64) < j ∧ j < 2 ^ 64)
theorem CMul.ok {i j : Int} (h : CMul i j) : IntMulOk i j := by
  rcases h with ⟨h1, h2⟩ | ⟨h1, h2⟩
  · exact .of_left (intBits_le_64 h1 h2)
  · exact .of_right (intBits_le_64 h1 h2)
theorem two_pow_nn (k : Nat) : (0 : Int) ≤ 2 ^ k := by
  rw [two_pow_cast]
  exact Int.natCast_nonneg _
theorem op_add : OpR X (binaryOp .Add) (rI0 fun i j => .int (i + j)) := opI0 fun _ _ _ _ _ _ _ q => add_int q
theorem op_sub : OpR X (binaryOp .Sub) (rI0 fun i j => .int (i - j)) := opI0 fun _ _ _ _ _ _ _ q => sub_int q
theorem op_fdiv : OpR X (binaryOp .FloorDiv) (rI CDiv fun i j => .int (i / j)) := opI fun i j _ _ _ _ _ hc q => by
  have h1 : (0 : Int) < j := hc.1
  have h2 : j < 1073741824 := hc.2
  exact floordiv_int (by omega) (by rw [Int.fdiv_eq_ediv_of_nonneg i (by omega)]; exact q) (.inl (PyProof.noPylong_small (by omega)))
theorem op_mod : OpR X (binaryOp .Mod) (rI (fun _ j => 0 < j) fun i j => .int (i % j)) := opI fun i j _ _ _ _ _ hc q => by
  have h1 : (0 : Int) < j := hc
  exact mod_int' (by omega) (by rw [Int.fmod_eq_emod_of_nonneg i (by omega)]; exact q)
theorem op_shr : OpR X (binaryOp .RShift) (rI (fun _ j => 0 ≤ j) fun i j => .int (i / 2 ^ j.toNat)) := opI fun i j _ _ _ _ _ hc q =>
  rshift_int hc (by rw [Int.fdiv_eq_ediv_of_nonneg i (two_pow_nn _)]; exact q)
theorem op_xor : OpR X (binaryOp .BitXor) (rI0 fun i j => .int (Builtin.bitXor i j)) := opI0 fun _ _ _ _ _ _ _ q => xor_int q
theorem unI {f : Value → Sem Value} {g : Int → Int}
    (rule : ∀ (i : Int) (t : Tok) (s : Shared) (Q : Value → Shared → Prop) (E : Value → Shared → Prop), Q (.int (g i) s.toks) { s with toks := s.toks + 1 } → wpAny (model X.prog X.w) X.A (f (.int i t)) Q E s) :
    UnR X f (rU fun i => .int (g i)) := by
  intro pins s σ H x v Q I rx h
  obtain ⟨i, rfl, q⟩ := h
  obtain ⟨t, rfl⟩ := rx
  exact rule i t s _ _ ⟨.int (g i), H, I.tok _, ⟨_, rfl⟩, q⟩
theorem un_neg : UnR X (unaryOp .USub) (rU fun i => .int (-i)) := unI fun _ _ _ _ _ q => neg_int q
end
def scal : V → V → Bool
  | .non, .non => true | .non, .int _ => true | .int _, .non => true | .non, .bl _ => true | .bl _, .non => true | .non, .str _ => true | .str _, .non => true
  | .int _, .int _ => true | .bl _, .bl _ => true | .str _, .str _ => true | .byt _, .byt _ => true
  | .int _, .str _ => true | .str _, .int _ => true | .bl _, .str _ => true | .str _, .bl _ => true
  | _, _ => false
def rEq : R2 := fun x y H Q => scal x y = true ∧ Q (.bl (decide (x = y))) H
def rNe : R2 := fun x y H Q => scal x y = true ∧ Q (.bl (!decide (x = y))) H
theorem dec_int {i j : Int} : decide (V.int i = V.int j) = (i == j) := by
  rw [Bool.eq_iff_iff]
  simp
theorem dec_bl {i j : Bool} : decide (V.bl i = V.bl j) = (i == j) := by
  rw [Bool.eq_iff_iff]
  simp
theorem dec_str {i j : Str} : decide (V.str i = V.str j) = (i == j) := by
  rw [Bool.eq_iff_iff]
  simp
theorem dec_byt {i j : Array UInt8} : decide (V.byt i = V.byt j) = (i.toList == j.toList) := by
  rw [Bool.eq_iff_iff]
  cases i
  cases j
  simp
section
variable {X : Cx} {a b c : Expr} {ta tb tc : TE} {pos : Pos}
theorem fin_bl {pins : List (Addr × Obj)} {σ : St} {H : Hp} {s : Shared} {Q : VK} {k k' : Bool} (I : Inv X pins σ H s) (q : Q (.bl k) H) (e : k = k') : EP X pins σ Q (.bool k') s := by
  subst e
  exact ⟨.bl k, H, I, rfl, q⟩
theorem op_eq : OpR X (compareOp .Eq) rEq := by
  intro pins s σ H x y v u Q I rx ry h
  obtain ⟨hs, q⟩ := h
  cases x with
  | non =>
    cases rx
    cases y with
    | non => cases ry; exact PySem.EqNone.eq_none_none (fin_bl I q (by simp))
    | bl j => cases ry; exact PySem.EqNone.eq_none_bool (fin_bl I q (by simp))
    | int j => obtain ⟨t', rfl⟩ := ry; exact PySem.EqNone.eq_none_int (fin_bl I q (by simp))
    | str j => obtain ⟨t', rfl⟩ := ry; exact PySem.EqNone.eq_none_str (fin_bl I q (by simp))
    | _ => exact absurd (show false = true from hs) Bool.false_ne_true
  | bl i =>
    cases rx
    cases y with
    | non => cases ry; exact PySem.EqNone.eq_bool_none (fin_bl I q (by simp))
    | bl j => cases ry; exact eq_bool (fin_bl I q dec_bl)
    | str j => obtain ⟨t', rfl⟩ := ry; exact PySem.EqMixed.eq_bool_str (fin_bl I q (by simp))
    | _ => exact absurd (show false = true from hs) Bool.false_ne_true
  | int i =>
    obtain ⟨t, rfl⟩ := rx
    cases y with
    | non => cases ry; exact PySem.EqNone.eq_int_none (fin_bl I q (by simp))
    | int j => obtain ⟨t', rfl⟩ := ry; exact eq_int (fin_bl I q dec_int)
    | str j => obtain ⟨t', rfl⟩ := ry; exact PySem.EqMixed.eq_int_str (fin_bl I q (by simp))
    | _ => exact absurd (show false = true from hs) Bool.false_ne_true
  | str i =>
    obtain ⟨t, rfl⟩ := rx
    cases y with
    | non => cases ry; exact PySem.EqNone.eq_str_none (fin_bl I q (by simp))
    | bl j => cases ry; exact PySem.EqMixed.eq_str_bool (fin_bl I q (by simp))
    | int j => obtain ⟨t', rfl⟩ := ry; exact PySem.EqMixed.eq_str_int (fin_bl I q (by simp))
    | str j => obtain ⟨t', rfl⟩ := ry; exact eq_str (fin_bl I q dec_str)
    | _ => exact absurd (show false = true from hs) Bool.false_ne_true
  | byt i =>
    obtain ⟨t, rfl⟩ := rx
    cases y with
    | byt j => obtain ⟨t', rfl⟩ := ry; exact PySem.W.eq_bytes (fin_bl I q dec_byt)
    | _ => exact absurd (show false = true from hs) Bool.false_ne_true
  | _ => cases y <;> exact absurd (show false = true from hs) Bool.false_ne_true
theorem op_ne : OpR X (compareOp .NotEq) rNe := by
  intro pins s σ H x y v u Q I rx ry h
  obtain ⟨hs, q⟩ := h
  cases x with
  | non =>
    cases rx
    cases y with
    | non => cases ry; exact PySem.EqNone.ne_none_none (fin_bl I q (by simp))
    | bl j => cases ry; exact PySem.EqNone.ne_none_bool (fin_bl I q (by simp))
    | int j => obtain ⟨t', rfl⟩ := ry; exact PySem.EqNone.ne_none_int (fin_bl I q (by simp))
    | str j => obtain ⟨t', rfl⟩ := ry; exact PySem.EqNone.ne_none_str (fin_bl I q (by simp))
    | _ => exact absurd (show false = true from hs) Bool.false_ne_true
  | bl i =>
    cases rx
    cases y with
    | non => cases ry; exact PySem.EqNone.ne_bool_none (fin_bl I q (by simp))
    | bl j => cases ry; exact ne_bool (fin_bl I q (congrArg not dec_bl))
    | str j => obtain ⟨t', rfl⟩ := ry; exact PySem.EqMixed.ne_bool_str (fin_bl I q (by simp))
    | _ => exact absurd (show false = true from hs) Bool.false_ne_true
  | int i =>
    obtain ⟨t, rfl⟩ := rx
    cases y with
    | non => cases ry; exact PySem.EqNone.ne_int_none (fin_bl I q (by simp))
    | int j => obtain ⟨t', rfl⟩ := ry; exact ne_int (fin_bl I q (congrArg not dec_int))
    | str j => obtain ⟨t', rfl⟩ := ry; exact PySem.EqMixed.ne_int_str (fin_bl I q (by simp))
    | _ => exact absurd (show false = true from hs) Bool.false_ne_true
  | str i =>
    obtain ⟨t, rfl⟩ := rx
    cases y with
    | non => cases ry; exact PySem.EqNone.ne_str_none (fin_bl I q (by simp))
    | bl j => cases ry; exact PySem.EqMixed.ne_str_bool (fin_bl I q (by simp))
    | int j => obtain ⟨t', rfl⟩ := ry; exact PySem.EqMixed.ne_str_int (fin_bl I q (by simp))
    | str j => obtain ⟨t', rfl⟩ := ry; exact ne_str (fin_bl I q (congrArg not dec_str))
    | _ => exact absurd (show false = true from hs) Bool.false_ne_true
  | byt i =>
    obtain ⟨t, rfl⟩ := rx
    cases y with
    | byt j => obtain ⟨t', rfl⟩ := ry; exact PySem.W.ne_bytes (fin_bl I q (congrArg not dec_byt))
    | _ => exact absurd (show false = true from hs) Bool.false_ne_true
  | _ => cases y <;> exact absurd (show false = true from hs) Bool.false_ne_true
theorem op_lt : OpR X (compareOp .Lt) (rI0 fun i j => .bl (decide (i < j))) := opB0 fun _ _ _ _ _ _ _ q => lt_int q
theorem op_le : OpR X (compareOp .LtE) (rI0 fun i j => .bl (decide (i ≤ j))) := opB0 fun _ _ _ _ _ _ _ q => le_int q
theorem op_gt : OpR X (compareOp .Gt) (rI0 fun i j => .bl (decide (j < i))) := opB0 fun _ _ _ _ _ _ _ q => gt_int q
theorem op_ge : OpR X (compareOp .GtE) (rI0 fun i j => .bl (decide (j ≤ i))) := opB0 fun _ _ _ _ _ _ _ q => ge_int q
theorem OpR.or {f : Value → Value → Sem Value} {r r' : R2} (h : OpR X f r) (h' : OpR X f r') : OpR X f (fun x y H Q => r x y H Q ∨ r' x y H Q) := by
  intro pins s σ H x y v u Q I rx ry q
  rcases q with q | q
  · exact h pins s σ H x y v u Q I rx ry q
  · exact h' pins s σ H x y v u Q I rx ry q
theorem nomark (b : Expr) {op : CmpOp} (h : op ≠ .In := by decide) (h2 : op ≠ .NotIn := by decide) : behindInMarks op b = false := by
  have e1 : (op == CmpOp.In) = false := by cases op <;> first | rfl | exact absurd rfl h
  have e2 : (op == CmpOp.NotIn) = false := by cases op <;> first | rfl | exact absurd rfl h2
  cases b <;> simp [behindInMarks, e1, e2]
theorem pe_cmpR {op : CmpOp} {r : R2} (ho : OpR X (compareOp op) r) (ha : PE X a ta) (hb : PE X b tb) (hm : behindInMarks op b = false) : PE X (.Compare a [op] [b] pos) (tOp r ta tb) := by
  intro pins s σ H Q I h
  exact wpAny_Compare1 (binT ha hb I h fun v u s2 x y H2 I2 rx ry q => ho pins s2 σ H2 x y v u Q I2 rx ry q) hm
def tTest (t : TE) : TT := fun σ H Q => t σ H fun x H' => ∃ k, x = .bl k ∧ Q k H'
theorem pt_cmpR {op : CmpOp} {r : R2} (ho : OpR X (compareOp op) r) (ha : PE X a ta) (hb : PE X b tb) (hm : behindInMarks op b = false) : PT X (.Compare a [op] [b] pos) (tTest (tOp r ta tb)) := by
  intro pins s σ H Q I h
  refine wpAny_isTrue_Compare1 (thn (ha pins s σ H _ I h) fun v s1 ⟨x, H1, I1, r1, q1⟩ => thn (hb pins s1 σ H1 _ I1 q1) fun u s2 ⟨y, H2, I2, r2, q2⟩ =>
    thn (ho pins s2 σ H2 x y v u _ I2 r1 r2 q2) fun c s3 ⟨z, H3, I3, r3, k, e, q3⟩ => ?_) hm
  subst e
  cases r3
  exact wpAny_truthy_bool ⟨H3, I3, q3⟩
theorem line63 : (sizeLine : Nat) < 2 ^ 63 := by rw [sizeLine_eq]; decide
theorem vals1 {x : V} {us : List Value} (r : Vals [x] us) : ∃ u, us = [u] ∧ RelV x u := by
  cases r with
  | cons r1 r2 => cases r2; exact ⟨_, rfl, r1⟩
theorem vals2 {x y : V} {us : List Value} (r : Vals [x, y] us) : ∃ u w', us = [u, w'] ∧ RelV x u ∧ RelV y w' := by
  cases r with
  | cons r1 r2 =>
    cases r2 with
    | cons r3 r4 => cases r4; exact ⟨_, _, rfl, r1, r3⟩
theorem call_int1 : CallR X (.type "int") (fun xs H Q => (∃ i, xs = [.int i] ∧ Q (.int i) H) ∨ ∃ k, xs = [.bl k] ∧ Q (.int (if k then 1 else 0)) H) := by
  intro pins s σ H xs us Q I r h
  rcases h with ⟨i, rfl, q⟩ | ⟨k, rfl, q⟩
  · obtain ⟨u, rfl, t, rfl⟩ := vals1 r
    exact call_int_int ⟨.int i, H, I, ⟨_, rfl⟩, q⟩
  · obtain ⟨u, rfl, r1⟩ := vals1 r
    cases r1
    exact call_int_bool ⟨.int (if k then 1 else 0), H, I.tok _, ⟨_, rfl⟩, q⟩
end
end L2
namespace L2
open PySem PySem.Spec PyProof.Rows
section
variable {prog : Program} {w : World} {A : Around} {E : Value → Shared → Prop} {s : Shared} {K : PySem.W.Frag} {x dx C f : Addr} {mA : Str → Option Value} {name : Str} {v : Value}
end
theorem RelO.some_of {v : V} {o : Option Value} (r : RelO (some v) o) : ∃ u, o = some u ∧ RelV v u := by
  cases o with
  | none => exact (show False from r).elim
  | some u => exact ⟨u, rfl, r⟩
section
variable {P : Program} {w : World} {H H' : Hp} {h h' : Heap} {a C dx : Addr} {fs fs' : List (Str × V)}
end
section
variable {X : Cx} {pins : List (Addr × Obj)} {σ : St} {H : Hp} {s : Shared} {a C dx : Addr} {fs : List (Str × V)} {f : Str} {v : V} {A : Around} {E : Value → Shared → Prop}
end
section
variable {X : Cx} {o e value : Expr} {f : Str} {pos pos' tpos : Pos} {ta tv : TE}
end
section
variable {X : Cx} {pins : List (Addr × Obj)} {σ : St} {H : Hp} {s : Shared} {A : Around} {E : Value → Shared → Prop} {Q : Value → Shared → Prop} {c : Value} {b : Bool}
end
end L2
namespace L2
open PySem PySem.Spec PyProof.Rows
structure Room (k : Nat) (A : Around) : Prop where
  hd : A.handled = none
  dp : A.depth + 3 * k + 5 < recursionLimit
  un : A.units + 16 * k + 200 < cLine
theorem Room.mono {j k : Nat} {A : Around} (r : Room k A) (h : j ≤ k) : Room j A := ⟨r.hd, by have := r.dp; omega, by have := r.un; omega⟩
theorem Room.deeper {k : Nat} {A : Around} (r : Room (k + 1) A) (env : Env) : Room k (A.deeper env) :=
  ⟨r.hd, by have := r.dp; show A.depth + 1 + 3 * k + 5 < _; omega, by have := r.un; show A.units + 3 + 16 * k + 200 < _; omega⟩
theorem Room.depth {k : Nat} {A : Around} (r : Room k A) : A.depth < recursionLimit := by have := r.dp; omega
theorem Room.units {k : Nat} {A : Around} (r : Room k A) : A.units + 64 < cLine := by have := r.un; omega
def tNil : TA := fun _ H Q => Q [] H
def tCons (ta : TE) (tr : TA) : TA := fun σ H Q => ta σ H fun x H1 => tr σ H1 fun xs H2 => Q (x :: xs) H2
section
variable {X : Cx} {e : Expr} {es : List Expr} {te : TE} {t : TA} {pos : Pos}
theorem pa_nil : PA X [] tNil := fun _ _ _ _ H Q I h => Calls.spliced_nil ⟨[], H, I, .nil, h⟩
theorem pa_cons (ha : PE X e te) (hr : PA X es t) (hs : starEach (e :: es) X.env = (false, eval e X.env) :: starEach es X.env := by rfl) : PA X (e :: es) (tCons te t) := by
  intro pos pins s σ H Q I h
  rw [hs]
  show wpAny _ _ (spliced ((false, eval e X.env) :: backTo pos (starEach es X.env))) _ _ s
  refine Calls.spliced_cons (thn (ha pins s σ H _ I h) fun u s1 ⟨x, H1, I1, r1, q1⟩ => ?_)
  exact thn (hr pos pins s1 σ H1 _ I1 q1) fun us s2 ⟨xs, H2, I2, r2, q2⟩ => ⟨x :: xs, H2, I2, .cons r1 r2, q2⟩
def tTup (t : TA) : TE := fun σ H Q => t σ H fun xs H1 => xs.length ≤ sizeLine ∧ ∀ p, H1 p = none → Q (.ref p) (upd H1 p (.tup xs))
def tLst (t : TA) : TE := fun σ H Q => t σ H fun xs H1 => xs.length ≤ sizeLine ∧ ∀ p, H1 p = none → Q (.ref p) (upd H1 p (.lst xs))
theorem pe_tup {x1} (h : PA X es t) : PE X (.Tuple es x1 pos) (tTup t) := by
  intro pins s σ H Q I hq
  refine wpAny_Tuple_spliced (thn (h pos pins s σ H _ I hq) fun us s1 ⟨xs, H1, I1, r, z, q⟩ => ⟨by rw [← r.length]; exact z, ?_⟩)
  have hf : H1 s1.heap.objs.size = none := I1.hok.fresh (Nat.le_refl _)
  refine ⟨.ref s1.heap.objs.size, upd H1 s1.heap.objs.size (.tup xs), I1.laid (t' := s1.toks) (fun b u e => Heap.get?_push_of_some _ e) (Nat.le_refl _) ?_, rfl, q _ hf⟩
  exact ⟨z, us, r, ⟨_, Heap.get?_push_size _ rfl, rfl, _, rfl⟩⟩
theorem pe_lst (h : PA X es t) : PE X (.List es pos) (tLst t) := by
  intro pins s σ H Q I hq
  refine wpAny_List_spliced (thn (h pos pins s σ H _ I hq) fun us s1 ⟨xs, H1, I1, r, z, q⟩ => ⟨by rw [← r.length]; exact z, ?_⟩)
  have hf : H1 s1.heap.objs.size = none := I1.hok.fresh (Nat.le_refl _)
  refine ⟨.ref s1.heap.objs.size, upd H1 s1.heap.objs.size (.lst xs), I1.laid (t' := s1.toks) (fun b u e => Heap.get?_push_of_some _ e) (Nat.le_refl _) ?_, rfl, q _ hf⟩
  exact ⟨z, us, 0, r, Heap.get?_push_size _ rfl⟩
end
abbrev Sp := List V → Hp → VK → XK → Prop
abbrev CXT := List Env → Hp → Shared → XK → Value → Shared → Prop
structure Env0 (P : Program) (w : World) (K : PySem.W.Frag) (mg : Str → Option Value) (base : Heap) (A : Around) (outer : List Env) (s : Shared) (H : Hp) : Prop where
  frames : A.frames = some outer
  mod : Mod K mg base
  bs : ∀ b o, base.get? b = some o → s.heap.get? b = some o ∧ H b = none
  bsz : base.objs.size ≤ s.heap.objs.size
  funs : s.heap.FunFrames base outer
  frf : ∀ b ∈ frs outer, H b = none
  hok : HOk P w H s.heap
  bare : AllBare s.gens
def CE (outer : List Env) (P : Program) (w : World) (H : Hp) (s : Shared) (Q : VK) (u : Value) (s' : Shared) : Prop :=
  ∃ v H', s'.os = s.os ∧ AllBare s'.gens ∧ Un (frs outer) [] H H' s.heap s'.heap ∧ HOk P w H' s'.heap ∧ RelV v u ∧ Q v H'
def CR (CX : CXT) (outer : List Env) (P : Program) (w : World) (H : Hp) (s : Shared) (Q : VK) (E : XK) (r : Result) (s' : Shared) : Prop :=
  match r with
  | .ok (.ret u) => CE outer P w H s Q u s'
  | .ok _ => False
  | .error e => CX outer H s E e s'
structure FnOk (P : Program) (w : World) (K : PySem.W.Frag) (mg : Str → Option Value) (base : Heap) (CX : CXT) (k : Nat) (f : Addr) (fd : FuncData) (ps : List Str) (sp : Sp) : Prop where
  len : ∀ vs H Q E, sp vs H Q E → vs.length = ps.length
  run : ∀ (A : Around) (outer : List Env) (s : Shared) (H : Hp) (args : Args) (us : List Value) (vs : List V) (Q : VK) (E : XK), Room k A → Env0 P w K mg base A outer s H → BindsTo s fd args (ps.zip us) → Vals vs us → sp vs H Q E →
    codeAny (model P w) A (.call (.ref f) args) (CR CX outer P w H s Q E) s
theorem FnOk.mono {P : Program} {w : World} {K : PySem.W.Frag} {mg : Str → Option Value} {base : Heap} {CX : CXT} {j k : Nat} {f : Addr} {fd : FuncData} {ps : List Str} {sp : Sp} (F : FnOk P w K mg base CX j f fd ps sp) (h : j ≤ k) :
    FnOk P w K mg base CX k f fd ps sp := ⟨F.len, fun A outer s H args us vs Q E hr => F.run A outer s H args us vs Q E (hr.mono h)⟩
theorem FnOk.imp {P : Program} {w : World} {K : PySem.W.Frag} {mg : Str → Option Value} {base : Heap} {CX : CXT} {k : Nat} {f : Addr} {fd : FuncData} {ps : List Str} {sp sp' : Sp} (F : FnOk P w K mg base CX k f fd ps sp)
    (h : ∀ vs H Q E, sp' vs H Q E → sp vs H Q E) : FnOk P w K mg base CX k f fd ps sp' :=
  ⟨fun vs H Q E q => F.len vs H Q E (h _ _ _ _ q), fun A outer s H args us vs Q E hr he hb hv hs => F.run A outer s H args us vs Q E hr he hb hv (h _ _ _ _ hs)⟩
section
variable {X : Cx} {pins : List (Addr × Obj)} {σ : St} {H : Hp} {s s' : Shared}
theorem Inv.env0 (I : Inv X pins σ H s) : Env0 X.prog X.w X.K X.mg X.base X.A X.stack s H :=
  ⟨I.ok.frames, I.ok.mod, I.bs, Nat.le_trans I.ok.bsz I.sz, I.stack, I.stkFree, I.hok, I.bare⟩
theorem Inv.after {Q : VK} {u : Value} (I : Inv X pins σ H s) (h : CE X.stack X.prog X.w H s Q u s') : EP X pins σ Q u s' := by
  obtain ⟨v, H', os, bare, un, hok, r, q⟩ := h
  obtain ⟨hh, g, d, t, os'⟩ := s'
  obtain rfl : os' = s.os := os
  exact ⟨v, H', I.call (h' := hh) (g' := g) (d' := d) (t' := t) (ch := []) un hok bare (fun b z => absurd z (by simp)), r, q⟩
end
def tCall (sp : Sp) (dvs : List V) (E : XK) (t : TA) : TE := fun σ H Q => t σ H fun vs H1 => sp (vs ++ dvs) H1 Q E
def Binds (K : PySem.W.Frag) (fd : FuncData) (ps : List Str) (ds : List Value) : Prop :=
  ∀ (s : Shared) (us : List Value), K.In s.heap → (us ++ ds).length = ps.length → BindsTo s fd ⟨us, []⟩ (ps.zip (us ++ ds))
theorem Binds.all {K : PySem.W.Frag} {fd : FuncData} {ps : List Str} (h : ∀ us : List Value, us.length = ps.length → bindArgs fd ⟨us, []⟩ = pure (ps.zip us)) : Binds K fd ps [] := fun s us _ hl => by
  rw [List.append_nil] at hl ⊢
  exact .of_eq (h us hl)
def Passes (CX : CXT) (X : Cx) (E : XK) : Prop := ∀ (pins : List (Addr × Obj)) (σ : St) (H : Hp) (s : Shared) (e : Value) (s' : Shared), Inv X pins σ H s → CX X.stack H s E e s' → X.xe e s'
section
variable {X : Cx} {CX : CXT} {k : Nat} {f C : Addr} {fd : FuncData} {ps : List Str} {sp : Sp} {dvs : List V} {ds : List Value} {E : XK} {x m : Str} {p pos apos : Pos} {e o : Expr} {es : List Expr} {ta : TE} {t : TA}
theorem run_fn {pins : List (Addr × Obj)} {σ : St} {H : Hp} {s : Shared} {Q : VK} {us : List Value} {vs : List V} (F : FnOk X.prog X.w X.K X.mg X.base CX k f fd ps sp) (hr : Room k X.A) (hb : Binds X.K fd ps ds) (hd : Vals dvs ds) (hx : Passes CX X E)
    (I : Inv X pins σ H s) (r : Vals vs us) (h : sp (vs ++ dvs) H Q E) : wpAny (model X.prog X.w) X.A (call (.ref f) us) (EP X pins σ Q) X.xe s := by
  have r2 : Vals (vs ++ dvs) (us ++ ds) := r.append hd
  have hl : (us ++ ds).length = ps.length := by rw [← r2.length]; exact F.len _ _ _ _ h
  refine wpAny_call (codeAny_mono (F.run X.A X.stack s H ⟨us, []⟩ (us ++ ds) (vs ++ dvs) Q E hr I.env0 (hb s us I.kIn hl) r2 h) fun r s' hq => ?_)
  cases r with
  | error e => exact hx pins σ H s e s' I hq
  | ok fl =>
    cases fl with
    | ret u => exact I.after hq
    | next => exact False.elim hq
    | brk => exact False.elim hq
    | cont => exact False.elim hq
theorem pe_call (F : FnOk X.prog X.w X.K X.mg X.base CX k f fd ps sp) (hr : Room k X.A) (hg : Gl X x) (hm : X.mg x = some (.ref f)) (hk : PySem.W.keepIn X.K (.ref f) = true) (hb : Binds X.K fd ps ds) (hd : Vals dvs ds) (hx : Passes CX X E)
    (ha : PA X (e :: es) t) (hdb : (x == ("__debug__" : Str)) = false := by decide) (he : starEach (e :: es) X.env = (false, eval e X.env) :: starEach es X.env := by rfl) (hpl : (backTo pos (starEach es X.env)).any (·.1) = false := by rfl) :
    PE X (.Call (.Name x p) (e :: es) [] pos) (tCall sp dvs E t) := by
  intro pins s σ H Q I h
  refine wpAny_Call_Name_kw (ld_glob I hg hm ?_ hdb)
  refine PySem.W.callWith_K (h₀ := X.base) I.ok.mod.kin hk (thn (ha pos pins s σ H _ I h) fun us s1 ⟨vs, H1, I1, r, q⟩ => ⟨I1.kIn, ?_⟩) he hpl
  exact run_fn F hr hb hd hx I1 r q
end
section
variable {X : Cx} {CX : CXT} {k : Nat} {f C : Addr} {fd : FuncData} {ps ks : List Str} {sp : Sp} {E : XK} {x m : Str} {p pos apos kpos : Pos} {e o : Expr} {es : List Expr} {kws : List Keyword} {te ta : TE} {t tk : TA} {nm : Option Str}
variable {g : List Value → List Value → List Value} {gV : List V → List V → List V}
end
structure FnScope (N P : List Str) (sc : Scope) : Prop where
  kind : sc.kind = .function
  co : sc.isCoroutine = false
  gen : sc.isGenerator = false
  nd : N.Nodup
  pre : N.take P.length = P
  par : ∀ x ∈ P, sc.names.lookup x = some .local ∨ sc.names.lookup x = some .cell
  nofree : ∀ y ∈ sc.names, y.2 ≠ .free
theorem bindL_out {kindOf : Str → Option NameKind} {x : Str} : ∀ {binds : List (Str × Value)} {m : Str → Option Value}, (∀ v, (x, v) ∉ binds) → bindL kindOf binds m x = m x
  | [], _, _ => rfl
  | (n, v) :: r, m, h => by
    unfold bindL
    rw [bindL_out fun w hw => h w (List.mem_cons_of_mem _ hw)]
    split
    · have : x ≠ n := by rintro rfl; exact h v List.mem_cons_self
      simp [this]
    · rfl
theorem bindC_out {kindOf : Str → Option NameKind} {x : Str} : ∀ {binds : List (Str × Value)} {m : Str → Option Value}, (∀ v, (x, v) ∉ binds) → bindC kindOf binds m x = m x
  | [], _, _ => rfl
  | (n, v) :: r, m, h => by
    unfold bindC
    rw [bindC_out fun w hw => h w (List.mem_cons_of_mem _ hw)]
    split
    · rfl
    · have : x ≠ n := by rintro rfl; exact h v List.mem_cons_self
      simp [this]
theorem bindL_get {kindOf : Str → Option NameKind} {x : Str} {v : Value} : ∀ {P : List Str} {vs : List Value} {i : Nat} {m : Str → Option Value}, P.Nodup → P[i]? = some x → vs[i]? = some v → kindOf x = some .local →
    bindL kindOf (P.zip vs) m x = some v
  | [], _, _, _, _, h, _, _ => by simp at h
  | _ :: _, [], _, _, _, _, h, _ => by simp at h
  | p :: P, w :: vs, 0, m, nd, h1, h2, hk => by
    simp at h1 h2; subst h1; subst h2
    show bindL kindOf ((p, w) :: P.zip vs) m p = _
    unfold bindL
    rw [bindL_out fun v hv => (List.nodup_cons.mp nd).1 (List.of_mem_zip hv).1, if_pos hk]
    simp
  | p :: P, w :: vs, i + 1, m, nd, h1, h2, hk => by
    show bindL kindOf ((p, w) :: P.zip vs) m x = _
    unfold bindL
    exact bindL_get (i := i) (List.nodup_cons.mp nd).2 (by simpa using h1) (by simpa using h2) hk
theorem bindC_get {kindOf : Str → Option NameKind} {x : Str} {v : Value} : ∀ {P : List Str} {vs : List Value} {i : Nat} {m : Str → Option Value}, P.Nodup → P[i]? = some x → vs[i]? = some v → kindOf x ≠ some .local →
    bindC kindOf (P.zip vs) m x = some v
  | [], _, _, _, _, h, _, _ => by simp at h
  | _ :: _, [], _, _, _, _, h, _ => by simp at h
  | p :: P, w :: vs, 0, m, nd, h1, h2, hk => by
    simp at h1 h2; subst h1; subst h2
    show bindC kindOf ((p, w) :: P.zip vs) m p = _
    unfold bindC
    rw [bindC_out fun v hv => (List.nodup_cons.mp nd).1 (List.of_mem_zip hv).1, if_neg hk]
    simp
  | p :: P, w :: vs, i + 1, m, nd, h1, h2, hk => by
    show bindC kindOf ((p, w) :: P.zip vs) m x = _
    unfold bindC
    exact bindC_get (i := i) (List.nodup_cons.mp nd).2 (by simpa using h1) (by simpa using h2) hk
def start (N : List Str) (vs : List V) : St := vs.map some ++ List.replicate (N.length - vs.length) none
def cxOf (CX : CXT) (P : Program) (w : World) (K : PySem.W.Frag) (mg : Str → Option Value) (base : Heap) (N : List Str) (qual : Str) (scope : Scope) (f : Addr) (cd : Value) (A : Around) (outer : List Env) (s : Shared) (H : Hp) (E : XK) : Cx where
  prog := P
  w := w
  K := K
  mg := mg
  base := base
  A := A.deeper (envOfC qual scope s.heap.objs.size f cd)
  N := N
  s₀ := s
  H₀ := H
  env := envOfC qual scope s.heap.objs.size f cd
  outer := outer
  stack := envOfC qual scope s.heap.objs.size f cd :: outer
  ex := []
  calm := true
  fn := fun _ => true
  pn := []
  xe := fun e s' => wpAny (model P w) (A.deeper (envOfC qual scope s.heap.objs.size f cd)) (leaving (envOfC qual scope s.heap.objs.size f cd) e) (fun _ s'' => CX outer H s E e s'') (fun e' s'' => CX outer H s E e' s'') s'
theorem cell_has {sc : Scope} {n : Nat} {x : Str} (h : sc.names.lookup x = some .cell) : ∃ c, (cellsFrom n sc.names []).lookup x = some c := by
  have q := PySem.W.cellsFrom_some sc.names n [] (.inl h)
  exact Option.isSome_iff_exists.mp q
theorem inv_start {CX : CXT} {P : Program} {w : World} {K : PySem.W.Frag} {mg : Str → Option Value} {base : Heap} {N ps : List Str} {qual : Str} {scope : Scope} {f : Addr} {cd : Value} {A : Around} {outer : List Env} {s s1 : Shared} {H : Hp} {E : XK} {us : List Value} {vs : List V}
    (S : FnScope N ps scope) (hd : A.handled = none) (e0 : Env0 P w K mg base A outer s H) (hl : vs.length = ps.length) (r : Vals vs us)
    (x : InCallC s s.heap.objs.size (bindL (envOfC qual scope s.heap.objs.size f cd).kindOf (ps.zip us) fun _ => none) (cellsFrom (s.heap.objs.size + 1) scope.names []) (bindC (envOfC qual scope s.heap.objs.size f cd).kindOf (ps.zip us) fun _ => none) s1) :
    Inv (cxOf CX P w K mg base N qual scope f cd A outer s H E) [] (start N vs) H s1 := by
  have hpl : ps.length ≤ N.length := by have := congrArg List.length S.pre; rw [List.length_take] at this; omega
  obtain ⟨h1, tk, rfl, hk⟩ := x.done
  have noA : ∀ b : Addr, b ∉ (cxOf CX P w K mg base N qual scope f cd A outer s H E).ex := fun b z => absurd (show b ∈ ([] : List Addr) from z) (by simp)
  refine ⟨⟨e0.mod, S.kind, rfl, rfl, Nat.le_refl _, fun y z c h1 h2 => ?_, fun y hy => ?_, fun y c _ h => ?_, fun _ => hd, Around.frames_deeper e0.frames, .inr ⟨rfl, rfl⟩, fun b z => absurd z (noA b), e0.bs, e0.bsz, fun b _ _ => noA b, fun b z => absurd z (noA b), e0.funs, e0.frf⟩,
    rfl, e0.bare, Un.kept hk, ⟨_, x.toInCall.ns, fun i y v h1 h2 h3 => ?_⟩, fun y c h => ⟨_, x.cell y c h⟩, e0.hok.fresh (Nat.le_refl _), fun y c h => ?_, fun p hp => absurd (show p ∈ ([] : List (Addr × Obj)) from hp) (by simp), e0.hok.kept hk, ?_⟩
  · exact name_of_addr x.apart (PySem.mem_of_lookup h1) (PySem.mem_of_lookup h2)
  · have hy : scope.names.lookup y = some .cell ∨ scope.names.lookup y = some .free := hy
    rcases hy with hy | hy
    · exact cell_has hy
    · exact absurd rfl (S.nofree _ (PySem.mem_of_lookup hy))
  · exact Nat.le_of_lt (x.above y c (PySem.mem_of_lookup h))
  · have hi : i < vs.length := by
      unfold start at h2
      by_cases hi : i < vs.length
      · exact hi
      · rw [List.getElem?_append_right (by simpa using hi)] at h2
        rw [List.getElem?_replicate] at h2
        split at h2 <;> cases h2
    have ha : vs[i]? = some v := by
      unfold start at h2
      rw [List.getElem?_append_left (by simpa using hi), List.getElem?_map] at h2
      cases e : vs[i]? with
      | none => rw [e] at h2; cases h2
      | some a => rw [e] at h2; cases h2; rfl
    obtain ⟨u, hu, rv⟩ := r.get ha
    have hp : ps[i]? = some y := by
      rw [← S.pre, List.getElem?_take_of_lt (by omega)]; exact h1
    have ndP : ps.Nodup := by rw [← S.pre]; exact S.nd.sublist (List.take_sublist _ _)
    refine ⟨u, rv, ?_⟩
    rcases S.par y (List.mem_of_getElem? hp) with k | k
    · exact .inl ⟨k, bindL_get ndP hp hu k⟩
    · obtain ⟨c, e⟩ := cell_has (n := s.heap.objs.size + 1) k
      refine .inr ⟨.inl k, c, e, ?_⟩
      have q := x.cell y c e
      rw [bindC_get ndP hp hu (by show scope.names.lookup y ≠ _; rw [k]; decide)] at q
      exact q
  · exact e0.hok.fresh (Nat.le_of_lt (x.above y c (PySem.mem_of_lookup h)))
  · unfold start
    show _ = N.length
    rw [List.length_append, List.length_map, List.length_replicate]
    omega
theorem fn_of {CX : CXT} {P : Program} {w : World} {K : PySem.W.Frag} {mg : Str → Option Value} {base : Heap} {k : Nat} {f : Addr} {name qual : Str} {params : Arguments} {body : List Stmt} {scope : Scope} {dV kV doc pm cdv ct oc : Value} {an od : Option Addr}
    {osl : Array (Option Value)} {N ps : List Str} {sp : Sp} (lk : K.lookup f = some ⟨oc, od, .func (PySem.W.fnOf name qual params body scope dV kV doc pm an cdv ct), osl⟩) (hcd : PySem.W.codeIn K cdv qual = true) (S : FnScope N ps scope)
    (len : ∀ vs H Q E, sp vs H Q E → vs.length = ps.length)
    (hbody : ∀ (A : Around) (outer : List Env) (s : Shared) (H : Hp) (vs : List V) (Q : VK) (E : XK), Room k (A.deeper (envOfC qual scope s.heap.objs.size f cdv)) → sp vs H Q E →
      ∃ t, PSs (cxOf CX P w K mg base N qual scope f cdv A outer s H E) body t ∧ t { nx := fun _ H' => Q .non H', rt := Q } (start N vs) H) :
    FnOk P w K mg base CX (k + 1) f (PySem.W.fnOf name qual params body scope dV kV doc pm an cdv ct) ps sp := by
  refine ⟨len, fun A outer s H args us vs Q E hr e0 hb r hsp => ?_⟩
  have hl := len _ _ _ _ hsp
  have KX : K.In s.heap := e0.mod.kin.keeps fun b o e => (e0.bs b o e).1
  have lim : s.heap.NoLimit := e0.mod.nolimit.keeps fun b o e => (e0.bs b o e).1
  have hkind : ∀ y ∈ ps.zip us, scope.names.lookup y.1 = some .local ∨ (scope.names.lookup y.1 = some .cell ∧ ((cellsFrom (s.heap.objs.size + 1) scope.names []).lookup y.1).isSome = true) := fun ⟨n, v⟩ hy => by
    rcases S.par n (List.of_mem_zip hy).1 with q | q
    · exact .inl q
    · exact .inr ⟨q, PySem.W.cellsFrom_some _ _ _ (.inl q)⟩
  refine codeAny_call_function hr.depth (KX _ _ lk) rfl S.co S.gen rfl (PySem.W.codeRec_of KX hcd) (hb _ _ _ _ ?_)
  refine wpAny_newFunctionEnv_cells S.kind hkind fun env he s1 x => ?_
  subst he
  refine ⟨lim.keeps x.toInCall.keep, codeAny_func ?_⟩
  obtain ⟨t, ht, hq⟩ := hbody A outer s H vs Q E (hr.deeper _) hsp
  have I : Inv (cxOf CX P w K mg base N qual scope f cdv A outer s H E) [] (start N vs) H s1 := inv_start S hr.hd e0 hl r x
  refine wpAny_mono (ht [] s1 (start N vs) H _ I hq) (fun fl s' hs => ?_) fun e s' hs => hs
  have fin : ∀ {σ' : St} {H' : Hp} {v : V} {u : Value}, Inv (cxOf CX P w K mg base N qual scope f cdv A outer s H E) [] σ' H' s' → RelV v u → Q v H' → CE outer P w H s Q u s' :=
    fun {σ' H' v u} J rv q => ⟨v, H', J.os, J.bare, J.base, J.hok, rv, q⟩
  cases fl with
  | ret u =>
    obtain ⟨v, σ', H', J, rv, q⟩ := hs
    exact fin J rv q
  | next =>
    obtain ⟨σ', H', J, q⟩ := hs
    exact fin (v := V.non) (u := Value.none) J rfl q
  | brk =>
    obtain ⟨_, _, _, q⟩ := hs
    exact False.elim q
  | cont =>
    obtain ⟨_, _, _, q⟩ := hs
    exact False.elim q
end L2
namespace L2
open PySem PySem.Spec PyProof.Rows
section
variable {X : Cx} {x : Str} {p pos : Pos} {e : Expr} {es : List Expr} {t : TA} {id T : String} {r : List V → Hp → VK → Prop}
def tCB (r : List V → Hp → VK → Prop) (t : TA) : TE := fun σ H Q => t σ H fun vs H1 => r vs H1 Q
theorem pe_callB (hc : CallR X (.builtin id) r) (hg : Gl X x) (hm : X.mg x = none) (hv : bootBuiltins x = some (.builtin id)) (ha : PA X (e :: es) t) (hn : x ≠ "__name__" := by decide) (hdb : (x == ("__debug__" : Str)) = false := by decide)
    (he : starEach (e :: es) X.env = (false, eval e X.env) :: starEach es X.env := by rfl) (hpl : (backTo pos (starEach es X.env)).any (·.1) = false := by rfl) : PE X (.Call (.Name x p) (e :: es) [] pos) (tCB r t) := by
  intro pins s σ H Q I h
  refine wpAny_Call_Name_kw (ld_blt I hg hm hv ?_ hn hdb)
  exact PyProof.Rows.callWith_builtin1 (thn (ha pos pins s σ H _ I h) fun us s1 ⟨vs, H1, I1, r1, q1⟩ => hc pins s1 σ H1 vs us Q I1 r1 q1) he hpl
theorem pe_callTy (hc : CallR X (.type T) r) (hg : Gl X x) (hm : X.mg x = none) (hv : bootBuiltins x = some (.type T)) (ha : PA X (e :: es) t) (hn : x ≠ "__name__" := by decide) (hdb : (x == ("__debug__" : Str)) = false := by decide)
    (he : starEach (e :: es) X.env = (false, eval e X.env) :: starEach es X.env := by rfl) (hpl : (backTo pos (starEach es X.env)).any (·.1) = false := by rfl) : PE X (.Call (.Name x p) (e :: es) [] pos) (tCB r t) := by
  intro pins s σ H Q I h
  refine wpAny_Call_Name_kw (ld_blt I hg hm hv ?_ hn hdb)
  exact PyProof.Rows.callWith_type1 (thn (ha pos pins s σ H _ I h) fun us s1 ⟨vs, H1, I1, r1, q1⟩ => hc pins s1 σ H1 vs us Q I1 r1 q1) he hpl
end
end L2
namespace HT
open PySem PyProof.Rows
section
open PySem.SeqAt
open PySem.AutoSeq1 (wpAny_loadPart')
open PySem.MeetsSeq PySem.MeetsSeq2 PySem.MeetsSeq3
end
section
variable {prog : Program} {w : World} {A : Around} {E : Value → Shared → Prop} {s : Shared}
def sIx (n d : Nat) : Option Int → Nat
  | none => d
  | some v => if v < 0 then (v + (n : Int)).toNat else min v.toNat n
theorem sIx_none (n d : Nat) : sIx n d none = d := rfl
theorem sIx_nat (n d k : Nat) : sIx n d (some (k : Int)) = min k n := by
  show (if (k : Int) < 0 then ((k : Int) + (n : Int)).toNat else min (k : Int).toNat n) = min k n
  rw [if_neg (by omega), Int.toNat_natCast]
end
end HT
namespace L2
open PySem PySem.Spec PyProof.Rows
abbrev TO := St → Hp → (Option Int → Hp → Prop) → Prop
def PO (X : Cx) (e : Option Expr) (t : TO) : Prop :=
  ∀ (pins : List (Addr × Obj)) (s : Shared) (σ : St) (H : Hp) (Q : Option Int → Hp → Prop), Inv X pins σ H s → t σ H Q →
    wpAny (model X.prog X.w) X.A (evalPart e X.env) (fun u s' => ∃ o H', Inv X pins σ H' s' ∧ IsPart u o ∧ Q o H') X.xe s
def tNoPart : TO := fun _ H Q => Q none H
def tPart (t : TE) : TO := fun σ H Q => t σ H fun x H1 => ∃ i, x = .int i ∧ Q (some i) H1
section
variable {X : Cx} {e : Expr} {te : TE} {lo hi : Option Expr} {tl th : TO} {pos p2 : Pos}
theorem po_none : PO X none tNoPart := by
  intro pins s σ H Q I h
  rw [evalPart_none]
  exact wpAny_pure ⟨none, H, I, .none, h⟩
theorem po_some (h : PE X e te) : PO X (some e) (tPart te) := by
  intro pins s σ H Q I hw
  rw [evalPart_some]
  refine thn (h pins s σ H _ I hw) fun u s1 ⟨x, H1, I1, r1, q1⟩ => ?_
  obtain ⟨i, rfl, q⟩ := q1
  obtain ⟨t, rfl⟩ := r1
  exact ⟨some i, H1, I1, .int i t, q⟩
def SlR (X : Cx) (r : V → Option Int → Option Int → Hp → VK → Prop) : Prop :=
  ∀ (pins : List (Addr × Obj)) (s : Shared) (σ : St) (H : Hp) (x : V) (v vl vu : Value) (lo hi : Option Int) (sl : Addr) (Q : VK), Inv X pins σ H s → RelV x v → s.heap.IsSliceOf sl vl vu .none → IsPart vl lo → IsPart vu hi → r x lo hi H Q →
    ∃ T id, typeLookup (.type T) "__getitem__" = pure (some (.builtin id)) ∧ s.TypeIs v T ∧ wpAny (model X.prog X.w) X.A (getItem v (.ref sl)) (EP X pins σ Q) X.xe s
def tSl (r : V → Option Int → Option Int → Hp → VK → Prop) (te : TE) (tl th : TO) : TE := fun σ H Q => te σ H fun x H1 => tl σ H1 fun l H2 => th σ H2 fun u H3 => r x l u H3 Q
theorem pe_slice {r : V → Option Int → Option Int → Hp → VK → Prop} (hr : SlR X r) (he : PE X e te) (hl : PO X lo tl) (hu : PO X hi th) : PE X (.Subscript e (.Slice lo hi none p2) pos) (tSl r te tl th) := by
  intro pins s σ H Q I h
  refine Subscript_ (thn (he pins s σ H _ I h) fun v s1 ⟨x, H1, I1, r1, q1⟩ => ?_)
  refine wpAny_Slice (thn (hl pins s1 σ H1 _ I1 q1) fun vl s2 ⟨l, H2, I2, pl, q2⟩ => thn (hu pins s2 σ H2 _ I2 q2) fun vu s3 ⟨u, H3, I3, pu, q3⟩ => ?_)
  rw [evalPart_none]
  refine wpAny_pure ?_
  have I4 : Inv X pins σ H3 { s3 with heap := s3.heap.push { cls := .type "slice", data := .fields #[vl, vu, .none] } } := I3.kept (t' := s3.toks) fun b ob q => Heap.get?_push_of_some _ q
  obtain ⟨T, id, hT, ht, hg⟩ := hr pins { s3 with heap := s3.heap.push { cls := .type "slice", data := .fields #[vl, vu, .none] } } σ H3 x v vl vu l u s3.heap.objs.size Q I4 r1 (Heap.IsSliceOf.new ..) pl pu q3
  show wpAny (model X.prog X.w) X.A (subscriptTail e (.Slice lo hi none p2) v (.ref s3.heap.objs.size)) (EP X pins σ Q) X.xe { s3 with heap := s3.heap.push { cls := .type "slice", data := .fields #[vl, vu, .none] } }
  exact tail_any (ops := [.ref s3.heap.objs.size, v]) ht hT hg (by with_unfolding_all rfl)
def cutV (xs : List V) (lo hi : Option Int) : List V := (xs.drop (HT.sIx xs.length 0 lo)).take (HT.sIx xs.length xs.length hi - HT.sIx xs.length 0 lo)
theorem cutV_length (xs : List V) (lo hi : Option Int) : (cutV xs lo hi).length ≤ xs.length := by
  unfold cutV
  rw [List.length_take, List.length_drop]
  omega
end
end L2
namespace L2
open PySem PySem.Spec PyProof.Rows
def ixN (n : Nat) (i : Int) : Option Nat := if 0 ≤ i then (if i < n then some i.toNat else none) else if -(n : Int) ≤ i then some (i + n).toNat else none
def atI {α : Type} (xs : List α) (i : Int) : Option α := (ixN xs.length i).bind fun j => xs[j]?
theorem ixN_seq {n : Nat} {i : Int} {j : Nat} (h : ixN n i = some j) : seqIndex? i n = some j ∧ j < n ∧ -(n : Int) ≤ i ∧ i < n := by
  unfold ixN at h
  by_cases h0 : 0 ≤ i
  · rw [if_pos h0] at h
    by_cases h1 : i < n
    · rw [if_pos h1] at h
      have e : i.toNat = j := Option.some.inj h
      exact ⟨by rw [seqIndex_of h0 h1, e], by omega, by omega, h1⟩
    · rw [if_neg h1] at h; cases h
  · rw [if_neg h0] at h
    by_cases h1 : -(n : Int) ≤ i
    · rw [if_pos h1] at h
      have e : (i + n).toNat = j := Option.some.inj h
      exact ⟨by rw [seqIndex_neg (by omega) h1, e], by omega, h1, by omega⟩
    · rw [if_neg h1] at h; cases h
theorem atI_get {α : Type} {xs : List α} {i : Int} {v : α} (h : atI xs i = some v) : ∃ j, seqIndex? i xs.length = some j ∧ xs[j]? = some v ∧ j < xs.length ∧ -(xs.length : Int) ≤ i ∧ i < xs.length := by
  unfold atI at h
  cases e : ixN xs.length i with
  | none => rw [e] at h; cases h
  | some j =>
    rw [e] at h
    obtain ⟨h1, h2, h3, h4⟩ := ixN_seq e
    exact ⟨j, h1, h, h2, h3, h4⟩
theorem atI_nat {α : Type} {xs : List α} {j : Nat} {v : α} (h : xs[j]? = some v) : atI xs (j : Int) = some v := by
  have hj : j < xs.length := (List.getElem?_eq_some_iff.mp h).1
  have e : ixN xs.length (j : Int) = some j := by
    unfold ixN
    rw [if_pos (by omega), if_pos (by omega)]; simp
  unfold atI; rw [e]; exact h
theorem atI_last {α : Type} (xs : List α) (v : α) : atI (xs ++ [v]) (-1) = some v := by
  have hl : (xs ++ [v]).length = xs.length + 1 := by simp
  have e : ixN (xs ++ [v]).length (-1) = some xs.length := by
    unfold ixN
    rw [hl, if_neg (by decide), if_pos (by omega)]
    congr 1
    omega
  unfold atI
  rw [e]
  show (xs ++ [v])[xs.length]? = some v
  simp
def PlainIx (b : Expr) : Prop := ∀ o i, subscripted b false o i = operate [o, i] (getItem o i)
def IxR (X : Cx) (r : R2) : Prop :=
  ∀ (value slice : Expr) (pins : List (Addr × Obj)) (s : Shared) (σ : St) (H : Hp) (x y : V) (v u : Value) (Q : VK), Inv X pins σ H s → RelV x v → RelV y u → r x y H Q →
    subscripted slice false v u = operate [v, u] (getItem v u) → wpAny (model X.prog X.w) X.A (subscriptTail value slice v u) (EP X pins σ Q) X.xe s
def MtR (X : Cx) (id : String) (r : V → List V → Hp → VK → Prop) : Prop :=
  ∀ (pins : List (Addr × Obj)) (s : Shared) (σ : St) (H : Hp) (x : V) (xs : List V) (v : Value) (us : List Value) (Q : VK), Inv X pins σ H s → RelV x v → Vals xs us → r x xs H Q →
    wpAny (model X.prog X.w) X.A (call (.builtin id) (v :: us)) (EP X pins σ Q) X.xe s
section
variable {X : Cx} {a b : Expr} {ta tb : TE} {pos : Pos}
theorem pe_ix {r : R2} (hr : IxR X r) (ha : PE X a ta) (hb : PE X b tb) (hs : PlainIx b) : PE X (.Subscript a b pos) (tOp r ta tb) := by
  intro pins s σ H Q I h
  exact Subscript_ (binT ha hb I h fun v u s2 x y H2 I2 rx ry q => hr a b pins s2 σ H2 x y v u Q I2 rx ry q (hs _ _))
def rIxL (K : PySem.W.Frag) : R2 := fun x y H Q => ∃ p xs i v, x = .ref p ∧ y = .int i ∧ SqL K H p xs ∧ atI xs i = some v ∧ Q v H
def rIxT (K : PySem.W.Frag) : R2 := fun x y H Q => ∃ p xs i v, x = .ref p ∧ y = .int i ∧ SqT K H p xs ∧ atI xs i = some v ∧ Q v H
theorem ix_list : IxR X (rIxL X.K) := by
  intro value slice pins s σ H x y v u Q I rx ry h hs
  obtain ⟨p, xs, i, z, rfl, rfl, hq, he, q⟩ := h
  cases rx
  obtain ⟨t, rfl⟩ := ry
  obtain ⟨its, r, pl, hz⟩ := I.list hq
  obtain ⟨j, h1, h2, h3, h4, h5⟩ := atI_get he
  obtain ⟨w, ew, rw'⟩ := r.get h2
  have hl := r.length
  have hn := line63
  have fin : EP X pins σ Q w s := ⟨z, H, I, rw', q⟩
  by_cases h0 : 0 ≤ i
  · have hj : i.toNat = j := by
      rw [seqIndex_of h0 h5] at h1
      exact Option.some.inj h1
    exact item_listR pl.isList h0 (by omega) (by rw [hj]; simpa using ew) fin hs
  · have hj : (i + (its.toArray.size : Int)).toNat = j := by
      rw [seqIndex_neg (by omega) h4] at h1
      rw [List.size_toArray, ← hl]
      exact Option.some.inj h1
    exact subscriptTail_builtinR (x := w) pl.isList.typeIs slot_list_getitem.lookup
      (wpAny_getItem_list_neg (Q := fun r s' => r = w ∧ EP X pins σ Q r s') pl.isList (by omega) (by rw [List.size_toArray] <;> omega) (by omega) (by rw [hj]; simpa using ew) ⟨rfl, fin⟩) hs
theorem ix_tup : IxR X (rIxT X.K) := by
  intro value slice pins s σ H x y v u Q I rx ry h hs
  obtain ⟨p, xs, i, z, rfl, rfl, hq, he, q⟩ := h
  cases rx
  obtain ⟨t, rfl⟩ := ry
  obtain ⟨its, r, pl, hz⟩ := I.tuple hq
  obtain ⟨j, h1, h2, h3, h4, h5⟩ := atI_get he
  obtain ⟨w, ew, rw'⟩ := r.get h2
  have hl := r.length
  have hn := line63
  have fin : EP X pins σ Q w s := ⟨z, H, I, rw', q⟩
  exact subscriptTail_builtinR (x := w) pl.typeIs slot_tuple_getitem.lookup
    (getItem_tuple (j := j) (Q := fun r s' => r = w ∧ EP X pins σ Q r s') pl (by omega) (by omega) (by rw [List.size_toArray, ← hl]; exact h1) (by simpa using ew) ⟨rfl, fin⟩) hs
theorem mapSeq_set (its : List Value) (n j : Nat) (u : Value) : Obj.mapSeq (·.setIfInBounds j u) { cls := .type "list", data := .seq its.toArray n } = { cls := .type "list", data := .seq (its.set j u).toArray n } := by
  simp [Obj.mapSeq]
theorem Inv.lst {pins : List (Addr × Obj)} {σ : St} {H : Hp} {s : Shared} {p : Addr} {xs : List V} (I : Inv X pins σ H s) (h : H p = some (.lst xs)) :
    ∃ (its : List Value) (n : Nat), Vals xs its ∧ s.heap.get? p = some { cls := .type "list", data := .seq its.toArray n } ∧ xs.length ≤ sizeLine := by
  obtain ⟨z, its, n, r, e⟩ := I.hok p _ h
  exact ⟨its, n, r, e, z⟩
theorem Inv.lstUpd {pins : List (Addr × Obj)} {σ : St} {H : Hp} {s : Shared} {p : Addr} {xs ys : List V} {its its' : List Value} {n n' : Nat} {f : Obj → Obj} (I : Inv X pins σ H s) (h : H p = some (.lst xs))
    (ho : s.heap.get? p = some { cls := .type "list", data := .seq its.toArray n }) (hf : f { cls := .type "list", data := .seq its.toArray n } = { cls := .type "list", data := .seq its'.toArray n' }) (r : Vals ys its') (hz : ys.length ≤ sizeLine) (t : Nat) :
    Inv X pins σ (upd H p (.lst ys)) { s with heap := s.heap.update p f, toks := t } := by
  have e : (s.heap.update p f).get? p = some { cls := .type "list", data := .seq its'.toArray n' } := by
    rw [Heap.get?_update_self f ho (by rw [hf] <;> rfl), hf]
  refine I.write (x := p) (e := p) (by rw [h]; trivial) (.inl rfl) (fun b u hb q => (Heap.get?_update_other _ _ (Ne.symm hb)).trans q) ⟨_, e⟩ ?_
  exact ⟨hz, its', n', r, e⟩
def rSetL : V → V → V → Hp → (Hp → Prop) → Prop := fun o i v H Q => ∃ p xs k j, o = .ref p ∧ i = .int k ∧ H p = some (.lst xs) ∧ ixN xs.length k = some j ∧ Q (upd H p (.lst (xs.set j v)))
theorem set_list : PSet X rSetL := by
  intro pins s σ H o i v ov iv u Q I ro ri rv h
  obtain ⟨p, xs, k, j, rfl, rfl, hp, hj, q⟩ := h
  cases ro
  obtain ⟨t, rfl⟩ := ri
  obtain ⟨its, n, r, ho, hz⟩ := I.lst hp
  obtain ⟨h1, h2, h3, h4⟩ := ixN_seq hj
  have hl := r.length
  have hn := line63
  have I' : Inv X pins σ (upd H p (.lst (xs.set j v))) { s with heap := s.heap.update p (Obj.mapSeq (·.setIfInBounds j u)) } :=
    I.lstUpd hp ho (mapSeq_set its n j u) (r.set rv j) (by rw [List.length_set]; exact hz) s.toks
  by_cases h0 : 0 ≤ k
  · have hk : k.toNat = j := by
      rw [seqIndex_of h0 h4] at h1
      exact Option.some.inj h1
    exact PySem.W.ki_setAt ho h0 (by omega) (by rw [List.size_toArray, ← hl]; exact h4) (by rw [hk]; exact ⟨_, I', q⟩)
  · have hk : (k + (its.toArray.size : Int)).toNat = j := by
      rw [seqIndex_neg (by omega) h3] at h1
      rw [List.size_toArray, ← hl]
      exact Option.some.inj h1
    exact PySem.W.ki_setBack ho (by omega) (by rw [List.size_toArray, ← hl]; exact h3) (by omega) (by rw [hk]; exact ⟨_, I', q⟩)
theorem slice_bounds (lo hi : Option Int) (n : Nat) : (sliceBounds lo hi none n).1 = ((HT.sIx n 0 lo : Nat) : Int) ∧ (sliceBounds lo hi none n).2.1 = ((HT.sIx n n hi : Nat) : Int) ∧ (sliceBounds lo hi none n).2.2 = 1 := by
  refine ⟨?_, ?_, rfl⟩
  · cases lo with
    | none => simp [sliceBounds, HT.sIx]
    | some i =>
      simp only [sliceBounds, HT.sIx, Option.getD_none, show (1 : Int) > 0 by decide, if_true]
      by_cases h : i < 0
      · simp only [h, if_true] <;> omega
      · simp only [h, if_false] <;> omega
  · cases hi with
    | none => simp [sliceBounds, HT.sIx]
    | some i =>
      simp only [sliceBounds, HT.sIx, Option.getD_none, show (1 : Int) > 0 by decide, if_true]
      by_cases h : i < 0
      · simp only [h, if_true] <;> omega
      · simp only [h, if_false] <;> omega
theorem slicePick_cut (its : List Value) (lo hi : Option Int) : slicePick its.toArray lo hi none = ((its.drop (HT.sIx its.length 0 lo)).take (HT.sIx its.length its.length hi - HT.sIx its.length 0 lo)).toArray := by
  obtain ⟨h1, h2, h3⟩ := slice_bounds lo hi its.toArray.size
  unfold slicePick
  rw [h1, h2, h3]
  simp only [sliceRange_one, pick_run, List.size_toArray] <;> rfl
def rSlL (K : PySem.W.Frag) : V → Option Int → Option Int → Hp → VK → Prop := fun x lo hi H Q => ∃ a xs, x = .ref a ∧ SqL K H a xs ∧ ∀ p, H p = none → Q (.ref p) (upd H p (.lst (cutV xs lo hi)))
theorem sl_list : SlR X (rSlL X.K) := by
  intro pins s σ H x v vl vu lo hi sl Q I rx hs pl pu h
  obtain ⟨a, xs, rfl, hx, q⟩ := h
  cases rx
  obtain ⟨its, r, ht, hz⟩ := I.list hx
  have hlen := r.length
  refine ⟨"list", _, slot_list_getitem.lookup, ht.isList.typeIs, ?_⟩
  refine wpAny_getItem_list_slice ht.isList hs pl pu .none (by simp) ?_ (by rw [List.size_toArray] <;> omega)
  rw [slicePick_cut, ← hlen]
  refine ⟨.ref s.heap.objs.size, _, I.laid (t' := s.toks) (o := .lst (cutV xs lo hi)) (fun b ob q => Heap.get?_push_of_some _ q) (Nat.le_refl _) ?_, rfl, q _ (I.hok.fresh (Nat.le_refl _))⟩
  exact ⟨Nat.le_trans (cutV_length xs lo hi) hz, _, 0, (r.drop (HT.sIx xs.length 0 lo)).take (HT.sIx xs.length xs.length hi - HT.sIx xs.length 0 lo), Heap.get?_push_size _ rfl⟩
def flatV : V → Bool
  | .non => true
  | .bl _ => true
  | .int _ => true
  | .str _ => true
  | _ => false
def eqV : V → V → Bool
  | .non, .non => true
  | .bl a, .bl b => a == b
  | .bl a, .int b => (if a then 1 else 0) == b
  | .int a, .bl b => a == (if b then 1 else 0)
  | .int a, .int b => a == b
  | .str a, .str b => a == b
  | _, _ => false
theorem eqAt_V {A : Around} {s : Shared} {y x : V} {u v : Value} (ry : RelV y u) (rx : RelV x v) (fy : flatV y = true) (fx : flatV x = true) : SeqAt.EqAt A s u v (eqV y x) := by
  cases y with
  | non =>
    cases ry
    cases x with
    | non => cases rx; exact SeqAt.EqAt.same _
    | bl b => cases rx; exact SeqAt.EqAt.none_bool b
    | int b => obtain ⟨t, rfl⟩ := rx; exact SeqAt.EqAt.none_int b t
    | str b => obtain ⟨t, rfl⟩ := rx; exact SeqAt.EqAt.none_str b t
    | _ => exact absurd (show false = true from fx) Bool.false_ne_true
  | bl a =>
    cases ry
    cases x with
    | non => cases rx; exact SeqAt.EqAt.bool_none a
    | bl b => cases rx; exact SeqAt.EqAt.bool_bool a b
    | int b => obtain ⟨t, rfl⟩ := rx; exact SeqAt.EqAt.bool_int a b t
    | str b => obtain ⟨t, rfl⟩ := rx; exact SeqAt.EqAt.bool_str a b t
    | _ => exact absurd (show false = true from fx) Bool.false_ne_true
  | int a =>
    obtain ⟨t', rfl⟩ := ry
    cases x with
    | non => cases rx; exact SeqAt.EqAt.int_none a t'
    | bl b => cases rx; exact SeqAt.EqAt.int_bool a t' b
    | int b => obtain ⟨t, rfl⟩ := rx; exact SeqAt.EqAt.int_int a t' b t
    | str b => obtain ⟨t, rfl⟩ := rx; exact SeqAt.EqAt.int_str a t' b t
    | _ => exact absurd (show false = true from fx) Bool.false_ne_true
  | str a =>
    obtain ⟨t', rfl⟩ := ry
    cases x with
    | non => cases rx; exact SeqAt.EqAt.str_none a t'
    | bl b => cases rx; exact SeqAt.EqAt.str_bool a t' b
    | int b => obtain ⟨t, rfl⟩ := rx; exact SeqAt.EqAt.str_int a t' b t
    | str b => obtain ⟨t, rfl⟩ := rx; exact SeqAt.EqAt.str_str a t' b t
    | _ => exact absurd (show false = true from fx) Bool.false_ne_true
  | _ => exact absurd (show false = true from fy) Bool.false_ne_true
def eqU (x : V) (u : Value) : Bool := match u with
  | .none => eqV .non x
  | .bool b => eqV (.bl b) x
  | .int i _ => eqV (.int i) x
  | .str z _ => eqV (.str z) x
  | _ => false
theorem eqU_of {x y : V} {u : Value} (r : RelV y u) (f : flatV y = true) : eqU x u = eqV y x := by
  cases y with
  | non => cases r; rfl
  | bl b => cases r; rfl
  | int i => obtain ⟨t, rfl⟩ := r; rfl
  | str z => obtain ⟨t, rfl⟩ := r; rfl
  | _ => exact absurd (show false = true from f) Bool.false_ne_true
theorem any_eqU {x : V} : ∀ {xs : List V} {us : List Value}, Vals xs us → xs.all flatV = true → us.any (eqU x) = xs.any fun y => eqV y x
  | _, _, .nil, _ => rfl
  | y :: xs, u :: us, .cons r t, f => by
    rw [List.all_cons, Bool.and_eq_true] at f
    rw [List.any_cons, List.any_cons, eqU_of r f.1, any_eqU t f.2]
theorem mem_eqAt {A : Around} {s : Shared} {x : V} {v : Value} (rx : RelV x v) (fx : flatV x = true) : ∀ {xs : List V} {us : List Value}, Vals xs us → xs.all flatV = true → ∀ u ∈ us, SeqAt.EqAt A s u v (eqU x u)
  | _, _, .nil, _ => fun u hu => by cases hu
  | y :: xs, u :: us, .cons r t, f => fun u' hu => by
    rw [List.all_cons, Bool.and_eq_true] at f
    rcases List.mem_cons.mp hu with rfl | hu
    · rw [eqU_of r f.1]; exact eqAt_V r rx f.1 fx
    · exact mem_eqAt rx fx t f.2 u' hu
def inV (x : V) (xs : List V) : Bool := xs.any fun y => eqV y x
def rIn (K : PySem.W.Frag) (neg : Bool) : R2 := fun x y H Q => ∃ p xs, y = .ref p ∧ (SqL K H p xs ∨ SqT K H p xs) ∧ flatV x = true ∧ xs.all flatV = true ∧ Q (.bl (if neg then !inV x xs else inV x xs)) H
theorem op_in_seq : OpR X (compareOp .In) (rIn X.K false) := by
  intro pins s σ H x y v u Q I rx ry h
  obtain ⟨p, xs, rfl, hq, fx, fs, q⟩ := h
  cases ry
  rcases hq with hq | hq
  · obtain ⟨its, r, pl, hz⟩ := I.list hq
    refine SeqAt.in_listAt (eqU x) pl.isList (fun w hw => mem_eqAt rx fx r fs w (by simpa using hw)) ⟨.bl _, H, I, rfl, ?_⟩
    rw [show its.toArray.any (eqU x) = its.any (eqU x) by simp, any_eqU r fs]
    exact q
  · obtain ⟨its, r, pl, hz⟩ := I.tuple hq
    refine SeqAt.in_tupleAt (eqU x) pl (fun w hw => mem_eqAt rx fx r fs w (by simpa using hw)) ⟨.bl _, H, I, rfl, ?_⟩
    rw [show its.toArray.any (eqU x) = its.any (eqU x) by simp, any_eqU r fs]
    exact q
theorem op_notIn_seq : OpR X (compareOp .NotIn) (rIn X.K true) := by
  intro pins s σ H x y v u Q I rx ry h
  obtain ⟨p, xs, rfl, hq, fx, fs, q⟩ := h
  cases ry
  rcases hq with hq | hq
  · obtain ⟨its, r, pl, hz⟩ := I.list hq
    refine SeqAt.notIn_listAt (eqU x) pl.isList (fun w hw => mem_eqAt rx fx r fs w (by simpa using hw)) ⟨.bl _, H, I, rfl, ?_⟩
    rw [show its.toArray.any (eqU x) = its.any (eqU x) by simp, any_eqU r fs]
    exact q
  · obtain ⟨its, r, pl, hz⟩ := I.tuple hq
    refine SeqAt.notIn_tupleAt (eqU x) pl (fun w hw => mem_eqAt rx fx r fs w (by simpa using hw)) ⟨.bl _, H, I, rfl, ?_⟩
    rw [show its.toArray.any (eqU x) = its.any (eqU x) by simp, any_eqU r fs]
    exact q
theorem call_len_seq : CallR X (.builtin "len") (fun xs H Q => ∃ p ys, xs = [.ref p] ∧ (SqL X.K H p ys ∨ SqT X.K H p ys) ∧ Q (.int ys.length) H) := by
  intro pins s σ H xs us Q I r h
  obtain ⟨p, ys, rfl, hq, q⟩ := h
  obtain ⟨u, rfl, rx⟩ := vals1 r
  cases rx
  have hn := line63
  rcases hq with hq | hq
  · obtain ⟨its, r', pl, hz⟩ := I.list hq
    have hlen := r'.length
    exact Calls.call_len_list pl.isList (by simp only [List.size_toArray] <;> omega) ⟨.int ys.length, H, I.tok _, ⟨s.toks + 1, by rw [List.size_toArray, hlen]⟩, q⟩
  · obtain ⟨its, r', pl, hz⟩ := I.tuple hq
    have hlen := r'.length
    exact len_tuple pl (by simp only [List.size_toArray] <;> omega) ⟨.int ys.length, H, I.tok _, ⟨s.toks + 1, by rw [List.size_toArray, hlen]⟩, q⟩
theorem CallR.or {f : Value} {r r' : List V → Hp → VK → Prop} (h : CallR X f r) (h' : CallR X f r') : CallR X f (fun xs H Q => r xs H Q ∨ r' xs H Q) := by
  intro pins s σ H xs us Q I rs q
  rcases q with q | q
  · exact h pins s σ H xs us Q I rs q
  · exact h' pins s σ H xs us Q I rs q
theorem call_list_of : CallR X (.type "list") (fun xs H Q => ∃ p ys, xs = [.ref p] ∧ (SqL X.K H p ys ∨ SqT X.K H p ys) ∧ ∀ l, H l = none → Q (.ref l) (upd H l (.lst ys))) := by
  intro pins s σ H xs us Q I r h
  obtain ⟨p, ys, rfl, hq, q⟩ := h
  obtain ⟨u, rfl, rx⟩ := vals1 r
  cases rx
  have fin : ∀ (its : List Value), Vals ys its → ys.length ≤ sizeLine → ∀ (h' : Heap) (c' : Nat), (∀ b o', s.heap.get? b = some o' → h'.get? b = some o') →
      h'.get? s.heap.objs.size = some { cls := .type "list", dict := none, data := .seq its.toArray c', slots := #[] } → EP X pins σ Q (.ref s.heap.objs.size) { s with heap := h' } := fun its r' hz h' c' kp e =>
    ⟨.ref s.heap.objs.size, _, I.laid (t' := s.toks) kp (Nat.le_refl _) (show ObjOk X.prog X.w _ h' _ (.lst ys) from ⟨hz, its, c', r', e⟩), rfl, q _ (I.hok.fresh (Nat.le_refl _))⟩
  rcases hq with hq | hq
  · obtain ⟨its, r', pl, hz⟩ := I.list hq
    have hlen := r'.length
    obtain ⟨o, ho, hc, n, hd⟩ := pl.isList
    exact call_list_seq p (.inl rfl) ho hc hd (fun h' c' kp e => fin its r' hz h' c' kp e) (by simp only [List.size_toArray] <;> omega)
  · obtain ⟨its, r', pl, hz⟩ := I.tuple hq
    have hlen := r'.length
    obtain ⟨o, ho, hc, n, hd⟩ := pl
    exact call_list_seq p (.inr rfl) ho hc hd (fun h' c' kp e => fin its r' hz h' c' kp e) (by simp only [List.size_toArray] <;> omega)
def tyV (K : PySem.W.Frag) (T : String) (x : V) (H : Hp) : Prop := match x with
  | .str _ => T = "str"
  | .int _ => T = "int"
  | .ref p => (T = "list" ∧ ∃ xs, SqL K H p xs) ∨ (T = "tuple" ∧ ∃ o, K.lookup p = some o ∧ o.cls = .type "tuple" ∧ o.dict = none) ∨
      (T = "dict" ∧ ((∃ kvs, H p = some (.dK kvs)) ∨ ∃ kvs, H p = some (.dT kvs))) ∨ (T = "set" ∧ ∃ S n, H p = some (.set S n))
  | _ => False
theorem tyV_is {pins : List (Addr × Obj)} {σ : St} {H : Hp} {s : Shared} {T : String} {x : V} {v : Value} (I : Inv X pins σ H s) (r : RelV x v) (ty : tyV X.K T x H) :
    s.TypeIs v T ∧ ∀ a, v = .ref a → ∃ ob, s.heap.get? a = some ob ∧ ob.dict = none := by
  cases x with
  | str z =>
    obtain ⟨t, rfl⟩ := r
    cases (show T = "str" from ty)
    exact ⟨typeIs_str s z t, fun _ e => nomatch e⟩
  | int i =>
    obtain ⟨t, rfl⟩ := r
    cases (show T = "int" from ty)
    exact ⟨typeIs_int s i t, fun _ e => nomatch e⟩
  | ref p =>
    cases r
    rcases ty with ⟨rfl, xs, hq⟩ | ⟨rfl, o, hk, hc, hd⟩ | ⟨rfl, hk⟩ | ⟨rfl, S, n, hk⟩
    · obtain ⟨its, _, pl, _⟩ := I.list hq
      refine ⟨pl.isList.typeIs, fun a e => ?_⟩
      cases e
      obtain ⟨o, n, e, c, hd, _⟩ := pl
      exact ⟨o, e, hd⟩
    · refine ⟨⟨o, I.kIn p o hk, hc⟩, fun a e => ?_⟩
      cases e
      exact ⟨o, I.kIn _ o hk, hd⟩
    · have z : ∃ o, s.heap.get? p = some o ∧ o.ExactDict := by
        rcases hk with ⟨kvs, hk⟩ | ⟨kvs, hk⟩
        · obtain ⟨_, _, _, _, o, _, _, e, ex, _⟩ := I.hok p _ hk
          exact ⟨o, e, ex⟩
        · obtain ⟨_, _, _, _, o, _, _, e, ex, _⟩ := I.hok p _ hk
          exact ⟨o, e, ex⟩
      obtain ⟨o, e, ex⟩ := z
      refine ⟨⟨o, e, ex.1⟩, fun a e2 => ?_⟩
      cases e2
      exact ⟨o, e, ex.2.1⟩
    · obtain ⟨o, _, _, _, e, ex, _⟩ := I.hok p _ hk
      refine ⟨⟨o, e, ex.1⟩, fun a e2 => ?_⟩
      cases e2
      exact ⟨o, e, ex.2.1⟩
  | _ => exact False.elim ty
def tBM0 (K : PySem.W.Frag) (T : String) (r : V → List V → Hp → VK → Prop) (to : TE) : TE := fun σ H Q => to σ H fun x H1 => tyV K T x H1 ∧ r x [] H1 Q
def tBM (K : PySem.W.Frag) (T : String) (r : V → List V → Hp → VK → Prop) (to : TE) (t : TA) : TE := fun σ H Q => to σ H fun x H1 => tyV K T x H1 ∧ t σ H1 fun xs H2 => r x xs H2 Q
variable {o e : Expr} {es : List Expr} {to : TE} {t : TA} {name : Str} {apos cpos : Pos} {T id : String} {r : V → List V → Hp → VK → Prop}
theorem pe_bm0 (pa : PlainAttrs T) (slot : Slot T name id) (hty : typeOf (.builtin id) = pure (.type "method_descriptor")) (hm : MtR X id r) (ho : PE X o to)
    (hbase : attributeBase o name X.env (eval o X.env) = eval o X.env := by rfl) (hline : (apos.endLine == cpos.line) = true := by rfl) : PE X (.Call (.Attribute o name apos) [] [] cpos) (tBM0 X.K T r to) := by
  intro pins s σ H Q I h
  refine wpAny_Call_method0_late hbase hline (thn (ho pins s σ H _ I h) fun v s1 ⟨x, H1, I1, r1, ty, q1⟩ => ?_)
  obtain ⟨h1, h2⟩ := tyV_is I1 r1 ty
  exact ⟨T, id, pa, slot, hty, h1, h2, Calls.callWith_builtin rfl (PySem.evalArgs_none (hm pins s1 σ H1 x [] v [] Q I1 r1 .nil q1))⟩
theorem pe_bm (pa : PlainAttrs T) (slot : Slot T name id) (hty : typeOf (.builtin id) = pure (.type "method_descriptor")) (hm : MtR X id r) (ho : PE X o to) (ha : PA X (e :: es) t)
    (hbase : attributeBase o name X.env (eval o X.env) = eval o X.env := by rfl)
    (hfew : ((backTo cpos (starEach (e :: es) X.env)).all (fun x => !x.1) && (backToKw cpos (keywordEach [] X.env)).all (fun x => x.1.isSome)
      && decide ((e :: es).length + ([] : List Keyword).length + (if ([] : List Keyword).isEmpty then 0 else 1) < 30)) = true := by rfl)
    (hline : (apos.endLine == cpos.line) = true := by rfl) (hs : starEach (e :: es) X.env = (false, eval e X.env) :: starEach es X.env := by rfl) (hplain : (backTo cpos (starEach es X.env)).any (·.1) = false := by rfl) :
    PE X (.Call (.Attribute o name apos) (e :: es) [] cpos) (tBM X.K T r to t) := by
  intro pins s σ H Q I h
  refine wpAny_Call_method_late hbase hfew hline rfl (thn (ho pins s σ H _ I h) fun v s1 ⟨x, H1, I1, r1, ty, q1⟩ => ?_)
  obtain ⟨h1, h2⟩ := tyV_is I1 r1 ty
  refine ⟨T, id, pa, slot, hty, h1, h2, ?_⟩
  have hA := ha cpos pins s1 σ H1 _ I1 q1
  rw [hs] at hA ⊢
  refine Calls.callWith_builtin (by show (false || (backTo cpos (starEach es X.env)).any (·.1)) = false; rw [hplain] <;> rfl) (Calls.evalArgs_plain ?_)
  exact thn hA fun us s2 ⟨vs, H2, I2, r2, q2⟩ => hm pins s2 σ H2 x vs v us Q I2 r1 r2 q2
/- xs.append(e), list.index on a module's tuple .. are MtR facts of 06m -/
end
end L2
namespace L2
open PySem PySem.Spec PyProof.Rows
def MtM (X : Cx) (id : String) (r : V → List V → Hp → VK → Prop) : Prop :=
  ∀ (pins : List (Addr × Obj)) (s : Shared) (σ : St) (H : Hp) (x : V) (xs : List V) (v : Value) (us : List Value) (Q : VK), Inv X pins σ H s → RelV x v → Vals xs us → r x xs H Q →
    wpAny (model X.prog X.w) X.A (call (.builtin id) (v :: us)) (EP X pins σ Q) X.xe s
theorem Vals.one : ∀ {x : V} {us : List Value}, Vals [x] us → ∃ u, us = [u] ∧ RelV x u
  | _, _, .cons r .nil => ⟨_, rfl, r⟩
theorem Vals.zero : ∀ {us : List Value}, Vals [] us → us = []
  | _, .nil => rfl
theorem Vals.rep {xs : List V} {us : List Value} (h : Vals xs us) : ∀ k : Nat, Vals (List.replicate k xs).flatten (List.replicate k us).flatten
  | 0 => .nil
  | k + 1 => by
    rw [List.replicate_succ, List.replicate_succ, List.flatten_cons, List.flatten_cons]
    exact Vals.append h (Vals.rep h k)
theorem foldl_rep (its : List Value) : ∀ (k : Nat) (acc : List Value),
    List.foldl (fun x1 x2 => x1 ++ x2) acc.toArray (List.replicate k its.toArray) = (acc ++ (List.replicate k its).flatten).toArray
  | 0, acc => by simp
  | k + 1, acc => by
    have e : acc.toArray ++ its.toArray = (acc ++ its).toArray := by simp
    have e2 : (acc ++ its) ++ (List.replicate k its).flatten = acc ++ (List.replicate (k + 1) its).flatten := by
      rw [List.replicate_succ, List.flatten_cons, List.append_assoc]
    rw [← e2, ← foldl_rep its k (acc ++ its), ← e, List.replicate_succ, List.foldl_cons]
section
variable {X : Cx} {pins : List (Addr × Obj)} {σ : St} {H : Hp} {s : Shared} {l b : Addr} {xs ys zs : List V}
theorem Inv.lset {its its' : List Value} {n : Nat} {f : Array Value → Array Value} {t' : Nat} (I : Inv X pins σ H s) (hH : H l = some (.lst xs))
    (e : s.heap.get? l = some { cls := .type "list", data := .seq its.toArray n }) (hf : f its.toArray = its'.toArray) (hv : Vals ys its') (hz : ys.length ≤ sizeLine) :
    Inv X pins σ (upd H l (.lst ys)) { s with heap := s.heap.update l (Obj.mapSeq f), toks := t' } := by
  have q := PySem.IsL.update e f
  rw [hf] at q
  refine I.write (x := l) (e := l) (by rw [hH]; exact trivial) (.inl rfl) (fun b' u hb hu => (Heap.get?_update_other s.heap (Obj.mapSeq f) (Ne.symm hb)).trans hu) ⟨_, q⟩ ?_
  exact ⟨hz, its', _, hv, q⟩
theorem Inv.lnew {its : List Value} {t' : Nat} (I : Inv X pins σ H s) (hv : Vals ys its) (hz : ys.length ≤ sizeLine) :
    Inv X pins σ (upd H s.heap.objs.size (.lst ys)) { s with heap := s.heap.push { cls := .type "list", data := .seq its.toArray }, toks := t' } :=
  I.laid (fun _ _ q => Heap.get?_push_of_some _ q) (Nat.le_refl _) ⟨hz, its, 0, hv, Heap.get?_push_size _ rfl⟩
theorem Inv.fresh (I : Inv X pins σ H s) : H s.heap.objs.size = none := I.hok.fresh (Nat.le_refl _)
theorem Inv.lstM (I : Inv X pins σ H s) (hH : H l = some (.lst xs)) : xs.length ≤ sizeLine ∧ ∃ (its : List Value) (n : Nat), Vals xs its ∧ xs.length = its.length ∧ s.heap.get? l = some { cls := .type "list", data := .seq its.toArray n } := by
  obtain ⟨z, its, n, r, e⟩ := I.hok l _ hH
  exact ⟨z, its, n, r, r.length, e⟩
theorem notLongL {n : Nat} (h : n ≤ sizeLine) : Builtin.List.listTooLong n = false := by
  unfold Builtin.List.listTooLong
  exact decide_eq_false (by omega)
end
section
variable {X : Cx}
def rAppend : V → List V → Hp → VK → Prop := fun x vs H Q => ∃ l xs y, x = .ref l ∧ vs = [y] ∧ H l = some (.lst xs) ∧ xs.length < sizeLine ∧ Q .non (upd H l (.lst (xs ++ [y])))
theorem mt_append : MtM X "list.append" rAppend := by
  intro pins s σ H x vs v us Q I rx rv h
  obtain ⟨l, xs, y, rfl, rfl, hH, hz, q⟩ := h
  cases rx
  obtain ⟨u, rfl, ru⟩ := rv.one
  obtain ⟨z, its, n, r, hl, e⟩ := I.lstM hH
  refine call_meets F.slot_list_append ⟨_, e, rfl⟩ F.entry_list_append (F.args_list_append_2 _ _) (PySem.list_append l its.toArray n u (by rw [List.size_toArray]; omega)) ⟨e, ?_⟩
  refine ⟨.non, _, I.lset (its' := its ++ [u]) hH e (by simp) (r.append (.cons ru .nil)) ?_, rfl, q⟩
  rw [List.length_append, List.length_singleton]
  omega
def rExtend : V → List V → Hp → VK → Prop := fun x vs H Q => ∃ l b xs zs, x = .ref l ∧ vs = [.ref b] ∧ H l = some (.lst xs) ∧ H b = some (.lst zs) ∧ xs.length + zs.length ≤ sizeLine ∧ Q .non (upd H l (.lst (xs ++ zs)))
theorem mt_extend : MtM X "list.extend" rExtend := by
  intro pins s σ H x vs v us Q I rx rv h
  obtain ⟨l, b, xs, zs, rfl, rfl, hH, hB, hz, q⟩ := h
  cases rx
  obtain ⟨u, rfl, ru⟩ := rv.one
  cases ru
  obtain ⟨z, its, n, r, hl, e⟩ := I.lstM hH
  obtain ⟨z2, its2, n2, r2, hl2, e2⟩ := I.lstM hB
  have hsz : its.toArray.size + its2.toArray.size ≤ sizeLine := by rw [List.size_toArray, List.size_toArray]; omega
  have hlong : ¬ (!its.toArray.isEmpty && Builtin.List.listTooLong (its.toArray.size + its2.toArray.size)) = true := by
    rw [notLongL hsz, Bool.and_false]
    exact Bool.false_ne_true
  refine call_meets F.slot_list_extend ⟨_, e, rfl⟩ F.entry_list_extend (F.args_list_extend_2 _ _)
    (AutoSeq1.list_extend_list_list_0 l its.toArray n b its2.toArray n2 hlong (by rw [List.size_toArray]; omega) (by omega)) ⟨e, e2, ?_⟩
  refine ⟨.non, _, I.lset (its' := its ++ its2) hH e (by simp) (r.append r2) ?_, rfl, q⟩
  rw [List.length_append]
  omega
def rCat : R2 := fun x y H Q => ∃ l b xs zs, x = .ref l ∧ y = .ref b ∧ H l = some (.lst xs) ∧ H b = some (.lst zs) ∧ xs.length + zs.length ≤ sizeLine ∧ ∀ p, H p = none → Q (.ref p) (upd H p (.lst (xs ++ zs)))
theorem op_cat : OpR X (binaryOp .Add) rCat := by
  intro pins s σ H x y v u Q I rx ry h
  obtain ⟨l, b, xs, zs, rfl, rfl, hH, hB, hz, q⟩ := h
  cases rx
  cases ry
  obtain ⟨z, its, n, r, hl, e⟩ := I.lstM hH
  obtain ⟨z2, its2, n2, r2, hl2, e2⟩ := I.lstM hB
  refine PySem.P.add_list e e2 ?_ (by rw [List.size_toArray, List.size_toArray]; omega)
  have ea : its.toArray ++ its2.toArray = (its ++ its2).toArray := by simp
  rw [ea]
  exact ⟨.ref _, _, I.lnew (t' := s.toks) (r.append r2) (by rw [List.length_append]; omega), rfl, q _ I.fresh⟩
def rRep : R2 := fun x y H Q => ∃ l k xs, x = .ref l ∧ y = .int k ∧ H l = some (.lst xs) ∧ -(2 ^ 63) ≤ k ∧ k < 2 ^ 63 ∧ xs.length * k.toNat ≤ sizeLine ∧
  ∀ p, H p = none → Q (.ref p) (upd H p (.lst (List.replicate k.toNat xs).flatten))
theorem len_rep {α : Type} (xs : List α) (k : Nat) : (List.replicate k xs).flatten.length = k * xs.length := by
  induction k with
  | zero => simp
  | succ k ih => rw [List.replicate_succ, List.flatten_cons, List.length_append, ih, Nat.succ_mul, Nat.add_comm]
theorem op_rep : OpR X (binaryOp .Mult) rRep := by
  intro pins s σ H x y v u Q I rx ry h
  obtain ⟨l, k, xs, rfl, rfl, hH, h1, h2, hz, q⟩ := h
  cases rx
  obtain ⟨t, rfl⟩ := ry
  obtain ⟨z, its, n, r, hl, e⟩ := I.lstM hH
  have hlen : its.toArray.size * k.toNat ≤ sizeLine := by rw [List.size_toArray, ← hl]; exact hz
  have hcap : ¬ its.toArray.size * k.toNat > (2 ^ 63 - 1) / 8 := by
    have : (sizeLine : Nat) ≤ (2 ^ 63 - 1) / 8 := by decide
    omega
  have hfit : ¬ (!Builtin.List.listFitsIndex k) = true := by
    rw [fitsIndex_both h1 h2]
    exact Bool.false_ne_true
  have hlong : ¬ Builtin.List.listTooLong (its.toArray.size * k.toNat) = true := by
    rw [notLongL hlen]
    exact Bool.false_ne_true
  have hnew : List.foldl (fun x1 x2 => x1 ++ x2) #[] (List.replicate (if its.toArray.isEmpty = true then 0 else k.toNat) its.toArray) = (List.replicate k.toNat its).flatten.toArray := by
    have f0 : ∀ m : Nat, List.foldl (fun x1 x2 => x1 ++ x2) #[] (List.replicate m its.toArray) = (List.replicate m its).flatten.toArray := fun m => by
      have := foldl_rep its m []
      rw [List.nil_append] at this
      exact this
    rw [f0]
    cases its with
    | nil => simp
    | cons a r' => rw [if_neg (by simp)]
  refine wpAny_binaryOp_repeat_ref (T := "list") (U := "int") (by decide) ⟨_, e, rfl⟩ (fun s' => typeIs_int s' k t) noFill_list_mul F.fills_int_mul F.slot_int_rmul repeat_list F.slot_int_index.lookup
    (call_meets F.slot_int_rmul (typeIs_int s k t) F.entry_int_rmul (F.args_int_rmul_2 _ _) (int___rmul___int_list k t l its.toArray n)
      ⟨e, rfl, ⟨_, e, rfl⟩, call_meets F.slot_list_mul ⟨_, e, rfl⟩ F.entry_list_mul (F.args_list_mul_2 _ _) (AutoListH.list___mul___list_int_3 l its.toArray n k t hfit hcap hlong) ⟨e, ?_⟩⟩)
  rw [hnew]
  exact ⟨.ref _, _, I.lnew (t' := s.toks) (r.rep k.toNat) (by rw [len_rep, Nat.mul_comm]; exact hz), rfl, q _ I.fresh⟩
end
section
variable {prog : Program} {w : World} {A : Around} {E : Value → Shared → Prop} {s : Shared}
end
section
variable {X : Cx}
end
end L2
namespace Att
open PySem PySem.W PySem.Calls PyProof.Rows
theorem ints_of_wellAll {P : Params} {h : Heap} : ∀ (ns : List Int) (vs : List Value), WellAll P h vs (ns.map WData.int) → IntsAre vs ns := by
  intro ns
  induction ns with
  | nil =>
    intro vs w
    rw [List.map_nil] at w
    cases w
    exact .nil
  | cons n ns ih =>
    intro vs w
    rw [List.map_cons] at w
    cases w with
    | cons a b =>
      cases a
      exact .cons _ _ (ih _ b)
theorem script_of {l : OpenLaw} {n : Nat} (hn : l.most = some n) {P : Params} {h : Heap} {args : List WData} {vals : List Value}
    (hpre : l.row.toRowW.claim.pre args = true) (hwl : WellAll P h vals args) :
    ∃ a vs ns, vals = [Value.ref a] ∧ args = [WData.list (ns.map WData.int)] ∧ h.get? a = some { cls := .type "list", data := .seq vs.toArray } ∧ IntsAre vs ns ∧ ns.length ≤ n := by
  have hsh : WShape.hasAll [] args [.list .int] = true := (pre_splitW hpre).1
  have hc : l.pre.holds [] { args := args } = true := (pre_splitW hpre).2
  obtain ⟨d, r, rfl, h1, h2⟩ := hasAllW_cons hsh
  obtain rfl := hasAllW_nil h2
  obtain ⟨xs, rfl, h3⟩ := hasW_list h1
  obtain ⟨ns, rfl⟩ := items_int h3
  have hlen : ns.length ≤ n := by
    unfold OpenLaw.pre at hc
    have h4 : (WTm.not (.lt (.lit (.int (n : Int))) (.len (.arg 0)))).holds [] { args := [.list (ns.map .int)] } = true := by
      have h4 := (holds_andW hc).1
      rw [hn] at h4
      exact h4
    have h5 := condW_of h4 (w_not (w_lt w_lit (w_len_list (w_arg rfl))))
    rw [List.length_map] at h5
    refine Nat.le_of_not_lt fun q => ?_
    have q' : (n : Int) < ((ns.length : Nat) : Int) := by omega
    first
      | (rw [decide_eq_true q'] at h5; exact absurd h5 (by decide))
      | (simp at h5; omega)
  cases hwl with
  | cons w1 w2 =>
    cases w2
    cases w1 with
    | list ho hall => exact ⟨_, _, ns, rfl, rfl, ho, ints_of_wellAll ns _ hall, hlen⟩
theorem post_true (l : OpenLaw) (args : List WData) : l.row.toRowW.claim.post args (.bool true) args = true :=
  postW_of (r := l.row.toRowW) (X := (true == true))
    (show WShape.has [] (.bool true) .bool = true by first | rfl | decide | simp [WShape.has, WShape.arms, WShape.armsAll])
    (show (WTm.eq .res (.lit (.bool true))).value [] { args := args, res := some (.bool true), after := args } = some (.bool (true == true)) from w_eq_bool (w_res rfl) w_lit) rfl
theorem attach_call {l : OpenLaw} {n : Nat} {q : Program} {loose : List Str} {XP : (Str → Option Value) → Heap → Prop} {YP : World → Heap → Prop} {d : DefRec}
    (hn : l.most = some n) (hdf : d.params.defaults = [])
    (call : ∀ (w : World) (s₀ s₁ : Shared) (mg mb : Str → Option Value) (fa : Addr) (o : Obj) (pm cd doc : Value) (a : Addr) (vs : List Value) (ns : List Int),
      Ground q loose [] XP w s₀ mg mb s₁.heap → YP w s₁.heap →
      s₁.heap.get? fa = some o → o.data = .func (docDef d.name d.params d.body d.scope pm cd doc) → s₁.heap.CodeRec cd d.name → mg d.name = some (.ref fa) →
      s₁.heap.get? a = some { cls := .type "list", data := .seq vs.toArray } → IntsAre vs ns → ns.length ≤ n → s₁.gens = #[] →
      codeAny (model l.prog w) callerA (.call (.ref fa) ⟨[.ref a], []⟩) (fun r s' => r = .ok (.ret (.bool true)) ∧ OldK s₁.heap s'.heap ∧ s'.os = s₁.os ∧ AllBare s'.gens) s₁) :
    WalkO q loose XP YP l.row.toRowW d [] (fun f vs => PySem.call f vs) := by
  intro w s₀ s₁ mg mb G Y fa o pm cd doc dV kV ho hd hcd hD hmg hg args vals as hpre hlay hrd hwl hlo
  obtain rfl : dV = .none := Dflts.none hD hdf
  obtain rfl : kV = .none := Dflts.noKw hD
  obtain ⟨a, vs, ns, rfl, rfl, hobj, hints, hlen⟩ := script_of hn hpre hwl
  refine enter_call (codeAny_mono (call w s₀ s₁ mg mb fa o pm cd doc a vs ns G Y ho (fd_plain hd) hcd hmg hobj hints hlen hg) fun r s' hq => ?_)
  obtain ⟨rfl, h2, h3, h4⟩ := hq
  exact ⟨.inl ⟨.bool true, .bool true, [], rfl, fun _ => rfl, .bool true, post_true l _, fun _ => ⟨List.Pairwise.nil, fun _ hm => (nomatch hm)⟩⟩, h2, h3, h4⟩
section
variable {prog : Program} {w : World} {A : Around} {E : Value → Shared → Prop} {s : Shared} {K : Frag}
end
end Att
namespace L2
open PySem PySem.Spec PyProof.Rows
theorem vals_ints : ∀ {vs : List Value} {ns : List Int}, IntsAre vs ns → Vals (ns.map V.int) vs
  | _, _, .nil => .nil
  | _, _, .cons n t h => .cons ⟨t, rfl⟩ (vals_ints h)
def Only (H : Hp) : Prop := ∀ b, H b = none ∨ ∃ o xs, H b = some (.frz o (.lst xs))
theorem law_call {P : Program} {w : World} {K : PySem.W.Frag} {mg mb : Str → Option Value} {CX : CXT} {k : Nat} {fa a : Addr} {fd : FuncData} {x : Str} {sp : Sp} {s₁ : Shared} {vs : List Value} {ns : List Int}
    (KX : K.In s₁.heap) (hns : s₁.heap.Ns mainGlobals mg) (hb : s₁.heap.Ns builtinsNs mb) (hbb : ∀ x : Str, x ≠ "__name__" → mb x = bootBuiltins x) (hlim : s₁.heap.NoLimit) (hg : s₁.gens = #[])
    (ha : s₁.heap.get? a = some { cls := .type "list", data := .seq vs.toArray }) (hi : IntsAre vs ns) (hl : ns.length ≤ sizeLine) (hr : Room k callerA)
    (F : ∀ base : Heap, K.In base → base.Ns mainGlobals mg → FnOk P w K mg base CX k fa fd [x] sp) (hbind : ∀ (s : Shared) (u : Value), BindsTo s fd ⟨[u], []⟩ [(x, u)])
    (hsp : ∀ H : Hp, Only H → SqL K H a (ns.map V.int) → sp [.ref a] H (fun v _ => v = .bl true) fun _ _ _ => False)
    (hCX : ∀ H e s', CX [] H s₁ (fun _ _ _ => False) e s' → False) :
    codeAny (model P w) callerA (.call (.ref fa) ⟨[.ref a], []⟩) (fun r s' => r = .ok (.ret (.bool true)) ∧ OldK s₁.heap s'.heap ∧ s'.os = s₁.os ∧ AllBare s'.gens) s₁ := by
  have rv := vals_ints hi
  have lenV := hi.length
  -- from an abstract heap in which nothing but the script may be tracked
  have core : ∀ H : Hp, Only H → SqL K H a (ns.map V.int) → HOk P w H s₁.heap → (∀ b, H b ≠ none → b = a) → (H a ≠ none → K.lookup a = none) →
      codeAny (model P w) callerA (.call (.ref fa) ⟨[.ref a], []⟩) (fun r s' => r = .ok (.ret (.bool true)) ∧ OldK s₁.heap s'.heap ∧ s'.os = s₁.os ∧ AllBare s'.gens) s₁ := by
    intro H hO hS hok hA hK
    have base_of : ∀ {b : Addr} {o : Obj}, s₁.heap.get? b = some o → H b = none → (hidT s₁.heap H).get? b = some o := fun e n => hidT_get e n
    have noA : ∀ {b : Addr} {o : Obj} {es : Array DictEntry} {ep : Nat}, s₁.heap.get? b = some o → o.data = .dict es ep → H b = none := fun {b o es ep} e d => by
      cases q : H b with
      | none => rfl
      | some u =>
        have e' : b = a := hA b (by rw [q]; simp)
        subst e'
        rw [ha] at e; cases e
        have d' : Data.seq vs.toArray _ = Data.dict es ep := d
        cases d'
    have nsK : ∀ {b : Addr} {m : Str → Option Value}, s₁.heap.Ns b m → (hidT s₁.heap H).Ns b m := fun {b m} ⟨o, es, ep, e, d, r⟩ => ⟨o, es, ep, base_of e (noA e d), d, r⟩
    have hKb : K.In (hidT s₁.heap H) := fun b o e => base_of (KX b o e) (by
      cases q : H b with
      | none => rfl
      | some u =>
        have e' : b = a := hA b (by rw [q]; simp)
        subst e'
        rw [hK (by rw [q]; simp)] at e; cases e)
    have hM : Mod K mg (hidT s₁.heap H) := ⟨hKb, nsK hns, ⟨mb, nsK hb, hbb⟩, let ⟨mc, h1, h2⟩ := hlim; ⟨mc, nsK h1, h2⟩⟩
    have e0 : Env0 P w K mg (hidT s₁.heap H) callerA [] s₁ H := ⟨rfl, hM, fun b o e => of_hidT e, Nat.le_of_eq (hidT_size _ _), trivial, fun b hb => absurd (show b ∈ ([] : List Addr) from hb) (by simp), hok, .of_eq hg⟩
    refine codeAny_mono ((F _ hKb (nsK hns)).run callerA [] s₁ H ⟨[.ref a], []⟩ [.ref a] [.ref a] _ _ hr e0 (hbind s₁ (.ref a)) (.cons rfl .nil) (hsp H hO hS)) fun r s' h => ?_
    cases r with
    | error e => exact (hCX H e s' h).elim
    | ok fl =>
      cases fl with
      | next => exact False.elim h
      | brk => exact False.elim h
      | cont => exact False.elim h
      | ret u =>
        obtain ⟨v, H', os, bare, un, hok', r', q⟩ := h
        have q' : v = .bl true := q
        subst q'
        obtain rfl : u = Value.bool true := r'
        refine ⟨rfl, OldK.of_keep fun b o e => ?_, os, bare⟩
        cases q : H b with
        | none => exact un.keep b o e q (by intro z; exact absurd (show b ∈ ([] : List Addr) from z) (by simp)) (by simp)
        | some u =>
          rcases hO b with z | ⟨ob, xs, z⟩
          · rw [q] at z; cases z
          · have z2 := un.frzs b ob _ z
            obtain ⟨e1, _⟩ := hok b _ z
            obtain ⟨e2, _⟩ := hok' b _ z2
            rw [e] at e1; cases e1
            exact e2
  cases hk : K.lookup a with
  | some o =>
    -- the script is one of the module's own objects
    have e := KX a o hk
    rw [ha] at e
    cases e
    refine core (fun _ => none) (fun _ => .inl rfl) (.inr ⟨_, vs.toArray, _, hk, rfl, rfl, rfl, by rw [List.size_toArray, lenV]; exact hl, by simpa using rv⟩) (fun b u z => by have z' : (none : Option HO) = some u := z; cases z') (fun b z => absurd rfl z) fun z => absurd rfl z
  | none =>
    refine core (fun b => if b = a then some (.frz { cls := .type "list", data := .seq vs.toArray } (.lst (ns.map V.int))) else none) (fun b => ?_) (.inl (.inr ⟨{ cls := .type "list", data := .seq vs.toArray }, if_pos rfl⟩)) (fun b u z => ?_) (fun b z => ?_) fun _ => hk
    · by_cases hb : b = a
      · exact .inr ⟨_, _, if_pos hb⟩
      · exact .inl (if_neg hb)
    · by_cases hb : b = a
      · have z' := (if_pos hb).symm.trans z
        cases z'
        subst hb
        exact ⟨ha, by rw [List.length_map]; exact hl, vs, _, rv, ha⟩
      · have z' := (if_neg hb).symm.trans z
        cases z'
    · by_cases hb : b = a
      · exact hb
      · exact absurd (if_neg hb) z
end L2
namespace L2
open PySem PySem.Spec PyProof.Rows
theorem walk_of {l : PySem.W.OpenLaw} {n k : Nat} {q : Program} {loose : List Str} {XP : (Str → Option Value) → Heap → Prop} {YP : World → Heap → Prop} {d : DefRec} {K : Params → PySem.W.Frag} {CX : World → CXT} {sp : World → Sp} {x : Str}
    (hn : l.most = some n) (hn2 : n ≤ sizeLine) (hdf : d.params.defaults = []) (hr : Room k callerA)
    (hY : ∀ (w : World) (h : Heap), YP w h → (K w.params).In h)
    (F : ∀ (w : World) (mg : Str → Option Value) (fa : Addr) (h : Heap), (K w.params).In h → h.Ns mainGlobals mg → mg d.name = some (.ref fa) →
      ∃ fd : FuncData, (∀ (s : Shared) (u : Value), BindsTo s fd ⟨[u], []⟩ [(x, u)]) ∧
        ∀ base : Heap, (K w.params).In base → base.Ns mainGlobals mg → FnOk l.prog w (K w.params) mg base (CX w) k fa fd [x] (sp w))
    (hsp : ∀ (w : World) (H : Hp) (a : Addr) (ns : List Int), ns.length ≤ n → Only H → SqL (K w.params) H a (ns.map V.int) → sp w [.ref a] H (fun v _ => v = .bl true) fun _ _ _ => False)
    (hCX : ∀ (w : World) (H : Hp) (s : Shared) (e : Value) (s' : Shared), CX w [] H s (fun _ _ _ => False) e s' → False) :
    PySem.W.WalkO q loose XP YP l.row.toRowW d [] (fun f vs => PySem.call f vs) := by
  refine Att.attach_call hn hdf fun w s₀ s₁ mg mb fa o pm cd doc a vs ns G Y ho hd hcd hmg hobj hints hlen hg => ?_
  have KX := hY w _ Y
  obtain ⟨fd, hb, hF⟩ := F w mg fa _ KX G.T.g hmg
  exact law_call KX G.T.g G.T.b G.T.builtins G.T.nolimit hg hobj hints (Nat.le_trans hlen hn2) hr hF hb (fun H hO hS => hsp w H a ns hlen hO hS) fun H e s' => hCX w H s₁ e s'
end L2
namespace L2
open PySem PySem.Spec PyProof.Rows
def defArgs (s : Stmt) : Arguments := match s with
  | .FunctionDef _ a _ _ _ _ _ _ _ _ => a
  | _ => { posonlyargs := [], args := [], vararg := none, kwonlyargs := [], kw_defaults := [], kwarg := none, defaults := [] }
def defBody (s : Stmt) : List Stmt := match s with
  | .FunctionDef _ _ b _ _ _ _ _ _ _ => b
  | _ => []
def defScope (s : Stmt) : Scope := match s with
  | .FunctionDef _ _ _ _ _ _ sc _ _ _ => sc
  | _ => { kind := .function, names := [], isGenerator := false, isCoroutine := false }
abbrev CX0 : CXT := fun _ _ _ _ _ _ => False
abbrev E0 : XK := fun _ _ _ => False
theorem pass0 {X : Cx} : Passes CX0 X E0 := fun _ _ _ _ _ _ _ h => h.elim
structure Fun (K : PySem.W.Frag) (x qual : Str) (st : Stmt) (f : Addr) (fd : FuncData) : Prop where
  ex : ∃ (oc : Value) (od : Option Addr) (kV doc pm : Value) (an : Option Addr) (cdv ct : Value) (osl : Array (Option Value)),
    fd = PySem.W.fnOf x qual (defArgs st) (defBody st) (defScope st) .none kV doc pm an cdv ct ∧ K.lookup f = some ⟨oc, od, .func fd, osl⟩ ∧ PySem.W.codeIn K cdv qual = true
  kp : PySem.W.keepIn K (.ref f) = true
section
variable {P : Program} {w : World} {K : PySem.W.Frag} {mg : Str → Option Value} {base : Heap}
theorem Fun.ok {x qual : Str} {st : Stmt} {f : Addr} {fd : FuncData} {N ps : List Str} {k : Nat} {sp : Sp} (F : Fun K x qual st f fd) (S : FnScope N ps (defScope st)) (len : ∀ vs H Q E, sp vs H Q E → vs.length = ps.length)
    (hbody : ∀ (cdv : Value) (A : Around) (outer : List Env) (s : Shared) (H : Hp) (vs : List V) (Q : VK) (E : XK), Room k (A.deeper (envOfC qual (defScope st) s.heap.objs.size f cdv)) → sp vs H Q E →
      ∃ t, PSs (cxOf CX0 P w K mg base N qual (defScope st) f cdv A outer s H E).nox (defBody st) t ∧ t { nx := fun _ H' => Q .non H', rt := Q } (start N vs) H) : FnOk P w K mg base CX0 (k + 1) f fd ps sp := by
  obtain ⟨oc, od, kV, doc, pm, an, cdv, ct, osl, rfl, lk, hcd⟩ := F.ex
  refine fn_of lk hcd S len fun A outer s H vs Q E hr hsp => ?_
  obtain ⟨t, h, q⟩ := hbody cdv A outer s H vs Q E hr hsp
  exact ⟨t, h.nox, q⟩
theorem Fun.binds {x qual : Str} {st : Stmt} {f : Addr} {fd : FuncData} {ps : List Str} (F : Fun K x qual st f fd)
    (h : ∀ (kV doc pm : Value) (an : Option Addr) (cdv ct : Value) (us : List Value), us.length = ps.length → bindArgs (PySem.W.fnOf x qual (defArgs st) (defBody st) (defScope st) .none kV doc pm an cdv ct) ⟨us, []⟩ = pure (ps.zip us)) : Binds K fd ps [] := by
  obtain ⟨oc, od, kV, doc, pm, an, cdv, ct, osl, rfl, lk, hcd⟩ := F.ex
  exact .all (h kV doc pm an cdv ct)
theorem fun_mk {x qual : Str} {st : Stmt} {f : Addr} {oc : Value} {od an : Option Addr} {osl : Array (Option Value)} {kV doc pm cdv ct : Value} (l : K.lookup f = some ⟨oc, od, .func (PySem.W.fnOf x qual (defArgs st) (defBody st) (defScope st) .none kV doc pm an cdv ct), osl⟩)
    (c : PySem.W.codeIn K cdv qual = true) (k : PySem.W.keepIn K (.ref f) = true) : Fun K x qual st f (PySem.W.fnOf x qual (defArgs st) (defBody st) (defScope st) .none kV doc pm an cdv ct) := ⟨⟨oc, od, kV, doc, pm, an, cdv, ct, osl, rfl, l, c⟩, k⟩
end
theorem hu_of {A : Around} {k : Nat} (hr : Room k A) : A.units + 1 < cLine := Nat.lt_of_le_of_lt (Nat.add_le_add_left (by decide : 1 ≤ 64) _) hr.units
theorem small1000 {n : Nat} (h : n ≤ 1000) : n < sizeLine := Nat.lt_of_le_of_lt h (by decide)
section
variable {X : Cx}
theorem pv (i : Nat) {x : Str} {pos : Pos} (hN : X.N[i]? = some x := by rfl) (hv : Vis X.env.scope x := by first | exact Or.inl rfl | exact Or.inr (Or.inl rfl) | exact Or.inr (Or.inr rfl)) (hd : (x == ("__debug__" : Str)) = false := by decide)
    (hcd : (x == ("__classdict__" : Str)) = false := by decide) : PE X (.Name x pos) (tVar i) := pe_var hN hv hd hcd
end
theorem iteF {A B : Prop} (h : B) : if false = true then A else B := by
  rw [if_neg Bool.false_ne_true]
  exact h
theorem iteT {A B : Prop} (h : A) : if true = true then A else B := by
  rw [if_pos rfl]
  exact h
theorem iteNS {c A B : Prop} [Decidable c] (hc : c) (h : B) : if (!decide c) = true then A else B := by
  rw [decide_eq_true hc]
  exact iteF h
def Same (H H' : Hp) : Prop := ∀ b o, H b = some o → H' b = some o
theorem Same.refl (H : Hp) : Same H H := fun _ _ h => h
theorem Same.trans {H H1 H2 : Hp} (a : Same H H1) (b : Same H1 H2) : Same H H2 := fun c o h => b c o (a c o h)
theorem Same.free {H H' : Hp} (e : Same H H') {l : Addr} (h : H' l = Option.none) : H l = Option.none := by
  cases q : H l with
  | none => rfl
  | some o =>
    rw [e l o q] at h
    cases h
theorem Same.seq {K : PySem.W.Frag} {H H' : Hp} {a : Addr} {xs : List V} (e : Same H H') (h : SqL K H a xs) : SqL K H' a xs := by
  rcases h with (h | ⟨o, h⟩) | h
  · exact .inl (.inl (e _ _ h))
  · exact .inl (.inr ⟨o, e _ _ h⟩)
  · exact .inr h
end L2
namespace Ts
def sqrtN : Nat → Nat
  | 0 => 0
  | n + 1 => if (sqrtN n + 1) * (sqrtN n + 1) ≤ n + 1 then sqrtN n + 1 else sqrtN n
theorem sqrtN_spec : ∀ n, sqrtN n * sqrtN n ≤ n ∧ n < (sqrtN n + 1) * (sqrtN n + 1)
  | 0 => by decide
  | n + 1 => by
    obtain ⟨h1, h2⟩ := sqrtN_spec n
    unfold sqrtN
    split
    · rename_i h
      refine ⟨h, ?_⟩
      have e : (sqrtN n + 1 + 1) * (sqrtN n + 1 + 1) = (sqrtN n + 1) * (sqrtN n + 1) + 2 * (sqrtN n + 1) + 1 := by
        rw [Nat.add_mul, Nat.mul_add]; omega
      omega
    · rename_i h
      exact ⟨by omega, by omega⟩
theorem sq_lt {a b : Nat} (h : a * a < b * b) : a < b := by
  rcases Nat.lt_or_ge a b with q | q
  · exact q
  · exact absurd (Nat.mul_le_mul q q) (by omega)
theorem root_unique {n r : Nat} (h1 : r * r ≤ n) (h2 : n < (r + 1) * (r + 1)) : r = sqrtN n := by
  obtain ⟨s1, s2⟩ := sqrtN_spec n
  have a := sq_lt (Nat.lt_of_le_of_lt h1 s2)
  have b := sq_lt (Nat.lt_of_le_of_lt s1 h2)
  omega
theorem le_root {n r : Nat} (h1 : r * r ≤ n) : r ≤ sqrtN n := by
  obtain ⟨_, s2⟩ := sqrtN_spec n
  have a := sq_lt (Nat.lt_of_le_of_lt h1 s2)
  omega
theorem root_le {n r : Nat} (h2 : n < (r + 1) * (r + 1)) : sqrtN n ≤ r := by
  obtain ⟨s1, _⟩ := sqrtN_spec n
  have b := sq_lt (Nat.lt_of_le_of_lt s1 h2)
  omega
theorem mean_ge {n x : Nat} (hx : 0 < x) : sqrtN n ≤ (x + n / x) / 2 := by
  apply root_le
  have hq : n < x * (n / x + 1) := Nat.lt_mul_div_succ n hx
  generalize hqq : n / x + 1 = q at hq
  have hm : x + q ≤ 2 * ((x + n / x) / 2 + 1) := by omega
  generalize (x + n / x) / 2 + 1 = m at hm
  have h4 : 4 * (x * q) ≤ (x + q) * (x + q) := by
    rcases Nat.le_total x q with h | h
    · obtain ⟨d, rfl⟩ := Nat.exists_eq_add_of_le h
      have e : (x + (x + d)) * (x + (x + d)) = 4 * (x * (x + d)) + d * d := by
        simp only [Nat.mul_add, Nat.add_mul, Nat.mul_comm d x]; omega
      omega
    · obtain ⟨d, rfl⟩ := Nat.exists_eq_add_of_le h
      have e : (q + d + q) * (q + d + q) = 4 * ((q + d) * q) + d * d := by
        simp only [Nat.mul_add, Nat.add_mul, Nat.mul_comm d q]; omega
      omega
  have h5 : (x + q) * (x + q) ≤ (2 * m) * (2 * m) := Nat.mul_le_mul hm hm
  have e6 : (2 * m) * (2 * m) = 4 * (m * m) := by
    rw [Nat.mul_assoc, Nat.mul_left_comm m 2 m]; omega
  omega
theorem mean_end {n x : Nat} (hx : 0 < x) (h : sqrtN n ≤ x) (he : x ≤ (x + n / x) / 2) : x = sqrtN n := by
  have h1 : x ≤ n / x := by omega
  have h2 : x * x ≤ n := by
    have := (Nat.le_div_iff_mul_le hx).mp h1
    exact this
  have := le_root h2
  omega
theorem guess_ge (n c : Nat) : sqrtN n ≤ (sqrtN (n / 2 ^ (2 * c)) + 1) * 2 ^ c := by
  obtain ⟨_, s2⟩ := sqrtN_spec (n / 2 ^ (2 * c))
  apply root_le
  have hp : 0 < 2 ^ (2 * c) := Nat.two_pow_pos _
  have h1 := Nat.lt_mul_div_succ n hp
  have h2 : n / 2 ^ (2 * c) + 1 ≤ (sqrtN (n / 2 ^ (2 * c)) + 1) * (sqrtN (n / 2 ^ (2 * c)) + 1) := s2
  generalize sqrtN (n / 2 ^ (2 * c)) + 1 = r at h2 ⊢
  have e : 2 ^ (2 * c) = 2 ^ c * 2 ^ c := by rw [Nat.two_mul, Nat.pow_add]
  have h3 : 2 ^ (2 * c) * (n / 2 ^ (2 * c) + 1) ≤ 2 ^ (2 * c) * (r * r) := Nat.mul_le_mul_left _ h2
  have h4 : 2 ^ (2 * c) * (r * r) = (r * 2 ^ c) * (r * 2 ^ c) := by
    rw [e]; generalize 2 ^ c = z
    rw [Nat.mul_mul_mul_comm, Nat.mul_comm z r]
  have h5 : (r * 2 ^ c) * (r * 2 ^ c) ≤ (r * 2 ^ c + 1) * (r * 2 ^ c + 1) := Nat.mul_le_mul (by omega) (by omega)
  omega
def tri (s : Nat) : Nat := s * (s + 1) / 2
def pairN (a b : Nat) : Nat := tri (a + b) + b
theorem tri_succ (s : Nat) : tri (s + 1) = tri s + s + 1 := by
  unfold tri
  have e : (s + 1) * (s + 1 + 1) = s * (s + 1) + 2 * (s + 1) := by
    rw [Nat.mul_add (s + 1) (s+1) 1, Nat.add_mul s 1 (s+1)]; omega
  rw [e]; omega
theorem two_tri (s : Nat) : 2 * tri s = s * (s + 1) := by
  induction s with
  | zero => rfl
  | succ s ih =>
    rw [tri_succ]
    have e : (s + 1) * (s + 1 + 1) = s * (s + 1) + 2 * (s + 1) := by
      rw [Nat.mul_add (s + 1) (s+1) 1, Nat.add_mul s 1 (s+1)]; omega
    omega
def totN (n : Nat) : Nat := (sqrtN (8 * n + 1) - 1) / 2
theorem tot_spec (n : Nat) : tri (totN n) ≤ n ∧ n < tri (totN n + 1) := by
  obtain ⟨s1, s2⟩ := sqrtN_spec (8 * n + 1)
  have hpos : 1 ≤ sqrtN (8 * n + 1) := le_root (by omega)
  unfold totN
  generalize sqrtN (8 * n + 1) = r at s1 s2 hpos
  have t1 := two_tri ((r - 1) / 2)
  have t2 := two_tri ((r - 1) / 2 + 1)
  have hr : r = 2 * ((r - 1) / 2) + 1 ∨ r = 2 * ((r - 1) / 2) + 2 := by omega
  generalize (r - 1) / 2 = t at t1 t2 hr ⊢
  have e1 : t * (t + 1) = t * t + t := by rw [Nat.mul_add]; omega
  have e2 : (t + 1) * (t + 1 + 1) = t * t + 3 * t + 2 := by rw [Nat.mul_add, Nat.add_mul]; omega
  constructor
  · have : (2 * t + 1) * (2 * t + 1) ≤ r * r := Nat.mul_le_mul (by omega) (by omega)
    have e3 : (2 * t + 1) * (2 * t + 1) = 4 * (t * t) + 4 * t + 1 := by
      simp only [Nat.mul_add, Nat.add_mul, Nat.mul_assoc, Nat.mul_left_comm t 2 t]; omega
    omega
  · have : (r + 1) * (r + 1) ≤ (2 * t + 3) * (2 * t + 3) := Nat.mul_le_mul (by omega) (by omega)
    have e3 : (2 * t + 3) * (2 * t + 3) = 4 * (t * t) + 12 * t + 9 := by
      simp only [Nat.mul_add, Nat.add_mul, Nat.mul_assoc, Nat.mul_left_comm t 2 t]; omega
    omega
def twoN (n : Nat) : Nat := n - tri (totN n)
def oneN (n : Nat) : Nat := totN n - twoN n
theorem two_le (n : Nat) : twoN n ≤ totN n := by
  obtain ⟨a, b⟩ := tot_spec n
  rw [tri_succ] at b
  unfold twoN; omega
theorem pair_parts (n : Nat) : pairN (oneN n) (twoN n) = n := by
  have h := two_le n
  obtain ⟨a, _⟩ := tot_spec n
  unfold pairN oneN
  rw [Nat.sub_add_cancel h]
  unfold twoN; omega
theorem one_le_self (n : Nat) : oneN n ≤ n := by
  have h := pair_parts n
  have t := two_tri (oneN n + twoN n)
  unfold pairN at h
  have : oneN n + twoN n ≤ tri (oneN n + twoN n) := by
    have : (oneN n + twoN n) * 1 ≤ (oneN n + twoN n) * (oneN n + twoN n) ∨ oneN n + twoN n = 0 := by
      rcases Nat.eq_zero_or_pos (oneN n + twoN n) with z | z
      · exact .inr z
      · exact .inl (Nat.mul_le_mul_left _ z)
    have e : (oneN n + twoN n) * (oneN n + twoN n + 1) = (oneN n + twoN n) * (oneN n + twoN n) + (oneN n + twoN n) := by rw [Nat.mul_add]; omega
    rcases this with z | z
    · omega
    · omega
  omega
theorem two_le_self (n : Nat) : twoN n ≤ n := by unfold twoN; omega
end Ts
namespace Ts
theorem lt_pow_mono {a m n : Nat} (h : a < 2 ^ m) (hm : m ≤ n) : a < 2 ^ n := Nat.lt_of_lt_of_le h (Nat.pow_le_pow_right (by decide) hm)
theorem add_lt {a b m : Nat} (h1 : a < 2 ^ m) (h2 : b < 2 ^ m) : a + b < 2 ^ (m + 1) := by rw [Nat.pow_succ]; omega
theorem succ_lt {a m : Nat} (h1 : a < 2 ^ m) : a + 1 < 2 ^ (m + 1) := by
  have : 0 < 2 ^ m := Nat.two_pow_pos m
  rw [Nat.pow_succ]; omega
theorem sqrt_lt {a m : Nat} (h : a < 2 ^ (2 * m)) : sqrtN a < 2 ^ m := by
  obtain ⟨s1, _⟩ := sqrtN_spec a
  apply sq_lt
  have e : 2 ^ m * 2 ^ m = 2 ^ (2 * m) := by rw [← Nat.pow_add, Nat.two_mul]
  omega
theorem pair_lt {a b k : Nat} (h1 : a < 2 ^ k) (h2 : b < 2 ^ k) : pairN a b < 2 ^ (2 * k + 1) := by
  have t := two_tri (a + b)
  unfold pairN
  have e : 2 ^ (2 * k + 1) = 2 * (2 ^ k * 2 ^ k) := by rw [Nat.pow_succ, Nat.two_mul, Nat.pow_add]; omega
  rw [e]
  generalize 2 ^ k = z at h1 h2
  have m : (a + b) * (a + b + 1) ≤ (2 * z - 2) * (2 * z - 1) := Nat.mul_le_mul (by omega) (by omega)
  obtain ⟨y, rfl⟩ : ∃ y, z = y + 1 := ⟨z - 1, by omega⟩
  have e1 : 2 * (y + 1) - 2 = 2 * y := by omega
  have e2 : 2 * (y + 1) - 1 = 2 * y + 1 := by omega
  rw [e1, e2] at m
  have e3 : 2 * y * (2 * y + 1) = 4 * (y * y) + 2 * y := by simp only [Nat.mul_add, Nat.add_mul, Nat.mul_assoc, Nat.mul_left_comm y 2 y]; omega
  have e4 : (y + 1) * (y + 1) = y * y + 2 * y + 1 := by simp only [Nat.mul_add, Nat.add_mul]; omega
  omega
theorem root_cut {m q N : Nat} (h : m < 2 ^ q) (hq : q ≤ 2 * N + 3) : m / 2 ^ (2 * (q / 4)) < 2 ^ (N + 3) := by
  have hp : 0 < 2 ^ (2 * (q / 4)) := Nat.two_pow_pos _
  rw [Nat.div_lt_iff_lt_mul hp, ← Nat.pow_add]
  exact lt_pow_mono h (by omega)
end Ts
set_option Elab.async false
set_option linter.all false
set_option maxRecDepth 100000
set_option maxHeartbeats 4000000
namespace L2
open PySem PySem.Spec PyProof.Rows
section
variable {X : Cx}
theorem OpR.imp {f : Value → Value → Sem Value} {r r' : R2} (h : OpR X f r) (g : ∀ x y H Q, r' x y H Q → r x y H Q) : OpR X f r' :=
  fun pins s σ H x y v u Q I rx ry q => h pins s σ H x y v u Q I rx ry (g x y H Q q)
theorem zmulB : OpR X (binaryOp .Mult) (rI IntMulOk fun i j => .int (i * j)) := opI fun _ _ _ _ _ _ _ hc q => mul_int q hc
def CDivB (i j : Int) : Prop := 0 < j ∧ j.natAbs.log2 < 9000
theorem zdivB : OpR X (binaryOp .FloorDiv) (rI CDivB fun i j => .int (i / j)) := opI fun i j _ _ _ _ _ hc q => by
  have h1 : (0 : Int) < j := hc.1
  exact floordiv_int (by omega) (by rw [Int.fdiv_eq_ediv_of_nonneg i (by omega)]; exact q) (.inl (PyProof.noPylong_of_log2 hc.2))
def CShl (i j : Int) : Prop := 0 ≤ j ∧ (Builtin.Int.intBits i : Int) + j ≤ 2 ^ 27
theorem zshlB : OpR X (binaryOp .LShift) (rI CShl fun i j => .int (i * 2 ^ j.toNat)) := opI fun _ _ _ _ _ _ _ hc q => lshift_int hc.1 hc.2 q
inductive rN (C : Nat → Nat → Prop) (g : Nat → Nat → Nat) (x y : V) (H : Hp) (Q : VK) : Prop where
  | mk (a b c : Nat) (e : x = .int (a : Int)) (f : y = .int (b : Int)) (k : C a b) (z : c = g a b) (q : Q (.int (c : Int)) H) : rN C g x y H Q
theorem n_add : OpR X (binaryOp .Add) (rN (fun _ _ => True) fun a b => a + b) := op_add.imp fun x y H Q ⟨a, b, c, e1, e2, _, e3, q⟩ => ⟨_, _, e1, e2, by subst e3; show Q (.int ((a : Int) + (b : Int))) H; rw [← Int.natCast_add]; exact q⟩
theorem n_sub : OpR X (binaryOp .Sub) (rN (fun a b => b ≤ a) fun a b => a - b) := op_sub.imp fun x y H Q ⟨a, b, c, e1, e2, h, e3, q⟩ => ⟨_, _, e1, e2, by subst e3; show Q (.int ((a : Int) - (b : Int))) H; rw [← Int.natCast_sub h]; exact q⟩
theorem bits_nat {a m : Nat} (h : a < 2 ^ m) : Builtin.Int.intBits (a : Int) ≤ m := intBits_le_iff.mpr (by rw [Int.natAbs_natCast]; exact h)
def CMulN (a b : Nat) : Prop := ∃ m n, a < 2 ^ m ∧ b < 2 ^ n ∧ m + n ≤ 134217728
theorem n_mul : OpR X (binaryOp .Mult) (rN CMulN fun a b => a * b) := zmulB.imp fun x y H Q ⟨a, b, c, e1, e2, ⟨m, n, h1, h2, h3⟩, e3, q⟩ =>
  ⟨_, _, e1, e2, IntMulOk.of_le (bits_nat h1) (bits_nat h2) h3, by subst e3; show Q (.int ((a : Int) * (b : Int))) H; rw [← Int.natCast_mul]; exact q⟩
def dl : Nat := 9000
def CDivM (a b : Nat) : Prop := 0 < b ∧ b < 2 ^ dl
theorem n_div : OpR X (binaryOp .FloorDiv) (rN CDivM fun a b => a / b) := zdivB.imp fun x y H Q ⟨a, b, c, e1, e2, ⟨h1, h2⟩, e3, q⟩ =>
  ⟨_, _, e1, e2, ⟨by omega, by rw [Int.natAbs_natCast]; exact (Nat.log2_lt (by omega)).mpr h2⟩, by subst e3; show Q (.int ((a : Int) / (b : Int))) H; rw [← Int.natCast_ediv]; exact q⟩
theorem n_mod : OpR X (binaryOp .Mod) (rN (fun _ b => 0 < b) fun a b => a % b) := op_mod.imp fun x y H Q ⟨a, b, c, e1, e2, h, e3, q⟩ =>
  ⟨_, _, e1, e2, by show (0 : Int) < (b : Int); omega, by subst e3; show Q (.int ((a : Int) % (b : Int))) H; rw [← Int.natCast_emod]; exact q⟩
theorem n_shr : OpR X (binaryOp .RShift) (rN (fun _ _ => True) fun a b => a / 2 ^ b) := op_shr.imp fun x y H Q ⟨a, b, c, e1, e2, _, e3, q⟩ =>
  ⟨_, _, e1, e2, by show (0 : Int) ≤ (b : Int); omega, by
    subst e3
    have e : ((a : Int) / 2 ^ (b : Int).toNat) = ((a / 2 ^ b : Nat) : Int) := by
      rw [Int.toNat_natCast, Int.natCast_ediv, Int.natCast_pow]; rfl
    show Q (.int ((a : Int) / 2 ^ (b : Int).toNat)) H
    rw [e]; exact q⟩
def CShlN (a b : Nat) : Prop := ∃ m, a < 2 ^ m ∧ m + b ≤ 134217728
theorem n_shl : OpR X (binaryOp .LShift) (rN CShlN fun a b => a * 2 ^ b) := zshlB.imp fun x y H Q ⟨a, b, c, e1, e2, ⟨m, h1, h2⟩, e3, q⟩ =>
  ⟨_, _, e1, e2, ⟨by omega, by
    have z := bits_nat h1
    have z2 : Builtin.Int.intBits (a : Int) ≤ m := z
    have z3 : (2 : Int) ^ 27 = 134217728 := by decide
    rw [z3]; omega⟩, by
    subst e3
    have e : ((a : Int) * 2 ^ (b : Int).toNat) = ((a * 2 ^ b : Nat) : Int) := by
      rw [Int.toNat_natCast, Int.natCast_mul, Int.natCast_pow]; rfl
    show Q (.int ((a : Int) * 2 ^ (b : Int).toNat)) H
    rw [e]; exact q⟩
def bitN (a : Nat) : Nat := Builtin.Int.intBits (a : Int)
theorem bitN_lt (a : Nat) : a < 2 ^ bitN a := by
  have h := intBits_le_iff.mp (Nat.le_refl (Builtin.Int.intBits (a : Int)))
  rw [Int.natAbs_natCast] at h
  exact h
theorem bitN_le {a m : Nat} (h : a < 2 ^ m) : bitN a ≤ m := bits_nat h
def rBits : V → List V → Hp → VK → Prop := fun x vs H Q => ∃ a : Nat, x = .int (a : Int) ∧ vs = [] ∧ Q (.int ((bitN a : Nat) : Int)) H
theorem mt_bits : MtM X "int.bit_length" rBits := by
  intro pins s σ H x vs v us Q I rx rv h
  obtain ⟨a, rfl, rfl, q⟩ := h
  obtain ⟨t, rfl⟩ := rx
  have hus := rv.zero
  subst hus
  exact call_int_bit_length ⟨.int _, H, I.tok _, ⟨_, rfl⟩, q⟩
theorem iteN {c A B : Prop} [Decidable c] (hc : ¬ c) (h : B) : if decide c = true then A else B := by
  rw [if_neg (by simpa using hc)]; exact h
theorem iteY {c A B : Prop} [Decidable c] (hc : c) (h : A) : if decide c = true then A else B := by
  rw [if_pos (by simpa using hc)]; exact h
theorem ite3 {c A B : Prop} [Decidable c] (h1 : c → A) (h2 : ¬ c → B) : if decide c = true then A else B := by
  by_cases h : c
  · exact iteY h (h1 h)
  · exact iteN h (h2 h)
theorem while_on {c : TT} {tb : TS} {D : Ends} {σ : St} {H : Hp} (Pv : Nat → St → Hp → Prop) (m : Nat) (h0 : Pv m σ H)
    (hs : ∀ m σ H, Pv m σ H → c σ H fun b H1 => if b = true then ∃ N : St → Hp → Prop, (∀ σ' H', N σ' H' → ∃ m', m' < m ∧ Pv m' σ' H') ∧ tb { D with nx := N, ct := N, bk := D.nx } σ H1 else D.nx σ H1) : tWhile c tb D σ H := ⟨Pv, ⟨m, h0⟩, hs⟩
theorem adr_ne {a b n : Nat} (h1 : a < n) (h2 : n ≤ b) : a ≠ b := by omega
theorem iteB {b : Bool} {A B : Prop} (hb : b = false) (h : B) : if b = true then A else B := by subst hb; exact h
theorem iteB1 {b : Bool} {A B : Prop} (hb : b = true) (h : A) : if b = true then A else B := by subst hb; exact h
end
end L2
set_option Elab.async false
set_option linter.all false
set_option maxRecDepth 100000
set_option maxHeartbeats 4000000
namespace L2
open PySem PySem.Spec PyProof.Rows
theorem comp_loop {prog : Program} {w : World} {A : Around} {R : Result → Shared → Prop} {elt tgt iter : Expr} {ifs : List Expr} {sc : Scope} {pos : Pos} {itv acc : Value} {env : Env} (Inn : Nat → Shared → Prop)
    (turn : ∀ k st, Inn k st → wpAny (model prog w) A (pyNext itv) (fun r s1 => match r with
      | none => R (.ok .next) s1
      | some v => wpAny (model prog w) A (letOwnedTupleGo tgt itv v) (fun _ s2 => wpAny (model prog w) A (assign tgt env v) (fun _ s3 =>
          wpAny (model prog w) A (forIn ifs true fun c r => if r = true then do let ok ← isTrue c env (eval c env); pure (ForInStep.yield ok) else pure (ForInStep.yield r)) (fun ok s4 =>
            if ok = true then wpAny (model prog w) A (eval elt env) (fun x s5 =>
              wpAny (model prog w) A (call (.builtin "list.append") [acc, x]) (fun _ s6 => ∃ m, m < k ∧ Inn m s6) (fun _ _ => False) s5) (fun _ _ => False) s4
            else ∃ m, m < k ∧ Inn m s4) (fun _ _ => False) s3) (fun _ _ => False) s2) (fun _ _ => False) s1) (fun _ _ => False) st)
    (k : Nat) {st : Shared} (h : Inn k st) : codeAny (model prog w) A (.compLoop (.ListComp elt [⟨tgt, iter, ifs, 0⟩] sc pos) 0 itv acc env) R st := by
  refine codeAny_loop rfl Inn (fun k st hq => ?_) k h
  show wpAny _ A
    ((compTurn (.ListComp elt [⟨tgt, iter, ifs, 0⟩] sc pos) 0 itv acc env).onRaise
      (fun x => do noteFrame x env; theTreesLotGoes x)) _ _ st
  refine wpAny_noted ?_
  rw [compTurn_list]
  refine wpAny_bind (wpAny_standAt (wpAny_bind (wpAny_mono (turn k st hq) (fun r s1 h1 => ?_) fun _ _ z => z.elim)))
  cases r with
  | none => exact wpAny_pure h1
  | some v =>
    refine wpAny_bind (wpAny_mono h1 (fun _ s2 h2 => ?_) fun _ _ z => z.elim)
    refine wpAny_bind (wpAny_mono h2 (fun _ s3 h3 => ?_) fun _ _ z => z.elim)
    refine wpAny_bind (wpAny_mono h3 (fun ok s4 h4 => ?_) fun _ _ z => z.elim)
    cases ok with
    | false => exact wpAny_pure ⟨rfl, h4⟩
    | true =>
      refine wpAny_bind (wpAny_bind (wpAny_mono h4 (fun x s5 h5 => ?_) fun _ _ z => z.elim))
      exact wpAny_bind (wpAny_mono h5 (fun _ s6 h6 => wpAny_pure (wpAny_pure ⟨rfl, h6⟩)) fun _ _ z => z.elim)
abbrev Cx.block (X : Cx) (sc : Scope) (cl : List (Str × Addr)) (N : List Str) (C : Addr) (s₀ : Shared) (H₀ : Hp) (fp : List Addr) (ps : List (Addr × Obj)) : Cx :=
  { X with N := N, s₀ := s₀, H₀ := H₀, env := compEnvC sc cl C X.env, outer := X.stack, stack := X.stack, ex := fp, fn := fun _ => false, pn := X.pn ++ ps, xe := fun _ _ => False }
def FrOk (X : Cx) (sc : Scope) : List (Option Nat) → List Str → Prop
  | [], [] => True
  | none :: r, _ :: N => FrOk X sc r N
  | some j :: r, x :: N => (X.N[j]? = some x ∧ X.env.scope.names.lookup x = some .cell ∧ (sc.names.lookup x = some .cell ∨ sc.names.lookup x = some .free)) ∧ FrOk X sc r N
  | _, _ => False
def blockSt (fr : List (Option Nat)) (σ : St) : St := fr.map fun o => o.bind fun (j : Nat) => (σ[j]?).join
theorem FrOk.len {X : Cx} {sc : Scope} : ∀ {fr : List (Option Nat)} {N : List Str}, FrOk X sc fr N → fr.length = N.length
  | [], [], _ => rfl
  | none :: r, _ :: N, h => by
    have := FrOk.len (fr := r) (N := N) h
    simp only [List.length_cons]; omega
  | some j :: r, _ :: N, h => by
    have := FrOk.len (fr := r) (N := N) h.2
    simp only [List.length_cons]; omega
  | [], _ :: _, h => h.elim
  | none :: _, [], h => h.elim
  | some _ :: _, [], h => h.elim
theorem FrOk.at {X : Cx} {sc : Scope} {σ : St} : ∀ {fr : List (Option Nat)} {N : List Str} {i : Nat} {x : Str} {v : V}, FrOk X sc fr N → N[i]? = some x → (blockSt fr σ)[i]? = some (some v) →
    ∃ j : Nat, X.N[j]? = some x ∧ σ[j]? = some (some v) ∧ X.env.scope.names.lookup x = some .cell ∧ (sc.names.lookup x = some .cell ∨ sc.names.lookup x = some .free)
  | [], [], i, x, v, _, h, _ => by simp at h
  | none :: r, y :: N, 0, x, v, h, h1, h2 => by simp [blockSt] at h2
  | none :: r, y :: N, i + 1, x, v, h, h1, h2 => FrOk.at (fr := r) (N := N) (i := i) h (by simpa using h1) (by simpa [blockSt] using h2)
  | some j :: r, y :: N, 0, x, v, h, h1, h2 => by
    have e : y = x := by simpa using h1
    subst e
    refine ⟨j, h.1.1, ?_, h.1.2.1, h.1.2.2⟩
    simp only [blockSt, List.map_cons, List.getElem?_cons_zero, Option.bind_some, Option.some.injEq] at h2
    cases e2 : σ[j]? with
    | none => rw [e2] at h2; simp at h2
    | some o => rw [e2] at h2; simp at h2; rw [h2]
  | some j :: r, y :: N, i + 1, x, v, h, h1, h2 => FrOk.at (fr := r) (N := N) (i := i) h.2 (by simpa using h1) (by simpa [blockSt] using h2)
  | [], _ :: _, _, _, _, h, _, _ => h.elim
  | none :: _, [], _, _, _, h, _, _ => h.elim
  | some _ :: _, [], _, _, _, h, _, _ => h.elim
def PIfs (X : Cx) (ifs : List Expr) (t : TT) : Prop :=
  ∀ (pins : List (Addr × Obj)) (s : Shared) (σ : St) (H : Hp) (Q : Bool → Hp → Prop), Inv X pins σ H s → t σ H Q →
    wpAny (model X.prog X.w) X.A (forIn ifs true fun c r => if r = true then do let ok ← isTrue c X.env (eval c X.env); pure (ForInStep.yield ok) else pure (ForInStep.yield r)) (TP X pins σ Q) X.xe s
def tYes : TT := fun _ H Q => Q true H
theorem pifs_nil {X : Cx} : PIfs X [] tYes := fun _ _ _ H _ I h => wpAny_tests_nil ⟨H, I, h⟩
theorem pifs_one {X : Cx} {c : Expr} {t : TT} (h : PT X c t) : PIfs X [c] t := fun pins s σ H Q I q => wpAny_tests_one (h pins s σ H Q I q)
def tComp (fr : List (Option Nat)) (wi : TI) (g : TG) (tt : TT) (te : TE) : TE := fun σ H Q => wi σ H fun J H1 => ∃ W : Nat → Nat → List V → St → Hp → Prop, (∃ m, W 0 m [] (blockSt fr σ) H1) ∧ ∀ i m ys τ H, W i m ys τ H →
  ys.length < sizeLine ∧ ((J.stop i H ∧ ∀ p, H p = none → Q (.ref p) (upd H p (.lst ys))) ∨
    (J.go i H ∧ ∃ N : List V → St → Hp → Prop, (∀ zs τ' H', N zs τ' H' → ∃ m', m' < m ∧ W (i + 1) m' zs τ' H') ∧
      ∀ x H', J.yld i H x H' → g x τ H' fun τ2 H2 => tt τ2 H2 fun b H3 => if b = true then te τ2 H3 fun v H4 => N (ys ++ [v]) τ2 H4 else N ys τ2 H3))
section
variable {X : Cx} {pins : List (Addr × Obj)} {σ : St} {H : Hp} {s : Shared}
structure BlockOk (X : Cx) (sc : Scope) (cl : List (Str × Addr)) : Prop where
  kind : sc.kind = .function
  cell : ∀ y ∈ sc.names, y.2 ≠ .cell
  names : ∀ y ∈ sc.names, y.2 = .local → sc.names.lookup y.1 = some .local
  sub : ∀ x c, cl.lookup x = some c → X.env.cells.lookup x = some c
  has : ∀ x, ((relabel sc X.env).names.lookup x = some .cell ∨ (relabel sc X.env).names.lookup x = some .free) → ∃ c, cl.lookup x = some c
theorem block_ok {sc : Scope} {cl : List (Str × Addr)} {N : List Str} {C : Addr} {fp : List Addr} (B : BlockOk X sc cl) (I : Inv X pins σ H s) (hfp : ∀ b ∈ fp, FpOk X pins H b) (hlt : ∀ b ∈ fp, b < s.heap.objs.size) (hC : s.heap.objs.size ≤ C) :
    (X.block sc cl N C s H fp pins).Ok where
  mod := I.ok.mod
  kind := B.kind
  glob := I.ok.glob
  blt := I.ok.blt
  above := hC
  inj := fun x y c h1 h2 => I.ok.inj x y c (B.sub x c h1) (B.sub y c h2)
  has := fun x h => B.has x h
  cab := fun _ _ h _ => by cases h
  hd := I.ok.hd
  frames := I.ok.frames
  stk := .inl rfl
  exf := fun b hb => ⟨fun z => adr_ne (hlt b hb) hC z, fun x c h => (hfp b hb).2.2.2.2.1 x c (B.sub x c h)⟩
  bs := fun b o e => I.bs b o e
  bsz := Nat.le_trans I.ok.bsz I.sz
  noex := fun b o e hb => by
    rcases (hfp b hb).2.2.2.1 with z | z
    · exact I.ok.noex b o e z
    · exact absurd (Nat.lt_of_lt_of_le (Heap.lt_size e) (Nat.le_trans I.ok.bsz z)) (Nat.lt_irrefl _)
  exfs := fun b hb z => by
    rcases List.mem_cons.mp (I.stkSub b z) with q | q
    · exact (hfp b hb).2.1 q
    · exact (hfp b hb).2.2.1 q
  funs := I.stack
  frf := I.stkFree
theorem block_end {sc : Scope} {cl : List (Str × Addr)} {N : List Str} {C D : Addr} {fp : List Addr} {s2 s3 : Shared} {H1 H2 : Hp} {τ : St} {qs : List (Addr × Obj)} {h' : Heap} {its : List Value} {ys : List V} {n : Nat} (I : Inv X pins σ H1 s2) (hfp : ∀ b ∈ fp, FpOk X pins H1 b)
    (J : Inv (X.block sc cl N C s2 H1 fp pins) qs τ H2 s3) (hD : s2.heap.objs.size ≤ D) (hDC : D ≠ C) (hCn : s2.heap.objs.size ≤ C) (eD : s3.heap.get? D = some { cls := .type "list", data := .seq its.toArray n }) (nD : H2 D = none) (r : Vals ys its) (hz : ys.length ≤ sizeLine)
    (hs : Heap.SameBut C s3.heap h') : Inv X pins σ (upd H2 D (.lst ys)) { s3 with heap := h' } := by
  have U : Un (frs X.stack) fp H1 H2 s2.heap s3.heap := J.base
  have nC : H2 C = none := J.free
  have olt : ∀ {b : Addr} {o : Obj}, s2.heap.get? b = some o → b ≠ C ∧ b ≠ D := fun e => ⟨adr_ne (Heap.lt_size e) hCn, adr_ne (Heap.lt_size e) hD⟩
  have U2 : Un (frs X.stack) fp H1 (upd H2 D (.lst ys)) s2.heap h' := by
    refine ⟨fun b o e nb hb hx => ?_, fun b o e nb hb hx => ?_, fun b o e nb hx => ?_, fun b o e hx => ?_, fun b xs e => ?_, fun b o xs e => ?_, fun b ps e => ?_⟩
    · exact hs.extBut b o (olt e).1 (U.keep b o e nb hb hx)
    · obtain ⟨sl, e1⟩ := U.slot b o e nb hb hx
      exact ⟨sl, hs.extBut b _ (olt e).1 e1⟩
    · rw [upd_ne (olt e).2]; exact U.free b o e nb hx
    · obtain ⟨o', e1⟩ := U.there b o e hx
      exact ⟨o', hs.extBut b _ (olt e).1 e1⟩
    · rw [upd_ne (ne_of_none (U.tups b xs e) nD)]; exact U.tups b xs e
    · rw [upd_ne (ne_of_none (U.frzs b o xs e) nD)]; exact U.frzs b o xs e
    · obtain ⟨mo, e1⟩ := U.tbls b ps e
      exact ⟨mo, by rw [upd_ne (ne_of_none e1 nD)]; exact e1⟩
  have hok : HOk X.prog X.w (upd H2 D (.lst ys)) h' := fun b u e => by
    by_cases hb : b = D
    · subst hb
      rw [upd_same] at e; cases e
      exact ⟨hz, its, n, r, hs.extBut _ _ hDC eD⟩
    · rw [upd_ne hb] at e
      refine (J.hok b u e).stay (fun c v hc q => hs.extBut c v (fun z => ?_) q) (fun c q => by rw [upd_ne (ne_of_none q nD)]; exact q) fun c xs q => by rw [upd_ne (ne_of_none q nD)]; exact q
      subst z
      rcases hc with z | z
      · rw [← z, nC] at e; cases e
      · rw [nC] at z; cases z
  exact I.call' (s' := { s3 with heap := h' }) (ch := fp) J.os U2 hok J.bare fun b hb => ⟨(hfp b hb).2.2.2.1, (hfp b hb).2.1, (hfp b hb).2.2.2.2.1, (hfp b hb).2.2.2.2.2⟩
theorem pe_comp {tg iter elt : Expr} {ifs : List Expr} {sc : Scope} {pos : Pos} {wi : TI} {g : TG} {tt : TT} {te : TE} {cl : List (Str × Addr)} {N : List Str} {fr : List (Option Nat)} (hc : X.calm = true) (B : BlockOk X sc cl) (hclos : closureFor sc X.env = pure cl) (hfr : FrOk X (relabel sc X.env) fr N)
    (hi : PI X tg iter wi) (hg : ∀ C s₀ H₀ fp ps, PG (X.block sc cl N C s₀ H₀ fp ps) tg g) (ht : ∀ C s₀ H₀ fp ps, PIfs (X.block sc cl N C s₀ H₀ fp ps) ifs tt) (he : ∀ C s₀ H₀ fp ps, PE (X.block sc cl N C s₀ H₀ fp ps) elt te)
    (hs : ∀ x, foldedSetIterable iter X.env x = pure x := by intro _; rfl) : PE X (.ListComp elt [⟨tg, iter, ifs, 0⟩] sc pos) (tComp fr wi g tt te) := by
  intro pins s σ H Q I h
  rw [eval_ListComp]
  refine wpAny_comprehension_free (use := none) rfl hs hclos B.kind B.names (thn (hi pins s σ H _ I h) fun xv s1 h1 => thn h1 fun itv s2 h2 => ?_)
  obtain ⟨it, fp, tn, J, H1, rfl, I2, TN, t0, hfp, W, ⟨m0, hW0⟩, hstep⟩ := h2
  refine wpAny_newObj_type (wpAny_newFunctionEnv B.cell (by intro y hy; simp at hy) (fun h₁ hns₁ hsb₁ => ?_) B.kind)
  dsimp only at hns₁ hsb₁ ⊢
  generalize hHL : s2.heap.push { cls := .type "list", dict := none, data := .seq ([] : List Value).toArray } = HL at hns₁ hsb₁ ⊢
  have hCs : HL.objs.size = s2.heap.objs.size + 1 := by rw [← hHL, Heap.size_push]
  have hDC : s2.heap.objs.size ≠ HL.objs.size := by omega
  have old : ∀ b o, s2.heap.get? b = some o → h₁.get? b = some o := fun b o e => by
    exact hsb₁.extBut b o (adr_ne (Heap.lt_size e) (by omega)) (Heap.get?_push_of_some _ (hHL ▸ Heap.get?_push_of_some _ e))
  have hacc : h₁.get? s2.heap.objs.size = some { cls := .type "list", data := .seq ([] : List Value).toArray } := hsb₁.extBut _ _ hDC (Heap.get?_push_of_some _ (hHL ▸ Heap.get?_push_size _ rfl))
  have hlt : ∀ b ∈ fp, b < s2.heap.objs.size := fun b hb => by
    obtain ⟨o, e, _⟩ := TN.obj _ _ t0 b hb
    exact Heap.lt_size e
  have ok : (X.block sc cl N HL.objs.size s2 H1 fp pins).Ok := block_ok B I2 hfp hlt (by omega)
  have nD : H1 s2.heap.objs.size = none := I2.hok.fresh (Nat.le_refl _)
  have nC : H1 HL.objs.size = none := I2.hok.fresh (by omega)
  have I3 : Inv (X.block sc cl N HL.objs.size s2 H1 fp pins) [(s2.heap.objs.size, { cls := .type "list", data := .seq ([] : List Value).toArray })] (blockSt fr σ) H1 { s2 with heap := h₁, toks := s2.toks + ([] : List (Str × Value)).length } := by
    refine ⟨ok, rfl, I2.bare, Un.kept old, ⟨_, hns₁, fun i x v e1 e2 e3 => ?_⟩, fun x c e => ?_, nC, fun x c e => ?_, fun p hp => ?_, I2.hok.kept old, ?_⟩
    · obtain ⟨j, j1, j2, j3, j4⟩ := hfr.at e1 e2
      obtain ⟨m, hn, hl⟩ := I2.loc
      obtain ⟨u, ru, lk⟩ := hl j x v j1 j2 (.inr (.inl j3))
      refine ⟨u, ru, ?_⟩
      obtain ⟨c, hcl⟩ := B.has x j4
      rcases lk with ⟨k1, _⟩ | ⟨_, c', hc', z⟩
      · have : X.env.kindOf x = some .cell := j3
        rw [this] at k1; cases k1
      · have q := B.sub x c hcl
        rw [hc'] at q; cases q
        obtain ⟨oc, hoc, hd⟩ := z
        exact .inr ⟨j4.elim .inl .inr, c, hcl, oc, old _ _ hoc, hd⟩
    · obtain ⟨v, oc, hoc, hd⟩ := I2.cell x c (B.sub x c e)
      exact ⟨v, oc, old _ _ hoc, hd⟩
    · exact I2.freeC x c (B.sub x c e)
    · rcases List.mem_append.mp hp with z | z
      · obtain ⟨p1, p2, p3, p4, p5⟩ := I2.pin p z
        refine ⟨old _ _ p1, p2, fun y => ?_, fun y => ?_, p5⟩
        · exact adr_ne (Heap.lt_size p1) (show s2.heap.objs.size ≤ HL.objs.size by omega) y
        · rcases List.mem_cons.mp (I2.stkSub p.1 y) with q | q
          · exact p3 q
          · exact p4 q
      · have e : p = (s2.heap.objs.size, { cls := .type "list", data := .seq ([] : List Value).toArray }) := by simpa using z
        subst e
        refine ⟨hacc, nD, hDC, fun y => ?_, fun v z => by cases z⟩
        obtain ⟨_, o, ho, _⟩ := I2.stack.mem y
        exact absurd (Heap.lt_size ho) (Nat.lt_irrefl _)
    · show (blockSt fr σ).length = N.length
      rw [← hfr.len]; simp [blockSt]
  have t1 : tn 0 h₁ := TN.keep _ _ _ t0 fun b _ o e => old b o e
  have stat : ∀ {qs : List (Addr × Obj)} {H' : Hp}, (∀ b ∈ fp, H' b = none) → (∀ p ∈ qs, p.1 ∉ fp) → ∀ b ∈ fp, FpOk (X.block sc cl N HL.objs.size s2 H1 fp pins) qs H' b := fun {qs H'} hn hq b hb => by
    refine ⟨hn b hb, fun z => ?_, fun z => ?_, .inl hb, fun x c e => (hfp b hb).2.2.2.2.1 x c (B.sub x c e), fun p hp z => ?_⟩
    · exact adr_ne (hlt b hb) (show s2.heap.objs.size ≤ HL.objs.size by omega) z
    · exact ok.exfs b hb z
    · rcases List.mem_append.mp hp with y | y
      · exact (hfp b hb).2.2.2.2.2 p y z
      · exact hq p y (z ▸ hb)
  have offD : ∀ (o : Obj), ∀ p ∈ [(s2.heap.objs.size, o)], p.1 ∉ fp := fun o p hp z => by
    have e : p = (s2.heap.objs.size, o) := by simpa using hp
    subst e
    exact absurd (hlt _ z) (Nat.lt_irrefl _)
  have loop : codeAny (model X.prog X.w) X.A (.compLoop (.ListComp elt [⟨tg, iter, ifs, 0⟩] sc pos) 0 (.ref it) (.ref s2.heap.objs.size) (compEnvC sc cl HL.objs.size X.env))
      (compPost (model X.prog X.w) X.A X.xe none (EP X pins σ Q) (.ref s2.heap.objs.size) HL.objs.size) { s2 with heap := h₁, toks := s2.toks + ([] : List (Str × Value)).length } := by
    refine comp_loop (fun k st => ∃ i ys its τ H' n, Inv (X.block sc cl N HL.objs.size s2 H1 fp pins) [(s2.heap.objs.size, { cls := .type "list", data := .seq (its : List Value).toArray n })] τ H' st ∧ Vals ys its ∧ tn i st.heap ∧ (∀ b ∈ fp, H' b = none) ∧ W i k ys τ H') ?_ m0
      ⟨0, [], [], _, _, 0, I3, .nil, t1, fun b hb => (hfp b hb).1, hW0⟩
    rintro k s3 ⟨i, ys, its, τ, H3, n, J3, r3, t3, f3, w3⟩
    obtain ⟨hz, hcase⟩ := hstep i k ys τ H3 w3
    rcases hcase with ⟨stop, fin⟩ | ⟨go, N', hN, yld⟩
    · refine thn (TN.done (X.block sc cl N HL.objs.size s2 H1 fp pins) rfl rfl rfl hc i _ s3 τ H3 _ J3 (stat f3 (offD _)) t3 stop) fun r s4 q => ?_
      obtain ⟨rfl, J4⟩ := q
      have pD := J4.pin (s2.heap.objs.size, { cls := .type "list", data := .seq its.toArray n }) (List.mem_append_right _ (List.mem_singleton.mpr rfl))
      obtain ⟨m, hn, _⟩ := J4.loc
      refine ⟨m, hn, fun h' hsb => ?_⟩
      exact ⟨.ref s2.heap.objs.size, _, block_end I2 hfp J4 (Nat.le_refl _) hDC (by omega) pD.1 pD.2.1 r3 (Nat.le_of_lt hz) hsb, rfl, fin _ pD.2.1⟩
    · refine thn (TN.item (X.block sc cl N HL.objs.size s2 H1 fp pins) rfl rfl rfl hc i _ s3 τ H3 _ J3 (stat f3 (offD _)) t3 go) fun r s4 q => ?_
      obtain ⟨u, rfl, h4⟩ := q
      refine thn h4 fun _ s5 q => ?_
      obtain ⟨x, H5, J5, r5, y5, t5, f5⟩ := q
      have J5' := J5.pinned (stat f5 (offD _)) (TN.obj _ _ t5)
      have keepT : ∀ {τ' : St} {H' : Hp} {s' : Shared}, Inv (X.block sc cl N HL.objs.size s2 H1 fp pins) ([(s2.heap.objs.size, { cls := .type "list", data := .seq its.toArray n })] ++ pinsAt fp s5.heap) τ' H' s' → tn (i + 1) s'.heap ∧ ∀ b ∈ fp, H' b = none := fun J => by
        refine ⟨TN.keep _ _ _ t5 fun b hb o e => (J.pin (b, o) (List.mem_append_right _ (List.mem_append_right _ (mem_pinsAt hb e)))).1, fun b hb => ?_⟩
        obtain ⟨o, e, _⟩ := TN.obj _ _ t5 b hb
        exact (J.pin (b, o) (List.mem_append_right _ (List.mem_append_right _ (mem_pinsAt hb e)))).2.1
      refine thn (hg _ _ _ _ _ _ s5 τ H5 x u _ J5' r5 (yld x H5 y5)) fun _ s6 q => ?_
      obtain ⟨τ6, H6, J6, q6⟩ := q
      refine thn (ht _ _ _ _ _ _ s6 τ6 H6 _ J6 q6) fun ok7 s7 q => ?_
      obtain ⟨H7, J7, q7⟩ := q
      cases ok7 with
      | false =>
        obtain ⟨m', hm, w7⟩ := hN _ _ _ q7
        obtain ⟨a1, a2⟩ := keepT J7
        exact ⟨m', hm, i + 1, ys, its, τ6, H7, n, J7.unpinned, r3, a1, a2, w7⟩
      | true =>
        refine thn (he _ _ _ _ _ _ s7 τ6 H7 _ J7 q7) fun y s8 q => ?_
        obtain ⟨v8, H8, J8, r8, q8⟩ := q
        have pD := J8.pin (s2.heap.objs.size, { cls := .type "list", data := .seq its.toArray n }) (List.mem_append_right _ (List.mem_append_left _ (List.mem_singleton.mpr rfl)))
        have hl3 := r3.length
        refine call_meets F.slot_list_append ⟨_, pD.1, rfl⟩ F.entry_list_append (F.args_list_append_2 _ _) (PySem.list_append s2.heap.objs.size its.toArray n y (by rw [List.size_toArray]; omega)) ⟨pD.1, ?_⟩
        obtain ⟨m', hm, w8⟩ := hN _ _ _ q8
        obtain ⟨a1, a2⟩ := keepT J8
        have upD := PySem.IsL.update pD.1 (fun a => a.push y)
        have eP : its.toArray.push y = (its ++ [y]).toArray := by simp
        rw [eP] at upD
        obtain ⟨n2, upD⟩ : ∃ n2, (s8.heap.update s2.heap.objs.size (Obj.mapSeq fun a => a.push y)).get? s2.heap.objs.size = some { cls := .type "list", data := .seq (its ++ [y]).toArray n2 } := ⟨_, upD⟩
        have oth : ∀ b o, b ≠ s2.heap.objs.size → s8.heap.get? b = some o → (s8.heap.update s2.heap.objs.size (Obj.mapSeq fun a => a.push y)).get? b = some o := fun b o hb e => (Heap.get?_update_other s8.heap _ (Ne.symm hb)).trans e
        have J9 : Inv (X.block sc cl N HL.objs.size s2 H1 fp pins) [] τ6 H8 s8 := J8.pins_of fun p hp => nomatch hp
        have J10 : Inv (X.block sc cl N HL.objs.size s2 H1 fp pins) [] τ6 H8 { s8 with heap := s8.heap.update s2.heap.objs.size (Obj.mapSeq fun a => a.push y) } := by
          refine J9.turned oth pD.2.1 hDC (.inr (Nat.le_refl _)) (fun x c e z => ?_) fun p hp z => ?_
          · obtain ⟨_, oc, hoc, _⟩ := I2.cell x c (B.sub x c e)
            exact adr_ne (Heap.lt_size hoc) (Nat.le_refl _) z
          · have hp' : p ∈ X.pn ++ pins := by simpa using hp
            exact adr_ne (Heap.lt_size (I2.pin p hp').1) (Nat.le_refl _) z
        refine ⟨m', hm, i + 1, ys ++ [v8], its ++ [y], τ6, H8, n2, J10.pins_of fun p hp => ?_, r3.append (.cons r8 .nil), TN.keep _ _ _ a1 fun b hb o e => oth b o (fun z => ?_) e, a2, w8⟩
        · have ep := List.mem_singleton.mp hp
          subst ep
          exact ⟨upD, pD.2.1, hDC, pD.2.2.2.1, fun v z => by cases z⟩
        · exact adr_ne (hlt b hb) (Nat.le_refl _) z
  exact codeAny_compStart_list loop (TN.self _ _ _ _ _ t1 loop)
end
end L2
namespace L2
open PySem PySem.Spec PyProof.Rows
def relS (sc es : Scope) : List (Str × NameKind) := sc.names.map fun (n, k) => if (k == .free && es.kind == .function && es.names.lookup n == some .cell) then (n, .cell) else (n, k)
theorem mem_lookup {κ : Type} [BEq κ] [LawfulBEq κ] {α : Type} : ∀ {l : List (κ × α)} {x : κ} {a : α}, l.lookup x = some a → (x, a) ∈ l
  | [], _, _, h => by simp at h
  | (y, b) :: r, x, a, h => by
    rw [List.lookup_cons] at h
    cases q : x == y with
    | true =>
      rw [q] at h
      have e : b = a := Option.some.inj h
      have e2 : x = y := eq_of_beq q
      subst e e2
      exact List.mem_cons_self
    | false => rw [q] at h; exact List.mem_cons_of_mem _ (mem_lookup h)
theorem block_one {X : Cx} {sc : Scope} {x0 : Str} {c0 : Addr} (k : sc.kind = .function) (h1 : ∀ y ∈ sc.names, y.2 ≠ .cell) (h2 : ∀ y ∈ sc.names, y.2 = .local → sc.names.lookup y.1 = some .local)
    (hm : ∀ p ∈ relS sc X.env.scope, (p.2 = .cell ∨ p.2 = .free) → p.1 = x0) (hc : X.env.cells.lookup x0 = some c0) : BlockOk X sc [(x0, c0)] where
  kind := k
  cell := h1
  names := h2
  sub := fun x c h => by
    have := mem_lookup h
    have e := List.mem_singleton.mp this
    cases e
    exact hc
  has := fun x h => by
    have e : x = x0 := by
      rcases h with h | h
      · exact hm _ (mem_lookup h) (.inl rfl)
      · exact hm _ (mem_lookup h) (.inr rfl)
    subst e
    exact ⟨c0, by simp⟩
theorem block_none {X : Cx} {sc : Scope} (k : sc.kind = .function) (h1 : ∀ y ∈ sc.names, y.2 ≠ .cell) (h2 : ∀ y ∈ sc.names, y.2 = .local → sc.names.lookup y.1 = some .local) (hm : ∀ p ∈ relS sc X.env.scope, ¬ (p.2 = .cell ∨ p.2 = .free)) : BlockOk X sc [] where
  kind := k
  cell := h1
  names := h2
  sub := fun x c h => by simp at h
  has := fun x h => by
    rcases h with h | h
    · exact absurd (Or.inl rfl) (hm _ (mem_lookup h))
    · exact absurd (Or.inr rfl) (hm _ (mem_lookup h))
theorem comp_on {J : It} {g : TG} {tt : TT} {te : TE} {Q : VK} {τ0 : St} {H1 : Hp} (n : Nat) (hn : n < 1000) (Pv : Nat → List V → St → Hp → Prop) (h0 : Pv 0 [] τ0 H1) (hz : ∀ i ys τ H, Pv i ys τ H → ys.length ≤ i)
    (go : ∀ i ys τ H, i < n → Pv i ys τ H → J.go i H ∧ ∀ x H', J.yld i H x H' → g x τ H' fun τ2 H2 => tt τ2 H2 fun b H3 => if b = true then te τ2 H3 fun v H4 => Pv (i + 1) (ys ++ [v]) τ2 H4 else Pv (i + 1) ys τ2 H3)
    (stop : ∀ ys τ H, Pv n ys τ H → J.stop n H ∧ ∀ p, H p = none → Q (.ref p) (upd H p (.lst ys))) :
    ∃ W : Nat → Nat → List V → St → Hp → Prop, (∃ m, W 0 m [] τ0 H1) ∧ ∀ i m ys τ H, W i m ys τ H →
      ys.length < sizeLine ∧ ((J.stop i H ∧ ∀ p, H p = none → Q (.ref p) (upd H p (.lst ys))) ∨
        (J.go i H ∧ ∃ N : List V → St → Hp → Prop, (∀ zs τ' H', N zs τ' H' → ∃ m', m' < m ∧ W (i + 1) m' zs τ' H') ∧
          ∀ x H', J.yld i H x H' → g x τ H' fun τ2 H2 => tt τ2 H2 fun b H3 => if b = true then te τ2 H3 fun v H4 => N (ys ++ [v]) τ2 H4 else N ys τ2 H3)) := by
  have line : sizeLine = 16777216 := sizeLine_eq
  refine ⟨fun i m ys τ H => Pv i ys τ H ∧ i ≤ n ∧ m = n - i, ⟨n, h0, Nat.zero_le _, rfl⟩, ?_⟩
  rintro i m ys τ H ⟨hp, hi, rfl⟩
  have := hz i ys τ H hp
  refine ⟨by omega, ?_⟩
  by_cases hin : i < n
  · obtain ⟨g1, g2⟩ := go i ys τ H hin hp
    exact .inr ⟨g1, fun zs τ' H' => Pv (i + 1) zs τ' H', fun zs τ' H' z => ⟨n - (i + 1), by omega, z, by omega, rfl⟩, g2⟩
  · have e : i = n := by omega
    subst e
    exact .inl (stop ys τ H hp)
end L2
set_option Elab.async false
set_option linter.all false
set_option maxRecDepth 100000
set_option maxHeartbeats 4000000
namespace L2
open PySem PySem.Spec PyProof.Rows
section
variable {X : Cx} {pins : List (Addr × Obj)} {σ : St} {H : Hp} {s : Shared}
theorem ps_comp {i0 : Nat} {y : Str} {py spos : Pos} {tg iter elt : Expr} {ifs : List Expr} {sc : Scope} {pos : Pos} {wi : TI} {g : TG} {tt : TT} {te : TE} {cl : List (Str × Addr)} {N : List Str} {fr : List (Option Nat)} (hc : X.calm = true) (B : BlockOk X sc cl) (hclos : closureFor sc X.env = pure cl) (hfr : FrOk X (relabel sc X.env) fr N)
    (hi : PI X tg iter wi) (hg : ∀ C s₀ H₀ fp ps, PG (X.block sc cl N C s₀ H₀ fp ps) tg g) (ht : ∀ C s₀ H₀ fp ps, PIfs (X.block sc cl N C s₀ H₀ fp ps) ifs tt) (he : ∀ C s₀ H₀ fp ps, PE (X.block sc cl N C s₀ H₀ fp ps) elt te)
    (hN : X.N.Nodup) (hi0 : X.N[i0]? = some y) (hy : X.env.scope.names.lookup y = some .local) (hsw : swapsWith (.ListComp elt [⟨tg, iter, ifs, 0⟩] sc pos) (some (.Name y py)) spos.line X.env = pure true := by rfl)
    (hs : ∀ x, foldedSetIterable iter X.env x = pure x := by intro _; rfl) : PS X (.Assign [.Name y py] (.ListComp elt [⟨tg, iter, ifs, 0⟩] sc pos) spos) (tAsg (tComp fr wi g tt te) (gName i0)) := by
  intro pins s σ H D0 I h
  rw [exec_Assign_Name_used _ _ _ _ hsw]
  refine wpAny_bind (wpAny_standAt (wpAny_bind ?_))
  show wpAny _ X.A (do let _ ← comprehension (.ListComp elt [⟨tg, iter, ifs, 0⟩] sc pos) sc X.env _ (newList []) false (eval iter X.env) (some (assign (.Name y py) X.env))) _ _ s
  refine wpAny_bind (wpAny_mono (wpAny_comprehension_free (use := some (assign (.Name y py) X.env)) (Q := fun _ s' => SP X pins D0 .next s') rfl hs hclos B.kind B.names
    (thn (hi pins s σ H _ I h) fun xv s1 h1 => thn h1 fun itv s2 h2 => ?_)) (fun _ s' hq => wpAny_pure (wpAny_pure hq)) fun _ _ e => e)
  obtain ⟨it, fp, tn, J, H1, rfl, I2, TN, t0, hfp, W, ⟨m0, hW0⟩, hstep⟩ := h2
  refine wpAny_newObj_type (wpAny_newFunctionEnv B.cell (by intro y hy; simp at hy) (fun h₁ hns₁ hsb₁ => ?_) B.kind)
  dsimp only at hns₁ hsb₁ ⊢
  generalize hHL : s2.heap.push { cls := .type "list", dict := none, data := .seq ([] : List Value).toArray } = HL at hns₁ hsb₁ ⊢
  have hCs : HL.objs.size = s2.heap.objs.size + 1 := by rw [← hHL, Heap.size_push]
  have hDC : s2.heap.objs.size ≠ HL.objs.size := by omega
  have old : ∀ b o, s2.heap.get? b = some o → h₁.get? b = some o := fun b o e => by
    exact hsb₁.extBut b o (adr_ne (Heap.lt_size e) (by omega)) (Heap.get?_push_of_some _ (hHL ▸ Heap.get?_push_of_some _ e))
  have hacc : h₁.get? s2.heap.objs.size = some { cls := .type "list", data := .seq ([] : List Value).toArray } := hsb₁.extBut _ _ hDC (Heap.get?_push_of_some _ (hHL ▸ Heap.get?_push_size _ rfl))
  have hlt : ∀ b ∈ fp, b < s2.heap.objs.size := fun b hb => by
    obtain ⟨o, e, _⟩ := TN.obj _ _ t0 b hb
    exact Heap.lt_size e
  have ok : (X.block sc cl N HL.objs.size s2 H1 fp pins).Ok := block_ok B I2 hfp hlt (by omega)
  have nD : H1 s2.heap.objs.size = none := I2.hok.fresh (Nat.le_refl _)
  have nC : H1 HL.objs.size = none := I2.hok.fresh (by omega)
  have I3 : Inv (X.block sc cl N HL.objs.size s2 H1 fp pins) [(s2.heap.objs.size, { cls := .type "list", data := .seq ([] : List Value).toArray })] (blockSt fr σ) H1 { s2 with heap := h₁, toks := s2.toks + ([] : List (Str × Value)).length } := by
    refine ⟨ok, rfl, I2.bare, Un.kept old, ⟨_, hns₁, fun i x v e1 e2 e3 => ?_⟩, fun x c e => ?_, nC, fun x c e => ?_, fun p hp => ?_, I2.hok.kept old, ?_⟩
    · obtain ⟨j, j1, j2, j3, j4⟩ := hfr.at e1 e2
      obtain ⟨m, hn, hl⟩ := I2.loc
      obtain ⟨u, ru, lk⟩ := hl j x v j1 j2 (.inr (.inl j3))
      refine ⟨u, ru, ?_⟩
      obtain ⟨c, hcl⟩ := B.has x j4
      rcases lk with ⟨k1, _⟩ | ⟨_, c', hc', z⟩
      · have : X.env.kindOf x = some .cell := j3
        rw [this] at k1; cases k1
      · have q := B.sub x c hcl
        rw [hc'] at q; cases q
        obtain ⟨oc, hoc, hd⟩ := z
        exact .inr ⟨j4.elim .inl .inr, c, hcl, oc, old _ _ hoc, hd⟩
    · obtain ⟨v, oc, hoc, hd⟩ := I2.cell x c (B.sub x c e)
      exact ⟨v, oc, old _ _ hoc, hd⟩
    · exact I2.freeC x c (B.sub x c e)
    · rcases List.mem_append.mp hp with z | z
      · obtain ⟨p1, p2, p3, p4, p5⟩ := I2.pin p z
        refine ⟨old _ _ p1, p2, fun y => ?_, fun y => ?_, p5⟩
        · exact adr_ne (Heap.lt_size p1) (show s2.heap.objs.size ≤ HL.objs.size by omega) y
        · rcases List.mem_cons.mp (I2.stkSub p.1 y) with q | q
          · exact p3 q
          · exact p4 q
      · have e : p = (s2.heap.objs.size, { cls := .type "list", data := .seq ([] : List Value).toArray }) := by simpa using z
        subst e
        refine ⟨hacc, nD, hDC, fun y => ?_, fun v z => by cases z⟩
        obtain ⟨_, o, ho, _⟩ := I2.stack.mem y
        exact absurd (Heap.lt_size ho) (Nat.lt_irrefl _)
    · show (blockSt fr σ).length = N.length
      rw [← hfr.len]; simp [blockSt]
  have t1 : tn 0 h₁ := TN.keep _ _ _ t0 fun b _ o e => old b o e
  have stat : ∀ {qs : List (Addr × Obj)} {H' : Hp}, (∀ b ∈ fp, H' b = none) → (∀ p ∈ qs, p.1 ∉ fp) → ∀ b ∈ fp, FpOk (X.block sc cl N HL.objs.size s2 H1 fp pins) qs H' b := fun {qs H'} hn hq b hb => by
    refine ⟨hn b hb, fun z => ?_, fun z => ?_, .inl hb, fun x c e => (hfp b hb).2.2.2.2.1 x c (B.sub x c e), fun p hp z => ?_⟩
    · exact adr_ne (hlt b hb) (show s2.heap.objs.size ≤ HL.objs.size by omega) z
    · exact ok.exfs b hb z
    · rcases List.mem_append.mp hp with y | y
      · exact (hfp b hb).2.2.2.2.2 p y z
      · exact hq p y (z ▸ hb)
  have offD : ∀ (o : Obj), ∀ p ∈ [(s2.heap.objs.size, o)], p.1 ∉ fp := fun o p hp z => by
    have e : p = (s2.heap.objs.size, o) := by simpa using hp
    subst e
    exact absurd (hlt _ z) (Nat.lt_irrefl _)
  have loop : codeAny (model X.prog X.w) X.A (.compLoop (.ListComp elt [⟨tg, iter, ifs, 0⟩] sc pos) 0 (.ref it) (.ref s2.heap.objs.size) (compEnvC sc cl HL.objs.size X.env))
      (compPost (model X.prog X.w) X.A X.xe (some (assign (.Name y py) X.env)) (fun _ s' => SP X pins D0 .next s') (.ref s2.heap.objs.size) HL.objs.size) { s2 with heap := h₁, toks := s2.toks + ([] : List (Str × Value)).length } := by
    refine comp_loop (fun k st => ∃ i ys its τ H' n, Inv (X.block sc cl N HL.objs.size s2 H1 fp pins) [(s2.heap.objs.size, { cls := .type "list", data := .seq (its : List Value).toArray n })] τ H' st ∧ Vals ys its ∧ tn i st.heap ∧ (∀ b ∈ fp, H' b = none) ∧ W i k ys τ H') ?_ m0
      ⟨0, [], [], _, _, 0, I3, .nil, t1, fun b hb => (hfp b hb).1, hW0⟩
    rintro k s3 ⟨i, ys, its, τ, H3, n, J3, r3, t3, f3, w3⟩
    obtain ⟨hz, hcase⟩ := hstep i k ys τ H3 w3
    rcases hcase with ⟨stop, fin⟩ | ⟨go, N', hN, yld⟩
    · refine thn (TN.done (X.block sc cl N HL.objs.size s2 H1 fp pins) rfl rfl rfl hc i _ s3 τ H3 _ J3 (stat f3 (offD _)) t3 stop) fun r s4 q => ?_
      obtain ⟨rfl, J4⟩ := q
      have pD := J4.pin (s2.heap.objs.size, { cls := .type "list", data := .seq its.toArray n }) (List.mem_append_right _ (List.mem_singleton.mpr rfl))
      obtain ⟨m, hn, _⟩ := J4.loc
      have I5 := block_end I2 hfp J4 (Nat.le_refl _) hDC (by omega) pD.1 pD.2.1 r3 (Nat.le_of_lt hz) (Heap.SameBut.refl _ _)
      have hCf : FpOk X pins (upd H3 s2.heap.objs.size (.lst ys)) HL.objs.size := I2.fpOk (by omega) (by rw [upd_ne (Ne.symm hDC)]; exact J4.free)
      show wpAny _ X.A (assign (.Name y py) X.env (.ref s2.heap.objs.size)) _ _ _
      refine wpAny_assign_Name (store_ok2 (i := i0) (v := .ref s2.heap.objs.size) I5 hN hi0 (.inl hy) rfl (fun s5 I6 z => ?_) (.inr hy))
      obtain ⟨a, hsb, ha⟩ := z
      have hCa : HL.objs.size ≠ a := by
        rcases ha with e | e
        · rw [e]; exact hCf.2.1
        · exact Ne.symm (hCf.2.2.2.2.1 y a e)
      refine ⟨m, hn.sameBut hsb hCa, fun h' hs' => ?_⟩
      exact ⟨_, _, I6.turned (t' := s5.toks) (fun b o hb e => hs'.extBut b o hb e) hCf.1 hCf.2.1 hCf.2.2.2.1 hCf.2.2.2.2.1 hCf.2.2.2.2.2, fin _ pD.2.1⟩
    · refine thn (TN.item (X.block sc cl N HL.objs.size s2 H1 fp pins) rfl rfl rfl hc i _ s3 τ H3 _ J3 (stat f3 (offD _)) t3 go) fun r s4 q => ?_
      obtain ⟨u, rfl, h4⟩ := q
      refine thn h4 fun _ s5 q => ?_
      obtain ⟨x, H5, J5, r5, y5, t5, f5⟩ := q
      have J5' := J5.pinned (stat f5 (offD _)) (TN.obj _ _ t5)
      have keepT : ∀ {τ' : St} {H' : Hp} {s' : Shared}, Inv (X.block sc cl N HL.objs.size s2 H1 fp pins) ([(s2.heap.objs.size, { cls := .type "list", data := .seq its.toArray n })] ++ pinsAt fp s5.heap) τ' H' s' → tn (i + 1) s'.heap ∧ ∀ b ∈ fp, H' b = none := fun J => by
        refine ⟨TN.keep _ _ _ t5 fun b hb o e => (J.pin (b, o) (List.mem_append_right _ (List.mem_append_right _ (mem_pinsAt hb e)))).1, fun b hb => ?_⟩
        obtain ⟨o, e, _⟩ := TN.obj _ _ t5 b hb
        exact (J.pin (b, o) (List.mem_append_right _ (List.mem_append_right _ (mem_pinsAt hb e)))).2.1
      refine thn (hg _ _ _ _ _ _ s5 τ H5 x u _ J5' r5 (yld x H5 y5)) fun _ s6 q => ?_
      obtain ⟨τ6, H6, J6, q6⟩ := q
      refine thn (ht _ _ _ _ _ _ s6 τ6 H6 _ J6 q6) fun ok7 s7 q => ?_
      obtain ⟨H7, J7, q7⟩ := q
      cases ok7 with
      | false =>
        obtain ⟨m', hm, w7⟩ := hN _ _ _ q7
        obtain ⟨a1, a2⟩ := keepT J7
        exact ⟨m', hm, i + 1, ys, its, τ6, H7, n, J7.unpinned, r3, a1, a2, w7⟩
      | true =>
        refine thn (he _ _ _ _ _ _ s7 τ6 H7 _ J7 q7) fun y s8 q => ?_
        obtain ⟨v8, H8, J8, r8, q8⟩ := q
        have pD := J8.pin (s2.heap.objs.size, { cls := .type "list", data := .seq its.toArray n }) (List.mem_append_right _ (List.mem_append_left _ (List.mem_singleton.mpr rfl)))
        have hl3 := r3.length
        refine call_meets F.slot_list_append ⟨_, pD.1, rfl⟩ F.entry_list_append (F.args_list_append_2 _ _) (PySem.list_append s2.heap.objs.size its.toArray n y (by rw [List.size_toArray]; omega)) ⟨pD.1, ?_⟩
        obtain ⟨m', hm, w8⟩ := hN _ _ _ q8
        obtain ⟨a1, a2⟩ := keepT J8
        have upD := PySem.IsL.update pD.1 (fun a => a.push y)
        have eP : its.toArray.push y = (its ++ [y]).toArray := by simp
        rw [eP] at upD
        obtain ⟨n2, upD⟩ : ∃ n2, (s8.heap.update s2.heap.objs.size (Obj.mapSeq fun a => a.push y)).get? s2.heap.objs.size = some { cls := .type "list", data := .seq (its ++ [y]).toArray n2 } := ⟨_, upD⟩
        have oth : ∀ b o, b ≠ s2.heap.objs.size → s8.heap.get? b = some o → (s8.heap.update s2.heap.objs.size (Obj.mapSeq fun a => a.push y)).get? b = some o := fun b o hb e => (Heap.get?_update_other s8.heap _ (Ne.symm hb)).trans e
        have J9 : Inv (X.block sc cl N HL.objs.size s2 H1 fp pins) [] τ6 H8 s8 := J8.pins_of fun p hp => nomatch hp
        have J10 : Inv (X.block sc cl N HL.objs.size s2 H1 fp pins) [] τ6 H8 { s8 with heap := s8.heap.update s2.heap.objs.size (Obj.mapSeq fun a => a.push y) } := by
          refine J9.turned oth pD.2.1 hDC (.inr (Nat.le_refl _)) (fun x c e z => ?_) fun p hp z => ?_
          · obtain ⟨_, oc, hoc, _⟩ := I2.cell x c (B.sub x c e)
            exact adr_ne (Heap.lt_size hoc) (Nat.le_refl _) z
          · have hp' : p ∈ X.pn ++ pins := by simpa using hp
            exact adr_ne (Heap.lt_size (I2.pin p hp').1) (Nat.le_refl _) z
        refine ⟨m', hm, i + 1, ys ++ [v8], its ++ [y], τ6, H8, n2, J10.pins_of fun p hp => ?_, r3.append (.cons r8 .nil), TN.keep _ _ _ a1 fun b hb o e => oth b o (fun z => ?_) e, a2, w8⟩
        · have ep := List.mem_singleton.mp hp
          subst ep
          exact ⟨upD, pD.2.1, hDC, pD.2.2.2.1, fun v z => by cases z⟩
        · exact adr_ne (hlt b hb) (Nat.le_refl _) z
  exact codeAny_compStart_list loop (TN.self _ _ _ _ _ t1 loop)
end
end L2
set_option Elab.async false
set_option linter.all false
set_option maxRecDepth 100000
set_option maxHeartbeats 4000000
namespace L2
open PySem PySem.Spec PyProof.Rows
theorem ext_tup (l : Addr) (items : Array Value) (n : Nat) (b : Addr) (items2 : Array Value) (n2 : Nat) (dd : Option Addr) (sl : Array (Option Value)) (q0 : ¬(!items.isEmpty && Builtin.List.listTooLong (items.size + items2.size)) = true) (q1 : items.size ≤ sizeLine) (q2 : items.size + items2.size ≤ sizeLine + 1) :
    Meets (Builtin.«list.extend» ⟨[.ref l, .ref b], []⟩) (fun _ R s => s.heap.get? l = some { cls := .type "list", dict := none, data := .seq items n, slots := #[] } ∧ s.heap.get? b = some { cls := .type "tuple", dict := dd, data := .seq items2 n2, slots := sl } ∧
      R (.ok (.ret Value.none)) { s with heap := s.heap.update l (Obj.mapSeq fun x => x ++ items2), toks := s.toks }) :=
  .of_wp fun prog w A R s h => by
    obtain ⟨hp, g, d, tk, os⟩ := s
    obtain ⟨hl, hb, h⟩ := h
    have f1 := AutoSeq1.idx_int
    have f2 := AutoSeq1.sub_tuple_tuple
    have f3 := AutoSeq1.sub_list_list
    have f4 := AutoSeq1.sub_tuple_list
    have f5 := AutoSeq1.sub_list_tuple
    have z2 : (items ++ items2).size ≤ sizeLine + 1 := by rw [Array.size_append]; exact q2
    wp_walk using (wpAny_updateSeq hl rfl (hz := q1) (_hz' := z2)), AutoSeq1.wpAny_loadPart' hl, AutoSeq1.wpAny_loadPart' hb
    exact ⟨_, rfl, h⟩
section
variable {X : Cx}
def rExtT (K : PySem.W.Frag) : V → List V → Hp → VK → Prop := fun x vs H Q => ∃ l b xs zs, x = .ref l ∧ vs = [.ref b] ∧ H l = some (.lst xs) ∧ SqT K H b zs ∧ xs.length + zs.length ≤ sizeLine ∧ Q .non (upd H l (.lst (xs ++ zs)))
theorem mt_extT : MtM X "list.extend" (rExtT X.K) := by
  intro pins s σ H x vs v us Q I rx rv h
  obtain ⟨l, b, xs, zs, rfl, rfl, hH, hB, hz, q⟩ := h
  cases rx
  obtain ⟨u, rfl, ru⟩ := rv.one
  cases ru
  obtain ⟨z, its, n, r, hl, e⟩ := I.lstM hH
  obtain ⟨its2, r2, ⟨⟨oc, od, odt, osl⟩, e2, hc, n2, hd⟩, _⟩ := I.tuple hB
  have hc' : oc = .type "tuple" := hc
  have hd' : odt = .seq its2.toArray n2 := hd
  subst hc' hd'
  have hl2 := r2.length
  have hsz : its.toArray.size + its2.toArray.size ≤ sizeLine := by rw [List.size_toArray, List.size_toArray]; omega
  have hlong : ¬ (!its.toArray.isEmpty && Builtin.List.listTooLong (its.toArray.size + its2.toArray.size)) = true := by
    rw [notLongL hsz, Bool.and_false]
    exact Bool.false_ne_true
  refine call_meets F.slot_list_extend ⟨_, e, rfl⟩ F.entry_list_extend (F.args_list_extend_2 _ _)
    (ext_tup l its.toArray n b its2.toArray n2 od osl hlong (by rw [List.size_toArray]; omega) (by omega)) ⟨e, e2, ?_⟩
  refine ⟨.non, _, I.lset (its' := its ++ its2) hH e (by simp) (r.append r2) ?_, rfl, q⟩
  rw [List.length_append]
  omega
end
def Itr3 (lo c : Int) (n : Nat) : It := ⟨fun i _ => i < n, fun i H x H' => H' = H ∧ x = .int (lo + i * c), fun i _ => n ≤ i⟩
theorem turn_range3 {P : Program} {w : World} {K : PySem.W.Frag} {tg : Expr} (it : Addr) (lo c : Int) (n : Nat) : Turn P w K tg (Itr3 lo c n) [it] it (fun i h => IsRangeIter h it (lo + (i : Nat) * c) ((n : Int) - (i : Nat)) c) where
  mem := by simp
  obj := fun i h st b hb => by
    have e : b = it := by simpa using hb
    subst e
    exact ⟨_, st, fun v z => by
      have z' : Data.fields _ = Data.cell v := z
      cases z'⟩
  keep := fun i h h' st k => k it (by simp) _ st
  item := by
    intro X hP hw hK hc i pins s σ H E I hf st hg
    subst hP hw hK
    obtain ⟨f0, f1, f2, f3, f4, f5⟩ := hf it (by simp)
    have W := Walks.range (prog := X.prog) (w := X.w) (I.ok.hd hc) it lo c n
    refine W.item i s _ _ hg st fun v h' tk hv st' kk => ?_
    obtain ⟨t, rfl⟩ := hv
    have I1 : Inv X pins σ H { s with heap := h', toks := tk } := I.turned (fun b o hb e => kk b o (by simpa using hb) e) f0 f1 f3 f4 f5
    exact ⟨_, rfl, go_of (s := { s with heap := h', toks := tk }) (n := "range_iterator") st' rfl rfl (by decide) ⟨.int (lo + i * c), H, I1, ⟨t, rfl⟩, ⟨rfl, rfl⟩, st', fun b hb => (hf b hb).1⟩⟩
  done := by
    intro X hP hw hK hc i pins s σ H E I hf st hg
    subst hP hw hK
    obtain ⟨f0, f1, f2, f3, f4, f5⟩ := hf it (by simp)
    exact wpAny_pyNext_range_end (I.ok.hd hc) st (by have : n ≤ i := hg; omega) fun h' eb => ⟨rfl, I.turned (t' := s.toks) (fun b o hb e => eb b o hb e) f0 f1 f3 f4 f5⟩
  self := fun _ _ _ _ _ st h => wpAny_pyIter_rangeiter st h
section
variable {X : Cx} {tg : Expr}
def iRng3 (ta : TA) : TI := fun σ H R => ta σ H fun vs H1 => ∃ (i j c : Int) (n : Nat), vs = [.int i, .int j, .int c] ∧ 0 < c ∧ (-(2 ^ 60) < j - i ∧ j - i < 2 ^ 60) ∧ Builtin.Range.small i j c = true ∧ Builtin.Range.rangeSize i j c = (n : Int) ∧ c < 1073741824 ∧ R (Itr3 i c n) H1
theorem pi_range3 {a b c : Expr} {ta : TA} {p pos : Pos} (hg : Gl X "range") (hm : X.mg "range" = none) (ha : PA X [a, b, c] ta) (hs : starEach [a, b, c] X.env = [(false, eval a X.env), (false, eval b X.env), (false, eval c X.env)] := by rfl) (hs2 : starEach [b, c] X.env = [(false, eval b X.env), (false, eval c X.env)] := by rfl) :
    PI X tg (.Call (.Name "range" p) [a, b, c] [] pos) (iRng3 ta) := by
  intro pins s σ H R I h
  refine Call_ (ld_blt I hg hm boot_range (PyProof.Rows.callWith_type1 (thn (ha pos pins s σ H _ I h) fun us s1 ⟨vs, H1, I1, r1, q1⟩ => ?_) (by rw [hs, hs2]) (by rw [hs2]; rfl)))
  obtain ⟨i, j, c', n, e, hc0, hij, hsm, hsz, hc1, q⟩ := q1
  subst e
  cases r1 with
  | cons r rr =>
    cases rr with
    | cons r' rr =>
      cases rr with
      | cons r'' rr =>
        cases rr
        obtain ⟨t, rfl⟩ := r
        obtain ⟨t', rfl⟩ := r'
        obtain ⟨t'', rfl⟩ := r''
        refine call_range_3 (by omega) ?_ (.inl (PyProof.noPylong_small (by omega)))
        refine wpAny_pyIter_range (IsRange.new ..) hsm ?_
        have I2 : Inv X pins σ H1 { s1 with heap := s1.heap.push { cls := .type "range", data := .fields #[.int i t, .int j t', .int c' t''] } } := I1.kept (t' := s1.toks) fun b o e => Heap.get?_push_of_some _ e
        refine ⟨(s1.heap.push { cls := .type "range", data := .fields #[.int i t, .int j t', .int c' t''] }).objs.size, [(s1.heap.push { cls := .type "range", data := .fields #[.int i t, .int j t', .int c' t''] }).objs.size], _, _, H1, rfl,
          I2.kept (t' := s1.toks) fun b o e => Heap.get?_push_of_some _ e, turn_range3 _ i c' n, ?_, fun b hb => ?_, q⟩
        · have e1 : i + ((0 : Nat) : Int) * c' = i := by simp
          have e2 : (n : Int) - ((0 : Nat) : Int) = Builtin.Range.rangeSize i j c' := by rw [hsz]; simp
          show IsRangeIter _ _ (i + ((0 : Nat) : Int) * c') ((n : Int) - ((0 : Nat) : Int)) c'
          rw [e1, e2]
          exact Heap.get?_push_size _ rfl
        · have e : b = (s1.heap.push { cls := .type "range", data := .fields #[.int i t, .int j t', .int c' t''] }).objs.size := by simpa using hb
          subst e
          exact I2.fpOk (Nat.le_refl _) (I2.hok.fresh (Nat.le_refl _))
theorem small_two {n : Nat} (h : n < 1000000) : Builtin.Range.small 0 (n : Int) 2 = true ∧ Builtin.Range.rangeSize 0 (n : Int) 2 = (((n + 1) / 2 : Nat) : Int) := by
  have e : Builtin.Range.rangeSize 0 (n : Int) 2 = (((n + 1) / 2 : Nat) : Int) := by
    unfold Builtin.Range.rangeSize
    simp only [show (2 : Int) > 0 by decide, if_true]
    split <;> omega
  refine ⟨?_, e⟩
  unfold Builtin.Range.small
  rw [e]
  have k : ∀ i : Int, 0 ≤ i → i < 2000000 → Builtin.Range.rangeFitsLong i = true := fun i h0 h1 => by
    unfold Builtin.Range.rangeFitsLong
    rw [Bool.and_eq_true]
    exact ⟨decide_eq_true (by omega), decide_eq_true (by omega)⟩
  rw [k 0 (by omega) (by omega), k (n : Int) (by omega) (by omega), k 2 (by omega) (by omega), k (((n + 1) / 2 : Nat) : Int) (by omega) (by omega), if_pos (by decide), k ((n : Int) + (2 - 1)) (by omega) (by omega)]
  simp
end
end L2
set_option Elab.async false
set_option linter.all false
set_option maxRecDepth 100000
set_option maxHeartbeats 4000000
namespace L2
open PySem PySem.Spec PyProof.Rows
section
variable {X : Cx}
end
theorem iteNot {c A B : Prop} [Decidable c] (h1 : ¬ c → A) (h2 : c → B) : if (!decide c) = true then A else B := by
  by_cases h : c
  · exact iteNS h (h2 h)
  · rw [decide_eq_false h]; exact iteT (h1 h)
end L2
set_option Elab.async false
set_option linter.all false
set_option maxRecDepth 100000
set_option maxHeartbeats 4000000
namespace L2
open PySem PySem.Spec PyProof.Rows
section
variable {κ : Type} [DecidableEq κ]
def valV (kvs : List (κ × V)) (k : κ) : Option V := (kvs.find? fun kv => decide (kv.1 = k)).map (·.2)
def putK (kvs : List (κ × V)) (k : κ) (v : V) : List (κ × V) :=
  if (kvs.any fun kv => decide (kv.1 = k)) = true then kvs.map (fun kv => if kv.1 = k then (kv.1, v) else kv) else kvs ++ [(k, v)]
theorem valV_pos {p : κ × V} {r : List (κ × V)} {k : κ} (e : p.1 = k) : valV (p :: r) k = some p.2 := by simp [valV, List.find?_cons, e]
theorem valV_neg {p : κ × V} {r : List (κ × V)} {k : κ} (e : ¬ p.1 = k) : valV (p :: r) k = valV r k := by simp [valV, List.find?_cons, e]
theorem valV_any (k : κ) : ∀ kvs : List (κ × V), (kvs.any fun kv => decide (kv.1 = k)) = (valV kvs k).isSome
  | [] => rfl
  | p :: r => by
    rw [List.any_cons]
    by_cases e : p.1 = k
    · simp only [valV_pos e, decide_eq_true e, Bool.true_or, Option.isSome_some]
    · rw [valV_neg e, decide_eq_false e, Bool.false_or]; exact valV_any k r
theorem length_putK (kvs : List (κ × V)) (k : κ) (v : V) : (putK kvs k v).length ≤ kvs.length + 1 := by
  unfold putK
  split
  · rw [List.length_map]; omega
  · rw [List.length_append, List.length_cons, List.length_nil]; omega
theorem putK_new {kvs : List (κ × V)} {k : κ} (v : V) (h : valV kvs k = none) : putK kvs k v = kvs ++ [(k, v)] := by
  unfold putK
  rw [valV_any, h]
  exact if_neg (by decide)
theorem RelO.isSome_eq {o : Option V} {u : Option Value} (r : RelO o u) : o.isSome = u.isSome := by
  cases o with
  | none => cases u with
    | none => rfl
    | some _ => exact (show False from r).elim
  | some _ => cases u with
    | none => exact (show False from r).elim
    | some _ => rfl
theorem KV.val {kvs : List (κ × V)} {vs : List (κ × Value)} (r : KV kvs vs) (k : κ) : RelO (valV kvs k) (valueAt vs k) := by
  unfold KV at r
  induction r with
  | nil => exact True.intro
  | @cons p q ps qs h t ih =>
    obtain ⟨h1, h2⟩ := h
    by_cases e : p.1 = k
    · have e' : q.1 = k := h1.symm.trans e
      have b : valueAt (q :: qs) k = some q.2 := by simp [valueAt, List.find?_cons, e']
      rw [valV_pos e, b]; exact h2
    · have e' : ¬ q.1 = k := fun z => e (h1.trans z)
      have b : valueAt (q :: qs) k = valueAt qs k := by simp [valueAt, List.find?_cons, e']
      rw [valV_neg e, b]; exact ih
theorem KV.any {kvs : List (κ × V)} {vs : List (κ × Value)} (r : KV kvs vs) (k : κ) : (kvs.any fun kv => decide (kv.1 = k)) = vs.any fun kv => decide (kv.1 = k) := by
  unfold KV at r
  induction r with
  | nil => rfl
  | cons h t ih => rw [List.any_cons, List.any_cons, ih, h.1]
theorem KV.repl {kvs : List (κ × V)} {vs : List (κ × Value)} (r : KV kvs vs) (k : κ) {y : V} {u : Value} (ry : RelV y u) :
    KV (kvs.map fun kv => if kv.1 = k then (kv.1, y) else kv) (vs.map fun kv => if kv.1 = k then (kv.1, u) else kv) := by
  unfold KV at r ⊢
  induction r with
  | nil => exact .nil
  | @cons p q ps qs h t ih =>
    rw [List.map_cons, List.map_cons]
    refine .cons ?_ ih
    obtain ⟨h1, h2⟩ := h
    by_cases e : p.1 = k
    · rw [if_pos e, if_pos (h1.symm.trans e)]; exact ⟨h1, ry⟩
    · rw [if_neg e, if_neg (fun z => e (h1.trans z))]; exact ⟨h1, h2⟩
theorem KV.put {kvs : List (κ × V)} {vs : List (κ × Value)} (r : KV kvs vs) (k : κ) {y : V} {u : Value} (ry : RelV y u) : KV (putK kvs k y) (stored vs k u) := by
  unfold putK stored
  rw [r.any k]
  by_cases e : (vs.any fun kv => decide (kv.1 = k)) = true
  · rw [if_pos e, if_pos e]; exact r.repl k ry
  · rw [if_neg e, if_neg e]; exact Paired.snoc r ⟨rfl, ry⟩
theorem KV.length {kvs : List (κ × V)} {vs : List (κ × Value)} (r : KV kvs vs) : kvs.length = vs.length := Paired.length r
end
theorem kV_is {P : Program} {w : World} {k : Key} {u : Value} (r : RelV (kV k) u) : (mixKind P w).is k u = true := by
  cases k with
  | inl i => obtain ⟨t, e⟩ := (show ∃ t, u = Value.int i t from r); subst e; exact mixKind_int P w i t
  | inr x => obtain ⟨t, e⟩ := (show ∃ t, u = Value.str x t from r); subst e; exact mixKind_str P w x t
theorem items_are {P : Program} {w : World} : ∀ {ks : List Key} {us : List Value}, Vals (ks.map kV) us → ItemsAre (mixKind P w) ks us
  | [], _, r => by rw [List.map_nil] at r; cases r; exact .nil
  | k :: ks, _, r => by
    rw [List.map_cons] at r
    cases r with
    | cons h t => exact .cons (kV_is h) (items_are t)
abbrev KT (H : Hp) : List (List Key × V) → List (List Key × Addr × Value) → Prop := Paired fun p q => p.1 = q.1 ∧ H q.2.1 = some (.tup (p.1.map kV)) ∧ RelV p.2 q.2.2
theorem KT.val {H : Hp} {kvs : List (List Key × V)} {xs : List (List Key × Addr × Value)} (r : KT H kvs xs) (k : List Key) : RelO (valV kvs k) ((atKey xs k).map (·.2)) := by
  induction r with
  | nil => exact True.intro
  | @cons p q ps qs h t ih =>
    obtain ⟨h1, _, h2⟩ := h
    by_cases e : p.1 = k
    · have e' : q.1 = k := h1.symm.trans e
      have b : atKey (q :: qs) k = some q.2 := by simp [atKey, List.find?_cons, e']
      rw [valV_pos e, b]; exact h2
    · have e' : ¬ q.1 = k := fun z => e (h1.trans z)
      have b : atKey (q :: qs) k = atKey qs k := by simp [atKey, List.find?_cons, e']
      rw [valV_neg e, b]; exact ih
theorem KT.repl {H : Hp} {kvs : List (List Key × V)} {xs : List (List Key × Addr × Value)} (r : KT H kvs xs) (k : List Key) {y : V} {u : Value} (ry : RelV y u) :
    KT H (kvs.map fun kv => if kv.1 = k then (kv.1, y) else kv) (xs.map (putAt k u)) := by
  induction r with
  | nil => exact .nil
  | @cons p q ps qs h t ih =>
    rw [List.map_cons, List.map_cons]
    refine .cons ?_ ih
    obtain ⟨h1, h2, h3⟩ := h
    unfold putAt
    by_cases e : p.1 = k
    · rw [if_pos e, if_pos (h1.symm.trans e)]; exact ⟨h1, h2, ry⟩
    · rw [if_neg e, if_neg (fun z => e (h1.trans z))]; exact ⟨h1, h2, h3⟩
theorem KT.put {H : Hp} {kvs : List (List Key × V)} {xs : List (List Key × Addr × Value)} (r : KT H kvs xs) (k : List Key) {b : Addr} {y : V} {u : Value} (hb : H b = some (.tup (k.map kV))) (ry : RelV y u) :
    KT H (putK kvs k y) (storedH xs k b u) := by
  have e : (kvs.any fun kv => decide (kv.1 = k)) = (atKey xs k).isSome := by
    rw [valV_any, (r.val k).isSome_eq, Option.isSome_map]
  unfold putK storedH
  rw [e]
  by_cases q : (atKey xs k).isSome = true
  · rw [if_pos q, if_pos q]; exact r.repl k ry
  · rw [if_neg q, if_neg q]; exact Paired.snoc r ⟨rfl, hb, ry⟩
theorem KT.keeps {H H' : Hp} {kvs : List (List Key × V)} {xs : List (List Key × Addr × Value)} (r : KT H kvs xs) (ht : ∀ b ys, H b = some (.tup ys) → H' b = some (.tup ys)) : KT H' kvs xs :=
  Paired.mapP r fun _ _ z => ⟨z.1, ht _ _ z.2.1, z.2.2⟩
section
variable {P : Program} {w : World} {H : Hp} {h : Heap} {a : Addr}
theorem rd_of {u : HO} (ok : HOk P w H h) (e : Rd H a u) : ObjOk P w H h a u := e.ok ok
theorem dk_rd {kvs : List (Key × V)} (ok : HOk P w H h) (e : Rd H a (.dK kvs)) : kvs.length ≤ sizeLine ∧ (a == sysModules) = false ∧ ∃ vs, KV kvs vs ∧ h.DictOf (mixKind P w) a vs :=
  show ObjOk P w H h a (.dK kvs) from rd_of ok e
theorem dk_of {kvs : List (Key × V)} (ok : HOk P w H h) (e : H a = some (.dK kvs)) : kvs.length ≤ sizeLine ∧ (a == sysModules) = false ∧ ∃ vs, KV kvs vs ∧ h.DictOf (mixKind P w) a vs := dk_rd ok (.inl e)
theorem key_of {ks : List Key} (ok : HOk P w H h) (e : H a = some (.tup (ks.map kV))) : (tupleKind (mixKind P w)).is h ks a := by
  obtain ⟨_, its, r, o, h1, h2, n, h3⟩ := (show ObjOk P w H h a (.tup (ks.map kV)) from ok a _ e)
  exact ⟨o, its.toArray, n, h1, h2, h3, by simpa using items_are r⟩
theorem dt_rd {kvs : List (List Key × V)} (ok : HOk P w H h) (e : Rd H a (.dT kvs)) : kvs.length ≤ sizeLine ∧ (a == sysModules) = false ∧
    ∃ xs, KT H kvs xs ∧ h.DictOfH (tupleKind (mixKind P w)) a xs := by
  obtain ⟨z, y, xs, r, o, es, ep, h1, h2, h3, h4, h5⟩ := (show ObjOk P w H h a (.dT kvs) from rd_of ok e)
  refine ⟨z, y, xs, r, o, es, ep, h1, h2, h3, h4, fun x hx => ?_, h5⟩
  have all : ∀ {l : List (List Key × V)} {m : List (List Key × Addr × Value)}, KT H l m → ∀ x ∈ m, (tupleKind (mixKind P w)).is h x.1 x.2.1 := by
    intro l m q
    induction q with
    | nil => intro x hx; exact nomatch hx
    | @cons p q ps qs hq t ih =>
      intro x hx
      rcases List.mem_cons.mp hx with e | hx
      · subst e
        exact key_of ok (by rw [← hq.1]; exact hq.2.1)
      · exact ih x hx
  exact all r x hx
theorem dt_of {kvs : List (List Key × V)} (ok : HOk P w H h) (e : H a = some (.dT kvs)) : kvs.length ≤ sizeLine ∧ (a == sysModules) = false ∧
    ∃ xs, KT H kvs xs ∧ h.DictOfH (tupleKind (mixKind P w)) a xs := dt_rd ok (.inl e)
end
def DGet (H : Hp) (a : Addr) (y : V) (r : Option V) : Prop :=
  (∃ kvs k, Rd H a (.dK kvs) ∧ y = kV k ∧ r = valV kvs k) ∨ ∃ kvs k b, Rd H a (.dT kvs) ∧ y = .ref b ∧ H b = some (.tup (k.map kV)) ∧ r = valV kvs k
def DPut (H : Hp) (a : Addr) (y v : V) (H' : Hp) : Prop :=
  (∃ kvs k, H a = some (.dK kvs) ∧ y = kV k ∧ kvs.length < sizeLine ∧ H' = upd H a (.dK (putK kvs k v))) ∨
  ∃ kvs k b, H a = some (.dT kvs) ∧ y = .ref b ∧ H b = some (.tup (k.map kV)) ∧ kvs.length < sizeLine ∧ H' = upd H a (.dT (putK kvs k v))
theorem DGet.k {H : Hp} {a : Addr} {kvs : List (Key × V)} {k : Key} (e : H a = some (.dK kvs)) : DGet H a (kV k) (valV kvs k) := .inl ⟨kvs, k, .inl e, rfl, rfl⟩
theorem DGet.t {H : Hp} {a b : Addr} {kvs : List (List Key × V)} {k : List Key} (e : H a = some (.dT kvs)) (eb : H b = some (.tup (k.map kV))) : DGet H a (.ref b) (valV kvs k) := .inr ⟨kvs, k, b, .inl e, rfl, eb, rfl⟩
theorem DPut.k {H : Hp} {a : Addr} {kvs : List (Key × V)} {k : Key} {v : V} (e : H a = some (.dK kvs)) (hl : kvs.length < sizeLine) : DPut H a (kV k) v (upd H a (.dK (putK kvs k v))) := .inl ⟨kvs, k, e, rfl, hl, rfl⟩
section
variable {X : Cx} {pins : List (Addr × Obj)} {σ : St} {H : Hp} {s : Shared} {a : Addr} {y v : V} {u r : Value} {o : Option V} {A : Around} {E : Value → Shared → Prop}
theorem Inv.big (I : Inv X pins σ H s) : sysModules < s.heap.objs.size := by
  have h : mainGlobals < s.heap.objs.size := (I.mod.glob.keeps I.bk).lt
  exact Nat.lt_trans (by decide) h
theorem d_getItem {Q : Value → Shared → Prop} (hu : A.units + 1 < cLine) (I : Inv X pins σ H s) (g : DGet H a y (some v)) (ry : RelV y u) (h : ∀ w' s', Inv X pins σ H s' → RelV v w' → Q w' s') :
    wpAny (model X.prog X.w) A (getItem (.ref a) u) Q E s := by
  rcases g with ⟨kvs, k, e, ey, l⟩ | ⟨kvs, k, b, e, ey, eb, l⟩
  · subst ey
    obtain ⟨z, hd, vs, rel, dd⟩ := dk_rd I.hok e
    obtain ⟨w', hw, rw'⟩ := RelO.some_of (v := v) (o := valueAt vs k) (by rw [l]; exact rel.val k)
    exact wpAny_getItem_of (kV_is ry) dd.mapOf hw (h w' _ (I.tok _) rw')
  · subst ey
    cases (show u = Value.ref b from ry)
    obtain ⟨z, hd, xs, rel, dd⟩ := dt_rd I.hok e
    obtain ⟨w', hw, rw'⟩ := RelO.some_of (v := v) (o := (atKey xs k).map (·.2)) (by rw [l]; exact rel.val k)
    obtain ⟨p, hp, hp2⟩ := Option.map_eq_some_iff.mp hw
    refine wpAny_getItem_heap (tupleKind_room_in1 hu) (key_of I.hok eb) dd hp ?_
    rw [hp2]
    exact h w' _ (I.tok _) rw'
theorem d_in {Q : Value → Shared → Prop} (hu : A.units + 1 < cLine) (I : Inv X pins σ H s) (g : DGet H a y o) (ry : RelV y u) (h : ∀ s', Inv X pins σ H s' → Q (.bool o.isSome) s') :
    wpAny (model X.prog X.w) A (compareOp .In u (.ref a)) Q E s := by
  rcases g with ⟨kvs, k, e, ey, l⟩ | ⟨kvs, k, b, e, ey, eb, l⟩
  · subst ey
    obtain ⟨z, hd, vs, rel, dd⟩ := dk_rd I.hok e
    refine wpAny_in_of (kV_is ry) hd dd.mapOf ?_
    rw [← (rel.val k).isSome_eq, ← l]
    exact h _ (I.tok _)
  · subst ey
    cases (show u = Value.ref b from ry)
    obtain ⟨z, hd, xs, rel, dd⟩ := dt_rd I.hok e
    refine wpAny_in_heap (tupleKind_room_in1 hu) (key_of I.hok eb) hd dd ?_
    have q := (rel.val k).isSome_eq
    rw [Option.isSome_map] at q
    rw [← q, ← l]
    exact h _ (I.tok _)
theorem d_write {h' : Heap} {t' : Nat} {ob : HO} (I : Inv X pins σ H s) (mu : Mut (H a)) (hs : Heap.SameBut a s.heap h') (he : ∃ q, h'.get? a = some q) (new : ObjOk X.prog X.w (upd H a ob) h' a ob) :
    Inv X pins σ (upd H a ob) { s with heap := h', toks := t' } :=
  I.write (x := a) (e := a) mu (.inl rfl) (fun b q hb z => (hs.2 b hb).trans z) he new
theorem dk_new {P : Program} {w : World} {H' : Hp} {h' : Heap} {kvs : List (Key × V)} {vs : List (Key × Value)} (z : kvs.length ≤ sizeLine) (hd : (a == sysModules) = false) (rel : KV kvs vs) (dd : h'.DictOf (mixKind P w) a vs) :
    ObjOk P w H' h' a (.dK kvs) := ⟨z, hd, vs, rel, dd⟩
theorem d_setItem {H' : Hp} {Q : Unit → Shared → Prop} (hu : A.units + 1 < cLine) (I : Inv X pins σ H s) (g : DPut H a y v H') (ry : RelV y u) (rv : RelV v r) (h : ∀ s', Inv X pins σ H' s' → Q () s') :
    wpAny (model X.prog X.w) A (setItem (.ref a) u r) Q E s := by
  rcases g with ⟨kvs, k, e, ey, l, eH⟩ | ⟨kvs, k, b, e, ey, eb, l, eH⟩
  · subst ey eH
    obtain ⟨z, hd, vs, rel, dd⟩ := dk_of I.hok e
    have hz : vs.length ≤ sizeLine := by rw [← rel.length]; exact z
    have hl : (putK kvs k v).length ≤ sizeLine := by have := length_putK kvs k v; omega
    refine wpAny_setItem_pairs (hsz := hz) (kV_is ry) dd fun h' dd' hs => h _ ?_
    have he : ∃ q, h'.get? a = some q := let ⟨q, _, _, hq, _⟩ := dd'; ⟨q, hq⟩
    exact d_write I (by rw [e]; exact True.intro) hs he (dk_new hl hd (rel.put k rv) dd')
  · subst ey eH
    cases (show u = Value.ref b from ry)
    obtain ⟨z, hd, xs, rel, dd⟩ := dt_of I.hok e
    have hz : xs.length ≤ sizeLine := by rw [← Paired.length rel]; exact z
    have hl : (putK kvs k v).length ≤ sizeLine := by have := length_putK kvs k v; omega
    refine wpAny_setItem_heap (hsz := hz) (tupleKind_room_in1 hu) (key_of I.hok eb) dd fun h' dd' hs => h _ ?_
    obtain ⟨q, es, ep, hq, h2, h3, h4, _, h5⟩ := dd'
    refine d_write I (by rw [e]; exact True.intro) hs ⟨q, hq⟩ ⟨hl, hd, _, (rel.put k eb rv).keeps fun c ys ec => ?_, q, es, ep, hq, h2, h3, h4, h5⟩
    rw [upd_ne (ne_of ec e (fun z => nomatch z))]
    exact ec
end
section
variable {X : Cx} {pins : List (Addr × Obj)} {σ : St} {H : Hp} {s : Shared} {a : Addr} {kvs : List (Key × V)} {k : Key} {u : Value} {A : Around} {E : Value → Shared → Prop}
end
def NoSl (i : Expr) : Prop := ∀ ov iv, subscripted i false ov iv = operate [ov, iv] (getItem ov iv)
theorem subD_of {prog : Program} {w : World} {A : Around} {E : Value → Shared → Prop} {s : Shared} {env : Env} {value slice : Expr} {pos : Pos} {T id : String} {Q : Value → Shared → Prop}
    (hl : typeLookup (.type T) "__getitem__" = pure (some (.builtin id))) (hs : NoSl slice)
    (h : wpAny (model prog w) A (eval value env) (fun o s₁ => wpAny (model prog w) A (eval slice env) (fun i s₂ => s₂.TypeIs o T ∧ wpAny (model prog w) A (getItem o i) Q E s₂) E s₁) E s) :
    wpAny (model prog w) A (eval (.Subscript value slice pos) env) Q E s := by
  refine Subscript_ (wpAny_mono h (fun o s₁ h₁ => wpAny_mono h₁ (fun i s₂ h₂ => ?_) fun _ _ x => x) fun _ _ x => x)
  obtain ⟨hT, h₂⟩ := h₂
  unfold subscriptTail
  refine wpAny_bind ?_
  rw [getitemInPython_of_ne hT.not_modules]
  refine wpAny_bind (wpAny_specialOf hT hl ?_)
  have fin : wpAny (model prog w) A (subscripted slice false o i) (fun r s₃ => wpAny (model prog w) A (letTemporaryGo value o r >>= fun _ => pure r) Q E s₃) E s₂ := by
    rw [hs o i]
    exact wpAny_operating (wpAny_mono h₂ (fun r s₃ h₃ => wpAny_bind (wpAny_letTemporaryGo (wpAny_pure h₃))) fun _ _ x => x)
  first
    | exact wpAny_pure (wpAny_bind fin)
    | exact wpAny_bind (wpAny_pure (wpAny_bind fin))
    | exact wpAny_bind fin
theorem dict_typeIs {X : Cx} {pins : List (Addr × Obj)} {σ : St} {H : Hp} {s : Shared} {a : Addr} {y : V} {o : Option V} (I : Inv X pins σ H s) (g : DGet H a y o) : s.TypeIs (.ref a) "dict" := by
  rcases g with ⟨kvs, k, e, _, _⟩ | ⟨kvs, k, b, e, _, _, _⟩
  · obtain ⟨_, _, vs, _, dd⟩ := dk_rd I.hok e
    exact dd.typeIs
  · obtain ⟨_, _, xs, _, dd⟩ := dt_rd I.hok e
    exact dd.typeIs
def tDGet (td ty : TE) : TE := fun σ H Q => td σ H fun x H1 => ty σ H1 fun y H2 => ∃ a v, x = .ref a ∧ DGet H2 a y (some v) ∧ Q v H2
def tDIn (ty td : TE) : TE := fun σ H Q => ty σ H fun y H1 => td σ H1 fun x H2 => ∃ a o, x = .ref a ∧ DGet H2 a y o ∧ Q (.bl o.isSome) H2
def sDPut (td ty tv : TE) : TS := fun D σ H => tv σ H fun v H1 => td σ H1 fun x H2 => ty σ H2 fun y H3 => ∃ a H4, x = .ref a ∧ DPut H3 a y v H4 ∧ D.nx σ H4
section
variable {X : Cx} {o i e value : Expr} {pos pos' tpos : Pos} {td ty tv : TE}
theorem pe_dget (hu : X.A.units + 1 < cLine) (ho : PE X o td) (hi : PE X i ty) (hs : NoSl i) : PE X (.Subscript o i pos) (tDGet td ty) := by
  intro pins s σ H Q I h
  refine subD_of PySem.F.slot_dict_getitem.lookup hs (thn (ho pins s σ H _ I h) fun u s1 ⟨x, H1, I1, rx, q1⟩ => thn (hi pins s1 σ H1 _ I1 q1) fun iv s2 ⟨y, H2, I2, ry, a, v, ex, g, q2⟩ => ?_)
  subst ex
  obtain rfl : u = Value.ref a := rx
  exact ⟨dict_typeIs I2 g, d_getItem hu I2 g ry fun w' s3 I3 rw' => ⟨v, H2, I3, rw', q2⟩⟩
theorem pc_din (hu : X.A.units + 1 < cLine) (hi : PE X i ty) (ho : PE X o td) : PC X .In i o (tDIn ty td) := by
  intro pins s σ H Q I h
  refine thn (hi pins s σ H _ I h) fun iv s1 ⟨y, H1, I1, ry, q1⟩ => thn (ho pins s1 σ H1 _ I1 q1) fun u s2 ⟨x, H2, I2, rx, a, ov, ex, g, q2⟩ => ?_
  subst ex
  obtain rfl : u = Value.ref a := rx
  exact d_in hu I2 g ry fun s3 I3 => ⟨.bl ov.isSome, H2, I3, rfl, q2⟩
theorem ps_dput (hu : X.A.units + 1 < cLine) (ho : PE X o td) (hi : PE X i ty) (hv : PE X value tv) (hs : swapsWith value (some (.Subscript o i pos')) pos.line X.env = pure false) :
    PS X (.Assign [.Subscript o i pos'] value pos) (sDPut td ty tv) := by
  intro pins s σ H D I h
  refine wpAny_Assign_Subscript (thn (hv pins s σ H _ I h) fun r s1 ⟨v, H1, I1, rv, q1⟩ => thn (ho pins s1 σ H1 _ I1 q1) fun u s2 ⟨x, H2, I2, rx, q2⟩ => thn (hi pins s2 σ H2 _ I2 q2) fun iv s3 ⟨y, H3, I3, ry, a, H4, ex, g, q3⟩ => ?_) hs
  subst ex
  obtain rfl : u = Value.ref a := rx
  exact d_setItem hu I3 g ry rv fun s4 I4 => ⟨σ, H4, I4, q3⟩
end
theorem dk_empty {P : Program} {w : World} {H : Hp} (h : Heap) (hb : sysModules < h.objs.size) : ObjOk P w H (h.push { cls := .type "dict", data := .dict #[] }) h.objs.size (.dK []) :=
  ⟨Nat.zero_le _, beq_eq_false_iff_ne.mpr (Ne.symm (Nat.ne_of_lt hb)), [], .nil, Heap.DictOf.new h⟩
def tDNewK : TE := fun _ H Q => ∀ p, H p = none → Q (.ref p) (upd H p (.dK []))
section
variable {X : Cx} {pos : Pos}
theorem pe_dnewK : PE X (.Dict [] [] pos) tDNewK := fun pins s σ H Q I h =>
  wpAny_Dict_empty ⟨.ref s.heap.objs.size, _, I.laid (a := s.heap.objs.size) (o := .dK []) (t' := s.toks) (fun _ _ q => Heap.get?_push_of_some _ q) (Nat.le_refl _) (dk_empty s.heap I.big), rfl, h _ (I.hok.fresh (Nat.le_refl _))⟩
end
end L2
namespace L2
open PySem PySem.Spec PyProof.Rows
section
variable {κ : Type} [DecidableEq κ]
theorem valV_in {kvs : List (κ × V)} {k : κ} {v : V} (h : valV kvs k = some v) : k ∈ kvs.map (·.1) := by
  have q : (kvs.any fun kv => decide (kv.1 = k)) = true := by
    rw [valV_any, h]
    all_goals rfl
  obtain ⟨p, hp, e⟩ := List.any_eq_true.mp q
  exact List.mem_map.mpr ⟨p, hp, of_decide_eq_true e⟩
end
end L2
set_option Elab.async false
set_option linter.all false
set_option maxRecDepth 100000
set_option maxHeartbeats 4000000
namespace L2
open PySem PySem.Spec PyProof.Rows
def Ite (K : PySem.W.Frag) (a : Addr) : It :=
  ⟨fun i H => ∃ xs x, SqL K H a xs ∧ xs[i]? = some x, fun i H v H' => ∃ x t, (∀ xs, SqL K H a xs → xs[i]? = some x) ∧ H t = none ∧ v = .ref t ∧ H' = upd H t (.tup [.int (i : Int), x]), fun i H => ∃ xs, SqL K H a xs ∧ xs.length ≤ i⟩
section
variable {X : Cx} {pins : List (Addr × Obj)} {σ : St} {H : Hp} {s : Shared}
theorem Inv.turn2 {t' : Nat} {e it a : Addr} {o : HO} {h' : Heap} (I : Inv X pins σ H s) (k : ∀ b o, b ≠ e → b ≠ it → s.heap.get? b = some o → h'.get? b = some o) (fe : FpOk X pins H e) (fi : FpOk X pins H it) (ha : s.heap.objs.size ≤ a)
    (new : ObjOk X.prog X.w (upd H a o) h' a o) : Inv X pins σ (upd H a o) { s with heap := h', toks := t' } := by
  have hn : H a = none := I.hok.fresh ha
  have ne1 : ∀ b u, H b = some u → b ≠ e := fun b u q z => by rw [z, fe.1] at q; cases q
  have ne2 : ∀ b u, H b = some u → b ≠ it := fun b u q z => by rw [z, fi.1] at q; cases q
  have mem : ∀ b, b ∉ [e, it] → b ≠ e ∧ b ≠ it := fun b hb => ⟨fun z => hb (by simp [z]), fun z => hb (by simp [z])⟩
  refine I.step (g' := s.gens) (d' := s.drawn) (ch := [e, it]) (fun b hb => ?_) (fun b o _ _ hc q _ => k b o (mem b hc).1 (mem b hc).2 q) (fun b o _ _ hc q _ => ⟨o.slots, k b o (mem b hc).1 (mem b hc).2 q⟩) (fun b o _ q n => ?_)
    (fun b o hc q => ⟨o, k b o (mem b hc).1 (mem b hc).2 q⟩) (fun b xs q => by rw [upd_ne (ne_of_none q hn)]; exact q) (fun b o u q => by rw [upd_ne (ne_of_none q hn)]; exact q) (fun b ps q => ⟨#[], by rw [upd_ne (ne_of_none q hn), q]; simp⟩) (fun m hm => ?_) (fun b u q => ?_) I.bare
  · rcases List.mem_cons.mp hb with z | z
    · subst z; exact ⟨fe.2.2.2.1, fe.2.1, fe.2.2.2.2.1, fe.2.2.2.2.2⟩
    · have z' := List.mem_singleton.mp z
      subst z'; exact ⟨fi.2.2.2.1, fi.2.1, fi.2.2.2.2.1, fi.2.2.2.2.2⟩
  · rw [upd_ne (adr_ne (Heap.lt_size q) ha)]; exact n
  · obtain ⟨ob, es, ep, ho, r⟩ := hm
    exact ⟨ob, es, ep, k _ ob (Ne.symm fe.2.1) (Ne.symm fi.2.1) ho, r⟩
  · by_cases hb : b = a
    · subst hb; rw [upd_same] at q; cases q; exact new
    · rw [upd_ne hb] at q
      refine (I.hok b u q).stay (fun c v hc z => k c v ?_ ?_ z) (fun c z => by rw [upd_ne (ne_of_none z hn)]; exact z) fun c xs z => by rw [upd_ne (ne_of_none z hn)]; exact z
      · rcases hc with z | z
        · rw [z]; exact ne1 b u q
        · exact ne1 c _ z
      · rcases hc with z | z
        · rw [z]; exact ne2 b u q
        · exact ne2 c _ z
end
theorem turn_enum {P : Program} {w : World} {K : PySem.W.Frag} {elts : List Expr} {kt : Nat} {tp : Pos} (a e it : Addr) (hne : e ≠ it) :
    Turn P w K (.Tuple elts kt tp) (Ite K a) [e, it] e (fun i h => (∃ old, IsEnum h e it (i : Int) old) ∧ h.IsListIter it a i) where
  mem := by simp
  obj := fun i h st b hb => by
    obtain ⟨⟨old, h1⟩, o2, h2, _, h3⟩ := st
    rcases List.mem_cons.mp hb with z | z
    · subst z
      exact ⟨_, h1, fun v z => by
        have z' : Data.fields _ = Data.cell v := z
        cases z'⟩
    · have z' := List.mem_singleton.mp z
      subst z'
      exact ⟨o2, h2, fun v z => by rw [h3] at z; cases z⟩
  keep := fun i h h' st k => by
    obtain ⟨⟨old, h1⟩, o2, h2, h3⟩ := st
    exact ⟨⟨old, k e (by simp) _ h1⟩, o2, k it (by simp) _ h2, h3⟩
  item := by
    intro X hP hw hK hc i pins s σ H E I hf st hg
    subst hP hw hK
    obtain ⟨⟨old, h1⟩, h2⟩ := st
    obtain ⟨xs, x, hq, hx⟩ := hg
    obtain ⟨its, r, pl, hz⟩ := I.list hq
    obtain ⟨u, hu, ru⟩ := r.get hx
    have fe := hf e (by simp)
    have fi := hf it (by simp)
    refine wpAny_pyNext_enum_item h1 h2 pl.isList (by rw [← Array.getElem?_toList]; exact hu) hne fun h' ho hit hT hsz kk => ?_
    have I1 : Inv X pins σ (upd H s.heap.objs.size (.tup [.int (i : Int), x])) { s with heap := h', toks := s.toks + 1 } := by
      refine I.turn2 (e := e) (it := it) kk fe fi (Nat.le_refl _) ⟨by show 2 ≤ sizeLine; decide, [.int (i : Int) s.toks, u], .cons ⟨_, rfl⟩ (.cons ru .nil), ?_⟩
      exact ⟨_, hT, rfl, 0, rfl⟩
    have hTe : s.heap.objs.size ≠ e := fun z => by
      have := Heap.lt_size h1
      exact adr_ne this (Nat.le_refl _) z.symm
    have hTi : s.heap.objs.size ≠ it := fun z => by
      obtain ⟨o2, h2', _⟩ := h2
      exact adr_ne (Heap.lt_size h2') (Nat.le_refl _) z.symm
    refine ⟨_, rfl, wpAny_letOwnedTupleGo_enum ho fun h'' he hs => ?_⟩
    have f0 : (upd H s.heap.objs.size (.tup [.int (i : Int), x])) e = none := by rw [upd_ne (Ne.symm hTe)]; exact fe.1
    have f1 : (upd H s.heap.objs.size (.tup [.int (i : Int), x])) it = none := by rw [upd_ne (Ne.symm hTi)]; exact fi.1
    have I2 := I1.turned (t' := s.toks + 1) (it := e) (h' := h'') (fun b o hb q => hs.extBut b o hb q) f0 fe.2.1 fe.2.2.2.1 fe.2.2.2.2.1 fe.2.2.2.2.2
    obtain ⟨o2, h2', h3'⟩ := hit
    refine ⟨.ref s.heap.objs.size, _, I2, rfl, ⟨x, s.heap.objs.size, fun ys hy => by rw [← I.list_inj hq hy]; exact hx, I.hok.fresh (Nat.le_refl _), rfl, rfl⟩, ⟨⟨_, by simpa using he⟩, o2, hs.extBut it o2 (Ne.symm hne) h2', h3'⟩, fun b hb => ?_⟩
    rcases List.mem_cons.mp hb with z | z
    · subst z; exact f0
    · have z' := List.mem_singleton.mp z
      subst z'; exact f1
  done := by
    intro X hP hw hK hc i pins s σ H E I hf st hg
    subst hP hw hK
    obtain ⟨⟨old, h1⟩, h2⟩ := st
    obtain ⟨xs, hq, hl⟩ := hg
    obtain ⟨its, r, pl, hz⟩ := I.list hq
    have fi := hf it (by simp)
    have hlen := r.length
    refine wpAny_pyNext_enum_end (I.ok.hd hc) h1 h2 pl.isList (by rw [← Array.getElem?_toList]; exact List.getElem?_eq_none (by simp only; omega)) fun h' eb => ?_
    exact ⟨rfl, I.turned (t' := s.toks) (fun b o hb e => eb b o hb e) fi.1 fi.2.1 fi.2.2.2.1 fi.2.2.2.2.1 fi.2.2.2.2.2⟩
  self := fun A i s Q E st h => by
    obtain ⟨⟨old, h1⟩, _⟩ := st
    exact wpAny_pyIter_enum h1 h
section
variable {X : Cx} {elts : List Expr} {kt : Nat} {tp : Pos}
def iEnum (K : PySem.W.Frag) (ta : TA) : TI := fun σ H R => ta σ H fun vs H1 => ∃ a, vs = [.ref a] ∧ (∃ xs, SqL K H1 a xs) ∧ R (Ite K a) H1
theorem pi_enum {l : Expr} {ta : TA} {p pos : Pos} (hg : Gl X "enumerate") (hm : X.mg "enumerate" = none) (ha : PA X [l] ta) (hs : starEach [l] X.env = [(false, eval l X.env)] := by rfl) : PI X (.Tuple elts kt tp) (.Call (.Name "enumerate" p) [l] [] pos) (iEnum X.K ta) := by
  intro pins s σ H R I h
  refine Call_ (ld_blt I hg hm boot_enumerate (PyProof.Rows.callWith_type1 (thn (ha pos pins s σ H _ I h) fun us s1 ⟨vs, H1, I1, r1, q1⟩ => ?_) hs rfl))
  obtain ⟨a, e, ⟨xs, hq⟩, q⟩ := q1
  subst e
  obtain ⟨u, rfl, ru⟩ := vals1 r1
  cases ru
  obtain ⟨its, rv, pl, hz⟩ := I1.list hq
  refine call_enumerate_list pl.isList fun h' he hit hsz k => ?_
  refine wpAny_pyIter_enum he ?_
  have I2 : Inv X pins σ H1 { s1 with heap := h' } := I1.kept (t' := s1.toks) k
  refine ⟨s1.heap.objs.size + 1, [s1.heap.objs.size + 1, s1.heap.objs.size], _, _, H1, rfl, I2, turn_enum a (s1.heap.objs.size + 1) s1.heap.objs.size (fun z => ?_), ⟨⟨_, he⟩, hit⟩, fun b hb => ?_, q⟩
  · exact absurd z (Nat.succ_ne_self _)
  · rcases List.mem_cons.mp hb with z | z
    · subst z; exact I1.fpOk (Nat.le_succ _) (I1.hok.fresh (Nat.le_succ _))
    · have z' := List.mem_singleton.mp z
      subst z'; exact I1.fpOk (Nat.le_refl _) (I1.hok.fresh (Nat.le_refl _))
end
end L2
set_option Elab.async false
set_option linter.all false
set_option maxRecDepth 100000
set_option maxHeartbeats 4000000
namespace L2
open PySem PySem.Spec PyProof.Rows
def CXE (P : Program) (w : World) : CXT := fun outer H s E e s' => ∃ (a : Addr) (C a0 : Value) (B : Heap) (H' : Hp),
  e = .ref a ∧ s'.os = s.os ∧ AllBare s'.gens ∧ Un (frs outer) [] H H' s.heap s'.heap ∧ HOk P w H' s'.heap ∧ Heap.FlyingW B outer a C a0 s'.heap ∧
  (∀ b o, s'.heap.get? b = some o → b ∉ frs outer → ((∃ u, s.heap.get? b = some u) ∨ ∃ u, H' b = some u) → B.get? b = some o) ∧ E C none H'
theorem ObjOk.there {P : Program} {w : World} {H : Hp} {h : Heap} {a : Addr} {o : HO} (x : ObjOk P w H h a o) : ∃ u, h.get? a = some u := by
  cases o with
  | lst xs => obtain ⟨_, _, _, _, e⟩ := x; exact ⟨_, e⟩
  | tup xs => obtain ⟨_, _, _, u, e, _⟩ := x; exact ⟨_, e⟩
  | dK kvs => obtain ⟨_, _, _, _, o, _, _, e, _⟩ := x; exact ⟨_, e⟩
  | dT kvs => obtain ⟨_, _, _, _, o, _, _, e, _⟩ := x; exact ⟨_, e⟩
  | set S n => obtain ⟨o, _, _, _, e, _⟩ := x; exact ⟨_, e⟩
  | ins C dx fs => obtain ⟨_, _, _, e, _⟩ := x; exact ⟨_, e⟩
  | own y => exact x
  | xd fs => obtain ⟨_, ⟨_, _, _, e, _⟩, _⟩ := x; exact ⟨_, e⟩
  | rng lo hi => obtain ⟨_, _, _, e⟩ := x; exact ⟨_, e⟩
  | frz ob u => obtain ⟨e, _⟩ := x; exact ⟨_, e⟩
  | tbl ps => exact ⟨_, x⟩
  | met f y => exact ⟨_, x⟩
  | ext φ => obtain ⟨_, e, _⟩ := x; exact e
section
variable {fs : List Addr} {H H' : Hp} {h h1 h2 : Heap} {P : Program} {w : World}
theorem Un.on (U : Un fs [] H H' h h1) (k : ∀ b o, h1.get? b = some o → b ∉ fs → (∃ u, h.get? b = some u) → h2.get? b = some o) (f : ∀ b o, h1.get? b = some o → b ∈ fs → ∃ sl, h2.get? b = some { o with slots := sl }) : Un fs [] H H' h h2 where
  keep := fun b o e n hb hx => k b o (U.keep b o e n hb hx) hb ⟨o, e⟩
  slot := fun b o e n hb hx => by
    obtain ⟨sl, e1⟩ := U.slot b o e n hb hx
    obtain ⟨sl', e2⟩ := f b _ e1 hb
    exact ⟨sl', e2⟩
  free := U.free
  there := fun b o e hx => by
    obtain ⟨o', e1⟩ := U.there b o e hx
    by_cases hb : b ∈ fs
    · obtain ⟨sl, e2⟩ := f b o' e1 hb
      exact ⟨_, e2⟩
    · exact ⟨o', k b o' e1 hb ⟨o, e⟩⟩
  tups := U.tups
  frzs := U.frzs
  tbls := U.tbls
theorem HOk.on (ok : HOk P w H h1) (k : ∀ b o u, h1.get? b = some o → H b = some u → h2.get? b = some o) : HOk P w H h2 := fun a o e =>
  (ok a o e).stay (fun b u hb q => by
    rcases hb with z | z
    · subst z; exact k _ u o q e
    · exact k b u _ q z) (fun _ q => q) fun _ _ q => q
end
section
variable {X : Cx} {pins : List (Addr × Obj)} {σ : St} {H : Hp} {s : Shared} {E : XK}
theorem mem_frs {l : List Env} {env : Env} {a : Addr} (h : env ∈ l) (e : env.frame = some a) : a ∈ frs l := List.mem_filterMap.mpr ⟨env, h, e⟩
theorem Inv.notStack (I : Inv X pins σ H s) {b : Addr} {o : Obj} (e : X.s₀.heap.get? b = some o) (hb : b ∉ X.fs) : b ∉ frs X.stack := fun z => by
  rcases List.mem_cons.mp (I.stkSub b z) with q | q
  · subst q
    exact absurd (Nat.lt_of_lt_of_le (Heap.lt_size e) I.ok.above) (Nat.lt_irrefl _)
  · exact hb q
theorem fly_out {H1 : Hp} {h1 : Heap} {s2 : Shared} {B : Heap} {a : Addr} {C a0 : Value} (I : Inv X pins σ H s) (U : Un X.fs [] X.H₀ H1 X.s₀.heap h1) (hok : HOk X.prog X.w H1 h1) (hfr : ∀ b ∈ frs X.stack, H1 b = none)
    (has : ∀ b o, h1.get? b = some o → b ∉ frs X.stack → ((∃ u, X.s₀.heap.get? b = some u) ∨ ∃ u, H1 b = some u) → B.get? b = some o)
    (ff : ∀ b ∈ X.fs, ∃ o, h1.get? b = some o ∧ ∀ vs, o.data ≠ .fields vs) (FL : Heap.FlyingW B X.outer a C a0 s2.heap) (up : h1.UpToSlots s2.heap) (os : s2.os = X.s₀.os) (gb : AllBare s2.gens) (hE : E C none H1) :
    CXE X.prog X.w X.outer X.H₀ X.s₀ E (.ref a) s2 := by
  have k1 : ∀ b o, h1.get? b = some o → b ∉ X.fs → (∃ u, X.s₀.heap.get? b = some u) → s2.heap.get? b = some o := fun b o e hb hu => by
    obtain ⟨u, hu⟩ := hu
    exact FL.1 b o (has b o e (I.notStack hu hb) (.inl ⟨u, hu⟩))
  have k2 : ∀ b o u, h1.get? b = some o → H1 b = some u → s2.heap.get? b = some o := fun b o u e hu =>
    FL.1 b o (has b o e (fun z => by rw [hfr b z] at hu; cases hu) (.inr ⟨u, hu⟩))
  have f1 : ∀ b o, h1.get? b = some o → b ∈ X.fs → ∃ sl, s2.heap.get? b = some { o with slots := sl } := fun b o e hb => by
    obtain ⟨o', e', d⟩ := ff b hb
    rw [e] at e'; cases e'
    exact up b o e d
  refine ⟨a, C, a0, B, H1, rfl, os, gb, U.on k1 f1, hok.on k2, FL, fun b o e hb hu => ?_, hE⟩
  rcases hu with ⟨u, hu⟩ | ⟨u, hu⟩
  · obtain ⟨o1, e1⟩ := U.there b u hu (by simp)
    have z := k1 b o1 e1 hb ⟨u, hu⟩
    rw [e] at z; cases z
    exact has b o e1 (I.notStack hu hb) (.inl ⟨u, hu⟩)
  · obtain ⟨o1, e1⟩ := (hok b u hu).there
    have z := k2 b o1 u e1 hu
    rw [e] at z; cases z
    exact has b o e1 (fun y => by rw [hfr b y] at hu; cases hu) (.inr ⟨u, hu⟩)
theorem Inv.noFields (I : Inv X pins σ H s) : ∀ b ∈ X.fs, ∃ o, s.heap.get? b = some o ∧ ∀ vs, o.data ≠ .fields vs := fun b hb => (I.funs.mem hb).2
theorem raise_out {h' : Heap} {e : Addr} {C : Value} {us : List Value} (I : Inv X pins σ H s) (hst : X.stack = X.env :: X.outer) (hex : X.ex = []) (hf : X.env.frame = some X.env.locals) (m : Heap.MadeExcOf s.heap h' e C us) (hE : E C none H)
    (hxe : ∀ e s', wpAny (model X.prog X.w) X.A (leaving X.env e) (fun _ s'' => CXE X.prog X.w X.outer X.H₀ X.s₀ E e s'') (fun e' s'' => CXE X.prog X.w X.outer X.H₀ X.s₀ E e' s'') s' → X.xe e s') : X.xe (.ref e) { s with heap := h' } := by
  apply hxe
  have hB : (PySem.W.hideAll s.heap (frs X.stack)).StaysIn s.heap := fun b o q => PySem.W.of_hideAll _ q
  have hl : s.heap.FunFrames (PySem.W.hideAll s.heap (frs X.stack)) X.stack := PySem.W.funFrames_hide I.stack fun env he a q => mem_frs he q
  rw [hst] at hl
  refine wpAny_leaves_madeW (s := { s with heap := h' }) (base := PySem.W.hideAll s.heap (frs X.stack)) (h := s.heap) (by rw [← hst]; exact I.ok.frames) hf hB (by rw [hst]; exact hl) m fun h'' t FL _ _ up => ?_
  have U : Un X.fs [] X.H₀ H X.s₀.heap s.heap := by have := I.base; rw [hex] at this; exact this
  exact fly_out I U I.hok I.stkFree (fun b o q hb _ => PySem.W.hideAll_get _ q hb) I.noFields FL ((Heap.UpToSlots.of_keeps m.keeps).trans up) I.os I.bare hE
theorem ps_raise {x : Str} {C : Addr} {bm : List Value} {B newId initId : String} {e₀ : Expr} {rest : List Expr} {ta : TA} {np cpos pos : Pos} (O : OwnCls x C bm newId X.mg X.base) (FB : ExcBaseFacts B newId initId bm) (hc : X.calm = true) (hg : Gl X x)
    (ha : PA X (e₀ :: rest) ta) (hst : X.stack = X.env :: X.outer) (hex : X.ex = []) (hf : X.env.frame = some X.env.locals)
    (hxe : ∀ e s', wpAny (model X.prog X.w) X.A (leaving X.env e) (fun _ s'' => CXE X.prog X.w X.outer X.H₀ X.s₀ E e s'') (fun e' s'' => CXE X.prog X.w X.outer X.H₀ X.s₀ E e' s'') s' → X.xe e s')
    (he : starEach (e₀ :: rest) X.env = (false, eval e₀ X.env) :: starEach rest X.env := by rfl) (hplain : (backTo cpos (starEach rest X.env)).any (·.1) = false := by rfl) (hd : (x == ("__debug__" : Str)) = false := by decide) :
    PS X (.Raise (some (.Call (.Name x np) (e₀ :: rest) [] cpos)) none pos) (fun _ σ H => ta σ H fun vs H1 => vs.length ≤ sizeLine ∧ E (.ref C) none H1) := by
  intro pins s σ H D I h
  obtain ⟨tl, N, nm, qn, bs, hdct, sn, sub, ab, col, dd, k0, k1, k2, k3, k5, mN, hC, hN, hni, T⟩ := O.obj
  have hA := ha cpos pins s σ H _ I h
  refine wpAny_Raise_call_subT (C := C) (nm := nm) (q := qn) (N := N) (bs := bs) (bm := tl) (hdct := hdct) (sn := sn) (sub := sub) (ab := ab) (col := col) (dd := dd) (k0 := k0) (k1 := k1) (k2 := k2) (k3 := k3) (k5 := k5)
    FB (mN := mN) (T.hasType FB.hasBase) (I.ok.hd hc) (by rw [he]; show (false || (backTo cpos (starEach rest X.env)).any (·.1)) = false; rw [hplain]; rfl) hni (ld_glob I hg O.bound ⟨rfl, ?_⟩ hd)
  rw [he] at hA ⊢
  refine Calls.evalArgs_plain (wpAny_mono hA (fun us s2 q => ?_) fun _ _ y => y)
  obtain ⟨vs, H2, I2, r2, hz, hE⟩ := q
  exact ⟨rfl, by rw [← r2.length]; exact hz, I2.bk _ _ hC, hN.keeps I2.bk, T.keeps I2.bk, fun h' e m => raise_out I2 hst hex hf m hE hxe⟩
theorem pass_on {E' : XK} (hst : X.stack = X.env :: X.outer) (hex : X.ex = []) (hf : X.env.frame = some X.env.locals) (hi : ∀ C o H, E' C o H → E C o H)
    (hxe : ∀ e s', wpAny (model X.prog X.w) X.A (leaving X.env e) (fun _ s'' => CXE X.prog X.w X.outer X.H₀ X.s₀ E e s'') (fun e' s'' => CXE X.prog X.w X.outer X.H₀ X.s₀ E e' s'') s' → X.xe e s') : Passes (CXE X.prog X.w) X E' := by
  intro pins σ H s e s' I c
  obtain ⟨a, C, a0, B, H', rfl, os, gb, U, hok, FL, has, hE⟩ := c
  apply hxe
  rw [hst] at FL
  refine wpAny_leaves_onW (s := s') (by rw [← hst]; exact I.ok.frames) hf FL fun h'' FL2 up => ?_
  have U0 : Un X.fs [] X.H₀ H X.s₀.heap s.heap := by have := I.base; rw [hex] at this; exact this
  have inS : ∀ b ∈ X.fs, b ∈ frs X.stack := fun b hb => by
    rw [hst]; unfold frs; rw [List.filterMap_cons, hf]; exact List.mem_cons_of_mem _ hb
  have U1 : Un X.fs [] X.H₀ H' X.s₀.heap s'.heap := by
    refine ⟨fun b o e n hb hx => ?_, fun b o e n hb hx => ?_, fun b o e n hx => ?_, fun b o e hx => ?_, fun b xs e => U.tups b xs (U0.tups b xs e), fun b o xs e => U.frzs b o xs (U0.frzs b o xs e), fun b ps e => ?_⟩
    · exact U.keep b o (U0.keep b o e n hb hx) (U0.free b o e n hx) (I.notStack e hb) (by simp)
    · obtain ⟨sl, e1⟩ := U0.slot b o e n hb hx
      obtain ⟨sl', e2⟩ := U.slot b _ e1 (U0.free b o e n hx) (inS b hb) (by simp)
      exact ⟨sl', e2⟩
    · obtain ⟨o', e1⟩ := U0.there b o e hx
      exact U.free b o' e1 (U0.free b o e n hx) (by simp)
    · obtain ⟨o', e1⟩ := U0.there b o e hx
      exact U.there b o' e1 (by simp)
    · obtain ⟨m1, e1⟩ := U0.tbls b ps e
      obtain ⟨m2, e2⟩ := U.tbls b _ e1
      exact ⟨m1 ++ m2, by rw [e2, Array.append_assoc]⟩
  have hfr : ∀ b ∈ frs X.stack, H' b = none := fun b hb => by
    obtain ⟨_, o, ho, _⟩ := I.stack.mem hb
    exact U.free b o ho (I.stkFree b hb) (by simp)
  refine fly_out I U1 hok hfr (fun b o q hb hu => has b o q hb ?_) (fun b hb => ?_) FL2 up (os.trans I.os) gb (hi _ _ _ hE)
  · rcases hu with ⟨u, hu⟩ | hu
    · obtain ⟨o', e1⟩ := U0.there b u hu (by simp)
      exact .inl ⟨o', e1⟩
    · exact .inr hu
  · have FF := FL.2.2.1
    rw [← hst] at FF
    exact (FF.mem (inS b hb)).2
abbrev Cx.catching (X : Cx) (ps : List (Addr × Obj)) (E : XK) : Cx := { X with pn := X.pn ++ ps, xe := fun e s' => ∃ pins σ H s, Inv { X with pn := X.pn ++ ps, xe := fun _ _ => False } pins σ H s ∧ CXE X.prog X.w X.stack H s E e s' }
theorem pass_catch {ps : List (Addr × Obj)} : Passes (CXE X.prog X.w) (X.catching ps E) E := fun pins σ H s e s' I c => ⟨pins, σ, H, s, I.wish _, c⟩
abbrev Cx.handling (X : Cx) (v : Option Value) : Cx := { X with A := X.A.mark v, calm := false }
theorem Cx.Ok.handling {v : Option Value} (ok : X.Ok) : (X.handling v).Ok :=
  ⟨ok.mod, ok.kind, ok.glob, ok.blt, ok.above, ok.inj, ok.has, ok.cab, (fun z => by cases z), ok.frames, ok.stk, ok.exf, ok.bs, ok.bsz, ok.noex, ok.exfs, ok.funs, ok.frf⟩
theorem Inv.handling (I : Inv X pins σ H s) (v : Option Value) : Inv (X.handling v) pins σ H s := ⟨I.ok.handling, I.os, I.bare, I.base, I.loc, I.cell, I.free, I.freeC, I.pin, I.hok, I.len⟩
theorem Inv.calmed {v : Option Value} (ok : X.Ok) (I : Inv (X.handling v) pins σ H s) : Inv X pins σ H s := ⟨ok, I.os, I.bare, I.base, I.loc, I.cell, I.free, I.freeC, I.pin, I.hok, I.len⟩
theorem Cx.Ok.pinned {ps : List (Addr × Obj)} {E' : Value → Shared → Prop} (ok : X.Ok) : ({ X with pn := X.pn ++ ps, xe := E' } : Cx).Ok :=
  ⟨ok.mod, ok.kind, ok.glob, ok.blt, ok.above, ok.inj, ok.has, ok.cab, ok.hd, ok.frames, ok.stk, ok.exf, ok.bs, ok.bsz, ok.noex, ok.exfs, ok.funs, ok.frf⟩
theorem Inv.pinIn {E' : Value → Shared → Prop} (I : Inv X pins σ H s) : Inv { X with pn := X.pn ++ pins, xe := E' } [] σ H s :=
  ⟨I.ok.pinned, I.os, I.bare, I.base, I.loc, I.cell, I.free, I.freeC, fun p hp => I.pin p (by simpa using hp), I.hok, I.len⟩
theorem Inv.pinOut {ps qs : List (Addr × Obj)} {E' : Value → Shared → Prop} (ok : X.Ok) (I : Inv { X with pn := X.pn ++ ps, xe := E' } qs σ H s) : Inv X ps σ H s :=
  ⟨ok, I.os, I.bare, I.base, I.loc, I.cell, I.free, I.freeC, fun p hp => I.pin p (List.mem_append_left _ hp), I.hok, I.len⟩
theorem SP.pinOut {ps : List (Addr × Obj)} {E' : Value → Shared → Prop} {D : Ends} {f : Flow} {s' : Shared} (ok : X.Ok) (h : SP { X with pn := X.pn ++ ps, xe := E' } [] D f s') : SP X ps D f s' := by
  cases f with
  | next => obtain ⟨σ', H', I, q⟩ := h; exact ⟨σ', H', I.pinOut ok, q⟩
  | brk => obtain ⟨σ', H', I, q⟩ := h; exact ⟨σ', H', I.pinOut ok, q⟩
  | cont => obtain ⟨σ', H', I, q⟩ := h; exact ⟨σ', H', I.pinOut ok, q⟩
  | ret u => obtain ⟨v, σ', H', I, r, q⟩ := h; exact ⟨v, σ', H', I.pinOut ok, r, q⟩
theorem SP.calmed {v : Option Value} {D : Ends} {f : Flow} {s' : Shared} (ok : X.Ok) (h : SP (X.handling v) pins D f s') : SP X pins D f s' := by
  cases f with
  | next => obtain ⟨σ', H', I, q⟩ := h; exact ⟨σ', H', I.calmed ok, q⟩
  | brk => obtain ⟨σ', H', I, q⟩ := h; exact ⟨σ', H', I.calmed ok, q⟩
  | cont => obtain ⟨σ', H', I, q⟩ := h; exact ⟨σ', H', I.calmed ok, q⟩
  | ret u => obtain ⟨y, σ', H', I, r, q⟩ := h; exact ⟨y, σ', H', I.calmed ok, r, q⟩
theorem caught_inv {ps pins1 : List (Addr × Obj)} {σ1 : St} {H1 H' : Hp} {sc s1 : Shared} {h5 B : Heap} {E' : Value → Shared → Prop} (ok : X.Ok) (I1 : Inv { X with pn := X.pn ++ ps, xe := E' } pins1 σ1 H1 sc) (os : s1.os = sc.os) (gb : AllBare s1.gens)
    (U : Un (frs X.stack) [] H1 H' sc.heap s1.heap) (hok : HOk X.prog X.w H' s1.heap) (hF : s1.heap.FunFrames B X.stack) (has : ∀ b o, s1.heap.get? b = some o → b ∉ frs X.stack → ((∃ u, sc.heap.get? b = some u) ∨ ∃ u, H' b = some u) → B.get? b = some o)
    (hB : B.StaysIn h5) (up : s1.heap.UpToSlots h5) : Inv X ps σ1 H' { s1 with heap := h5 } := by
  have hfr : ∀ b ∈ frs X.stack, H' b = none := fun b hb => by
    obtain ⟨_, o, ho, _⟩ := I1.stack.mem hb
    exact U.free b o ho (I1.stkFree b hb) (by simp)
  have U5 : Un (frs X.stack) [] H1 H' sc.heap h5 := U.on (fun b o e hb hu => hB b o (has b o e hb (.inl hu))) fun b o e hb => by
    obtain ⟨_, o', e', d⟩ := hF.mem hb
    rw [e] at e'; cases e'
    exact up b o e d
  have ok5 : HOk X.prog X.w H' h5 := hok.on fun b o u e hu => hB b o (has b o e (fun z => by rw [hfr b z] at hu; cases hu) (.inr ⟨u, hu⟩))
  have I2 : Inv { X with pn := X.pn ++ ps, xe := E' } pins1 σ1 H' { s1 with heap := h5 } := I1.call' (s' := { s1 with heap := h5 }) (ch := []) os U5 ok5 gb fun _ z => nomatch z
  exact I2.pinOut ok
end
end L2
set_option Elab.async false
set_option linter.all false
set_option maxRecDepth 100000
set_option maxHeartbeats 4000000
namespace L2
open PySem PySem.Spec PyProof.Rows
section
variable {X : Cx} {CX : CXT} {k : Nat} {f C : Addr} {fd : FuncData} {ps : List Str} {sp : Sp} {E : XK} {x : Str} {p pos : Pos} {e : Expr} {es : List Expr} {t : TA} {σ0 : St}
end
section
variable {X : Cx} {pins : List (Addr × Obj)} {σ : St} {H : Hp} {s : Shared}
end
end L2
set_option Elab.async false
set_option linter.all false
set_option maxRecDepth 100000
set_option maxHeartbeats 4000000
namespace L2
open PySem PySem.Spec PyProof.Rows
section
variable {X : Cx}
theorem args_one {e : Expr} {pos : Pos} {Q : List Value → Shared → Prop} {s : Shared} {E : Value → Shared → Prop} (hs : starEach [e] X.env = [(false, eval e X.env)]) (h : wpAny (model X.prog X.w) X.A (eval e X.env) (fun u s1 => Q [u] s1) E s) :
    wpAny (model X.prog X.w) X.A (spliced (backTo pos (starEach [e] X.env))) Q E s := by
  rw [hs]
  show wpAny _ _ (spliced ((false, eval e X.env) :: backTo pos [])) _ _ s
  exact Calls.spliced_cons (thn h fun u s1 q => Calls.spliced_nil q)
end
end L2
set_option Elab.async false
set_option linter.all false
set_option maxRecDepth 100000
set_option maxHeartbeats 4000000
namespace PySem
open Sem (wp)
abbrev IsZipG (h : Heap) (qz ti to : Addr) (f0 : Value) (b : Bool) : Prop :=
  h.get? qz = some { cls := .type "zip", dict := none, data := .fields #[f0, .bool b, .bool false, .ref ti, .ref to], slots := #[] }
section
variable {prog : Program} {w : World} {A : Around} {E : Value → Shared → Prop} {st : Shared}
theorem wpAny_alive {a : Addr} {Q : Option Obj → Shared → Prop} (h : Q (st.heap.get? a) st) : wpAny (model prog w) A (loadIfAlive a) Q E st := by
  intro Γ p hΓ
  exact h
theorem free_no {qz ti to T : Addr} {b : Bool} {oT : Obj} {Q : Bool → Shared → Prop} (hq : IsZipG st.heap qz ti to (rawInt (T : Nat)) b) (hT : st.heap.get? T = some oT)
    (hQ : ∀ h', IsZipG h' qz ti to (rawInt (T : Nat)) true → Heap.SameBut qz st.heap h' → Q false { st with heap := h' }) : wpAny (model prog w) A (Builtin.SmallTypes.ownedTupleIsFree (.ref qz)) Q E st := by
  unfold Builtin.SmallTypes.ownedTupleIsFree
  refine wpAny_bind (wpAny_field hq rfl (x := rawInt (T : Nat)) rfl ?_)
  show wpAny _ _ (loadIfAlive ((T : Nat) : Int).toNat >>= _) _ _ _
  refine wpAny_bind (wpAny_alive ?_)
  rw [Int.toNat_natCast, hT]
  simp only [Option.isNone_some, Bool.false_eq_true, if_false]
  refine wpAny_bind (wpAny_field hq rfl (x := .bool b) rfl ?_)
  cases b with
  | true =>
    show wpAny _ _ (pure false) _ _ _
    exact wpAny_pure (hQ st.heap hq (Heap.SameBut.refl _ _))
  | false =>
    show wpAny _ _ (setField (.ref qz) 1 (.bool true) >>= _) _ _ _
    exact wpAny_bind (wpAny_setField_rec hq (by simp) fun g₁ hq₁ gs₁ => wpAny_pure (hQ g₁ hq₁ gs₁))
end
end PySem
set_option Elab.async false
set_option linter.all false
set_option maxRecDepth 100000
set_option maxHeartbeats 4000000
namespace PySem
open Sem (wp)
section
variable {prog : Program} {w : World} {A : Around} {E : Value → Shared → Prop} {st : Shared}
theorem zip_next_item2 {qz ti to T j1 j2 l1 l2 : Addr} {bz : Bool} {oT : Obj} {n1 n2 : Nat} {xs ys : Array Value} {x y a b : Value} {Q : Value → Shared → Prop} (D : ZipApart qz ti to j1 j2 l1 l2)
    (hq : IsZipG st.heap qz ti to (rawInt (T : Nat)) bz) (hT : st.heap.get? T = some oT) (hTz : T ≠ qz) (hTi1 : T ≠ j1) (hTi2 : T ≠ j2) (hti : IsPair st.heap ti (.ref j1) (.ref j2))
    (h1 : st.heap.IsListIter j1 l1 n1) (h2 : st.heap.IsListIter j2 l2 n2) (hk1 : st.heap.IsList l1 xs) (hk2 : st.heap.IsList l2 ys) (hx : xs[n1]? = some x) (hy : ys[n2]? = some y)
    (hQ : ∀ h', IsZipG h' qz ti to (rawInt (T : Nat)) true → h'.IsListIter j1 l1 (n1 + 1) → h'.IsListIter j2 l2 (n2 + 1) → IsPair h' st.heap.objs.size x y → h'.objs.size = st.heap.objs.size + 1 →
      (∀ c o, c ≠ qz → c ≠ j1 → c ≠ j2 → st.heap.get? c = some o → h'.get? c = some o) → Q (.ref st.heap.objs.size) { st with heap := h' }) :
    wpAny (model prog w) A (Builtin.«zip.__next__» ⟨[.ref qz], []⟩) (fun fin s' => ∃ v, fin = .done (.ret v) ∧ Q v s') E st := by
  show wpAny _ _ (field (.ref qz) 2 >>= _) _ _ _
  refine wpAny_bind (wpAny_field hq rfl (x := .bool false) rfl ?_)
  show wpAny _ _ (field (.ref qz) 3 >>= _) _ _ _
  refine wpAny_bind (wpAny_field hq rfl (x := .ref ti) rfl ?_)
  refine wpAny_bind (wpAny_seqItems hti rfl ?_)
  show wpAny _ _ (Builtin.SmallTypes.ownedTupleIsFree (.ref qz) >>= _) _ _ _
  refine wpAny_bind (free_no hq hT fun g₁ hq₁ gs₁ => ?_)
  simp only [Bool.false_eq_true, if_false]
  refine wpAny_bind ?_
  rw [← Array.forIn_toList]
  simp only [List.forIn_cons, List.forIn_nil]
  refine wpAny_bind (wpAny_bind (wpAny_holding ?_))
  show wpAny _ _ (Builtin.SmallTypes.nextOf (.ref j1) >>= _) _ _ _
  refine wpAny_bind (wpAny_nextOf_list_item (h1.extBut gs₁.extBut D.i1z) (hk1.extBut gs₁.extBut D.l1z) hx fun g₂ h1₂ gs₂ => wpAny_pure ?_)
  refine wpAny_pure ?_
  refine wpAny_bind (wpAny_bind (wpAny_holding ?_))
  show wpAny _ _ (Builtin.SmallTypes.nextOf (.ref j2) >>= _) _ _ _
  refine wpAny_bind (wpAny_nextOf_list_item ((h2.extBut gs₁.extBut D.i2z).extBut gs₂.extBut D.i12.symm) ((hk2.extBut gs₁.extBut D.l2z).extBut gs₂.extBut D.l2i1) hy fun g₃ h2₃ gs₃ => wpAny_pure ?_)
  refine wpAny_pure ?_
  refine wpAny_pure ?_
  refine wpAny_bind (wpAny_newTuple (hsz := (by decide : 2 ≤ sizeLine)) ?_)
  have hsz : g₃.objs.size = st.heap.objs.size := by rw [gs₃.1, gs₂.1, gs₁.1]
  have up : ∀ c o, c ≠ qz → c ≠ j1 → c ≠ j2 → st.heap.get? c = some o → (g₃.push { cls := .type "tuple", data := .seq #[x, y] }).get? c = some o := fun c o c1 c2 c3 e =>
    Heap.get?_push_of_some _ (gs₃.extBut _ _ c3 (gs₂.extBut _ _ c2 (gs₁.extBut _ _ c1 e)))
  refine wpAny_pure ⟨_, rfl, ?_⟩
  have hq₃ : IsZipG g₃ qz ti to (rawInt (T : Nat)) true := gs₃.extBut _ _ D.i2z.symm (gs₂.extBut _ _ D.i1z.symm hq₁)
  have h1₃ : g₃.IsListIter j1 l1 (n1 + 1) := h1₂.extBut gs₃.extBut D.i12
  have hp : IsPair (g₃.push { cls := .type "tuple", data := .seq #[x, y] }) g₃.objs.size x y := Heap.get?_push_size _ rfl
  rw [hsz] at hp
  show Q (.ref g₃.objs.size) { st with heap := g₃.push { cls := .type "tuple", data := .seq #[x, y] } }
  rw [hsz]
  exact hQ _ (Heap.get?_push_of_some _ hq₃) (h1₃.at fun o e => Heap.get?_push_of_some _ e) (h2₃.at fun o e => Heap.get?_push_of_some _ e) hp (by rw [Heap.size_push, hsz]) up
theorem zip_next_end2 {qz ti to T j1 j2 l1 l2 : Addr} {bz : Bool} {oT : Obj} {n1 n2 : Nat} {xs ys : Array Value} {Q : Fin → Shared → Prop} (hh : A.handled = none) (D : ZipApart qz ti to j1 j2 l1 l2)
    (hq : IsZipG st.heap qz ti to (rawInt (T : Nat)) bz) (hT : st.heap.get? T = some oT) (hti : IsPair st.heap ti (.ref j1) (.ref j2))
    (h1 : st.heap.IsListIter j1 l1 n1) (hk1 : st.heap.IsList l1 xs) (hend : xs[n1]? = none)
    (hE : ∀ h' e, (∀ c o, c ≠ qz → c ≠ j1 → c ≠ j2 → st.heap.get? c = some o → h'.get? c = some o) → (∃ o, h'.get? e = some o ∧ o.cls = .type "StopIteration") → E (.ref e) { st with heap := h' }) :
    wpAny (model prog w) A (Builtin.«zip.__next__» ⟨[.ref qz], []⟩) Q E st := by
  show wpAny _ _ (field (.ref qz) 2 >>= _) _ _ _
  refine wpAny_bind (wpAny_field hq rfl (x := .bool false) rfl ?_)
  show wpAny _ _ (field (.ref qz) 3 >>= _) _ _ _
  refine wpAny_bind (wpAny_field hq rfl (x := .ref ti) rfl ?_)
  refine wpAny_bind (wpAny_seqItems hti rfl ?_)
  show wpAny _ _ (Builtin.SmallTypes.ownedTupleIsFree (.ref qz) >>= _) _ _ _
  refine wpAny_bind (free_no hq hT fun g₁ hq₁ gs₁ => ?_)
  simp only [Bool.false_eq_true, if_false]
  refine wpAny_bind ?_
  rw [← Array.forIn_toList]
  simp only [List.forIn_cons, List.forIn_nil]
  refine wpAny_bind (wpAny_bind (wpAny_holding ?_))
  show wpAny _ _ (Builtin.SmallTypes.nextOf (.ref j1) >>= _) _ _ _
  exact wpAny_bind (wpAny_nextOf_list_end hh (h1.extBut gs₁.extBut D.i1z) (hk1.extBut gs₁.extBut D.l1z) hend fun g₂ e gs₂ he => hE g₂ e (fun c o c1 c2 _ x => gs₂ _ _ c2 (gs₁.extBut _ _ c1 x)) he)
theorem pyNext_zip_item2 {qz ti to T j1 j2 l1 l2 : Addr} {bz : Bool} {oT : Obj} {n1 n2 : Nat} {xs ys : Array Value} {x y : Value} {Q : Option Value → Shared → Prop} (D : ZipApart qz ti to j1 j2 l1 l2)
    (hq : IsZipG st.heap qz ti to (rawInt (T : Nat)) bz) (hT : st.heap.get? T = some oT) (hTz : T ≠ qz) (hTi1 : T ≠ j1) (hTi2 : T ≠ j2) (hti : IsPair st.heap ti (.ref j1) (.ref j2))
    (h1 : st.heap.IsListIter j1 l1 n1) (h2 : st.heap.IsListIter j2 l2 n2) (hk1 : st.heap.IsList l1 xs) (hk2 : st.heap.IsList l2 ys) (hx : xs[n1]? = some x) (hy : ys[n2]? = some y)
    (hQ : ∀ h', IsZipG h' qz ti to (rawInt (T : Nat)) true → h'.IsListIter j1 l1 (n1 + 1) → h'.IsListIter j2 l2 (n2 + 1) → IsPair h' st.heap.objs.size x y → h'.objs.size = st.heap.objs.size + 1 →
      (∀ c o, c ≠ qz → c ≠ j1 → c ≠ j2 → st.heap.get? c = some o → h'.get? c = some o) → Q (some (.ref st.heap.objs.size)) { st with heap := h' }) :
    wpAny (model prog w) A (pyNext (.ref qz)) Q E st := by
  have hTy : st.TypeIs (.ref qz) "zip" := ⟨_, hq, rfl⟩
  unfold pyNext
  exact wpAny_bind (wpAny_attempt (wpAny_callSpecial?_slot (name := Str.ofString "__next__") hTy F.slot_zip_next
    (wpAny_call_entry F.slot_zip_next hTy F.entry_zip_next
      (zip_next_item2 (a := .none) (b := .none) D hq hT hTz hTi1 hTi2 hti h1 h2 hk1 hk2 hx hy fun h' a1 a2 a3 a4 a5 a6 => wpAny_pure (hQ h' a1 a2 a3 a4 a5 a6)) (F.args_zip_next_1 _))))
theorem pyNext_zip_end2 {qz ti to T j1 j2 l1 l2 : Addr} {bz : Bool} {oT : Obj} {n1 : Nat} {xs : Array Value} {Q : Option Value → Shared → Prop} (hh : A.handled = none) (D : ZipApart qz ti to j1 j2 l1 l2)
    (hq : IsZipG st.heap qz ti to (rawInt (T : Nat)) bz) (hT : st.heap.get? T = some oT) (hti : IsPair st.heap ti (.ref j1) (.ref j2))
    (h1 : st.heap.IsListIter j1 l1 n1) (hk1 : st.heap.IsList l1 xs) (hend : xs[n1]? = none)
    (hQ : ∀ h', (∀ c o, c ≠ qz → c ≠ j1 → c ≠ j2 → st.heap.get? c = some o → h'.get? c = some o) → Q none { st with heap := h' }) : wpAny (model prog w) A (pyNext (.ref qz)) Q E st := by
  have hTy : st.TypeIs (.ref qz) "zip" := ⟨_, hq, rfl⟩
  unfold pyNext
  refine wpAny_bind (wpAny_attempt (wpAny_callSpecial?_slot (name := Str.ofString "__next__") hTy F.slot_zip_next
    (wpAny_call_entry F.slot_zip_next hTy F.entry_zip_next (zip_next_end2 (ys := #[]) (n2 := 0) hh D hq hT hti h1 hk1 hend fun h' e hk he => ?_) (F.args_zip_next_1 _))))
  obtain ⟨o, ho, hc⟩ := he
  refine wpAny_bind (wpAny_isInstance (T := "StopIteration") (b := true) ⟨o, ho, hc⟩ isSubtype_stop ?_)
  exact wpAny_pure (hQ _ hk)
end
end PySem
set_option Elab.async false
set_option linter.all false
set_option maxRecDepth 100000
set_option maxHeartbeats 4000000
namespace PySem
open Sem (wp)
theorem zq_no_hook : typeLookup (.type "zip") "__getattr__" = pure none := by rw [typeLookup_type, builtinLookup_eq_fast]; kernel_rfl
theorem zq_no_keys : typeLookup (.type "zip") "keys" = pure none := by rw [typeLookup_type, builtinLookup_eq_fast]; kernel_rfl
theorem zq_entry : entryFor table "zip.__getattribute__" = some Builtin.«object.__getattribute__» := entryFor_alias (id' := "object.__getattribute__") (by kernel_rfl) (by decide +kernel) (by decide +kernel) (by kernel_rfl)
theorem zq_miss (q : Addr) (fs : Array Value) (tk0 : Tok) :
    Meets (Builtin.«object.__getattribute__» ⟨[.ref q, .str "keys" tk0], []⟩) (fun A R s => s.heap.get? q = some { cls := .type "zip", dict := none, data := .fields fs, slots := #[] } ∧ raisesAttr (.ref q) "keys" A R s) :=
  Meets.of_wp fun prog w A R st hs => by
    obtain ⟨hp, gg, dd, tt, oo⟩ := st
    obtain ⟨hq, hs⟩ := hs
    have hTy : (⟨hp, gg, dd, tt, oo⟩ : Shared).TypeIs (.ref q) "zip" := ⟨_, hq, rfl⟩
    have f0 := zq_no_keys
    unfold Builtin.«object.__getattribute__»
    repeat (any_goals (first | assumption | wp_step))
    exact wpAny_raiseAttrError hs.1 hs.2 (attrMsg_fits (by decide +kernel) (by decide +kernel))
theorem zip_no_keys {prog : Program} {w : World} {A : Around} {E : Value → Shared → Prop} {st : Shared} {q : Addr} {fs : Array Value} {Q : Option Value → Shared → Prop}
    (hq : st.heap.get? q = some { cls := .type "zip", dict := none, data := .fields fs, slots := #[] }) (hA : A.handled = none)
    (h : ∀ h' tk, (∀ c o, st.heap.get? c = some o → h'.get? c = some o) → Q none { st with heap := h', toks := tk }) : wpAny (model prog w) A (getAttr? (.ref q) "keys") Q E st := by
  obtain ⟨hp, gg, dd, tt, oo⟩ := st
  have hTy : ∀ t', (⟨hp, gg, dd, t', oo⟩ : Shared).TypeIs (.ref q) "zip" := fun _ => ⟨_, hq, rfl⟩
  have f1 := sub_AttributeError
  have f3 := F.slot_zip_getattribute.lookup
  have f4 := F.slot_zip_getattribute.bind (.ref q)
  have f5 := zq_no_hook
  unfold getAttr? getAttrBy? getAttrBy
  repeat (any_goals (first | assumption | exact hTy _ | ((with_reducible show wpAny _ _ (call (Value.builtin "zip.__getattribute__") _ _) _ _ _); refine call_meets F.slot_zip_getattribute (hTy _) zq_entry (F.args_zip_getattribute_2 _ _) (zq_miss q fs _) ⟨hq, hA, fun h' tk' e hx' => ?_⟩) | wp_step))
  obtain ⟨t1, u1, he1⟩ := hx'.there
  show wpAny _ _ (getattributeRaised _ _ _ _ _ _ _) _ _ _
  unfold getattributeRaised
  repeat (any_goals (first | assumption | wp_step))
  exact h _ _ hx'.keeps
end PySem
set_option Elab.async false
set_option linter.all false
set_option maxRecDepth 100000
set_option maxHeartbeats 4000000
namespace PySem
open Sem (wp)
theorem zq_plain_loop : plainId "dict.update.loop" = true := by decide +kernel
theorem zq_entry_loop : entryFor table "dict.update.loop" = some Builtin.«dict.update.loop» := entryFor_of_fast (by kernel_rfl)
section
variable {prog : Program} {w : World} {K : Type} [DecidableEq K] {kk : KeyKind prog w K}
theorem dict_stay {h h' : Heap} {d : Addr} {xs : List (List K × Addr × Value)} (D : h.DictOfH (tupleKind kk) d xs) (hd : ∀ o, h.get? d = some o → h'.get? d = some o) (hk : ∀ x ∈ xs, (tupleKind kk).is h' x.1 x.2.1) : h'.DictOfH (tupleKind kk) d xs := by
  obtain ⟨o, es, ep, h1, h2, h3, h4, _, h5⟩ := D
  exact ⟨o, es, ep, hd o h1, h2, h3, h4, hk, h5⟩
theorem key_stay {h h' : Heap} {ks : List K} {a : Addr} (g : (tupleKind kk).is h ks a) (hk : ∀ o, h.get? a = some o → h'.get? a = some o) : (tupleKind kk).is h' ks a := by
  obtain ⟨o, its, n, h1, r⟩ := g
  exact ⟨o, its, n, hk o h1, r⟩
structure DzAt (kk : KeyKind prog w K) (h0 : Heap) (d q ti to i1 i2 l1 l2 : Addr) (ps : List (List K × Addr × Value)) (i : Nat) (h : Heap) : Prop where
  dd : h.DictOfH (tupleKind kk) d (ps.take i)
  zz : (i = 0 ∧ IsZip h q ti to .none) ∨ ∃ (t : Addr) (b : Bool) (ot : Obj), IsZipG h q ti to (rawInt (t : Nat)) b ∧ h.get? t = some ot ∧ t ≠ q ∧ t ≠ i1 ∧ t ≠ i2 ∧ t ≠ d
  pt : IsPair h ti (.ref i1) (.ref i2)
  po : ∃ a b, IsPair h to a b
  j1 : h.IsListIter i1 l1 i
  j2 : h.IsListIter i2 l2 i
  m1 : h.IsList l1 (ps.map fun p => Value.ref p.2.1).toArray
  m2 : h.IsList l2 (ps.map fun p => p.2.2).toArray
  kp : ∀ c o, h0.get? c = some o → h.get? c = some o
structure DzOk (kk : KeyKind prog w K) (h0 : Heap) (d q ti to i1 i2 l1 l2 : Addr) (ps : List (List K × Addr × Value)) : Prop where
  ap : ZipApart q ti to i1 i2 l1 l2
  dq : d ≠ q
  dti : d ≠ ti
  dto : d ≠ to
  di1 : d ≠ i1
  di2 : d ≠ i2
  dl1 : d ≠ l1
  dl2 : d ≠ l2
  nq : h0.get? q = none
  nto : h0.get? to = none
  ni1 : h0.get? i1 = none
  ni2 : h0.get? i2 = none
  nd : h0.get? d = none
  ks : ∀ p ∈ ps, (tupleKind kk).is h0 p.1 p.2.1
  un : (ps.map (·.1)).Nodup
  sz : ps.length < sizeLine
theorem dz_fresh {ps : List (List K × Addr × Value)} (un : (ps.map (·.1)).Nodup) {i : Nat} {p : List K × Addr × Value} (h : ps[i]? = some p) : storedH (ps.take i) p.1 p.2.1 p.2.2 = ps.take (i + 1) := by
  have hn : atKey (ps.take i) p.1 = none := by
    unfold atKey
    rw [Option.map_eq_none_iff, List.find?_eq_none]
    intro x hx hk
    have e : x.1 = p.1 := of_decide_eq_true hk
    obtain ⟨j, hj⟩ := List.getElem?_of_mem hx
    have hji : j < i := by
      have := (List.getElem?_eq_some_iff.mp hj).1
      rw [List.length_take] at this; omega
    rw [List.getElem?_take, if_pos hji] at hj
    have a1 : (ps.map (·.1))[j]? = some x.1 := by rw [List.getElem?_map, hj]; rfl
    have a2 : (ps.map (·.1))[i]? = some p.1 := by rw [List.getElem?_map, h]; rfl
    have := (List.getElem?_inj (i := j) (j := i) ((List.getElem?_eq_some_iff.mp a1).1) un).mp (by rw [a1, a2, e])
    omega
  rw [storedH_new hn, List.take_add_one, h]
  rfl
end
section
variable {prog : Program} {w : World} {K : Type} [DecidableEq K] {kk : KeyKind prog w K} {h0 : Heap} {d q ti to i1 i2 l1 l2 : Addr} {ps : List (List K × Addr × Value)}
theorem ne_lost {h : Heap} {c b : Addr} {o : Obj} (e : h.get? c = some o) (n : h.get? b = none) : c ≠ b := fun z => by
  rw [z, n] at e
  cases e
theorem dz_next {A : Around} {E : Value → Shared → Prop} {st : Shared} {i : Nat} {p : List K × Addr × Value} {Q : Option Value → Shared → Prop} (O : DzOk kk h0 d q ti to i1 i2 l1 l2 ps) (Z : DzAt kk h0 d q ti to i1 i2 l1 l2 ps i st.heap) (hp : ps[i]? = some p)
    (hQ : ∀ t h', IsPair h' t (.ref p.2.1) p.2.2 → h'.DictOfH (tupleKind kk) d (ps.take i) → (∃ (t : Addr) (b : Bool) (ot : Obj), IsZipG h' q ti to (rawInt (t : Nat)) b ∧ h'.get? t = some ot ∧ t ≠ q ∧ t ≠ i1 ∧ t ≠ i2 ∧ t ≠ d) → IsPair h' ti (.ref i1) (.ref i2) → (∃ a b, IsPair h' to a b) →
      h'.IsListIter i1 l1 (i + 1) → h'.IsListIter i2 l2 (i + 1) → h'.IsList l1 (ps.map fun p => Value.ref p.2.1).toArray → h'.IsList l2 (ps.map fun p => p.2.2).toArray → (∀ c o, h0.get? c = some o → h'.get? c = some o) → t ≠ d → Q (some (.ref t)) { st with heap := h' }) :
    wpAny (model prog w) A (pyNext (.ref q)) Q E st := by
  have x1 : (ps.map fun p => Value.ref p.2.1).toArray[i]? = some (.ref p.2.1) := by simp [hp]
  have x2 : (ps.map fun p => p.2.2).toArray[i]? = some p.2.2 := by simp [hp]
  have hne : ∀ {c o}, h0.get? c = some o → c ≠ q ∧ c ≠ to ∧ c ≠ i1 ∧ c ≠ i2 ∧ c ≠ d := fun e => ⟨ne_lost e O.nq, ne_lost e O.nto, ne_lost e O.ni1, ne_lost e O.ni2, ne_lost e O.nd⟩
  have lt : ∀ {c o}, st.heap.get? c = some o → st.heap.objs.size ≠ c := fun e => Nat.ne_of_gt (Heap.lt_size e)
  have hdl : ∃ o, st.heap.get? d = some o := let ⟨o, _, _, e, _⟩ := Z.dd; ⟨o, e⟩
  obtain ⟨od, hod⟩ := hdl
  have hi1 : ∃ o, st.heap.get? i1 = some o := let ⟨o, e, _⟩ := Z.j1; ⟨o, e⟩
  have hi2 : ∃ o, st.heap.get? i2 = some o := let ⟨o, e, _⟩ := Z.j2; ⟨o, e⟩
  obtain ⟨o1, ho1⟩ := hi1
  obtain ⟨o2, ho2⟩ := hi2
  rcases Z.zz with ⟨_, hz⟩ | ⟨t, b, ot, hz, ht, n1, n2, n3, n4⟩
  · obtain ⟨a, b, hto⟩ := Z.po
    refine wpAny_pyNext_zip_item O.ap hz Z.pt hto Z.j1 Z.j2 Z.m1 Z.m2 x1 x2 fun h' a1 a2 a3 a4 a5 a6 hk => ?_
    have kp : ∀ c o, h0.get? c = some o → h'.get? c = some o := fun c o e => by
      obtain ⟨b1, b2, b3, b4, _⟩ := hne e
      exact hk c o b1 b2 b3 b4 (Z.kp c o e)
    refine hQ _ h' a5 (dict_stay Z.dd (fun o e => hk d o O.dq O.dto O.di1 O.di2 e) fun x hx => key_stay (O.ks x (List.mem_of_mem_take hx)) fun o e => kp _ o e) ⟨_, false, _, a1, a5, lt hz, lt ho1, lt ho2, lt hod⟩
      (hk _ _ O.ap.TIz O.ap.TITO O.ap.TIi1 O.ap.TIi2 Z.pt) ⟨_, _, a2⟩ a3 a4 (Z.m1.at fun o e => hk _ o O.ap.l1z O.ap.l1TO O.ap.l1i1 O.ap.l1i2 e) (Z.m2.at fun o e => hk _ o O.ap.l2z O.ap.l2TO O.ap.l2i1 O.ap.l2i2 e) kp (lt hod)
  · refine pyNext_zip_item2 O.ap hz ht n1 n2 n3 Z.pt Z.j1 Z.j2 Z.m1 Z.m2 x1 x2 fun h' a1 a2 a3 a5 a6 hk => ?_
    have kp : ∀ c o, h0.get? c = some o → h'.get? c = some o := fun c o e => by
      obtain ⟨b1, b2, b3, b4, _⟩ := hne e
      exact hk c o b1 b3 b4 (Z.kp c o e)
    obtain ⟨a, b', hto⟩ := Z.po
    refine hQ _ h' a5 (dict_stay Z.dd (fun o e => hk d o O.dq O.di1 O.di2 e) fun x hx => key_stay (O.ks x (List.mem_of_mem_take hx)) fun o e => kp _ o e) ⟨t, true, ot, a1, hk t ot n1 n2 n3 ht, n1, n2, n3, n4⟩
      (hk _ _ O.ap.TIz O.ap.TIi1 O.ap.TIi2 Z.pt) ⟨a, b', hk _ _ O.ap.TOz O.ap.TOi1 O.ap.TOi2 hto⟩ a2 a3 (Z.m1.at fun o e => hk _ o O.ap.l1z O.ap.l1i1 O.ap.l1i2 e) (Z.m2.at fun o e => hk _ o O.ap.l2z O.ap.l2i1 O.ap.l2i2 e) kp (lt hod)
theorem dz_end {A : Around} {E : Value → Shared → Prop} {st : Shared} {Q : Option Value → Shared → Prop} (hh : A.handled = none) (O : DzOk kk h0 d q ti to i1 i2 l1 l2 ps) (Z : DzAt kk h0 d q ti to i1 i2 l1 l2 ps ps.length st.heap)
    (hQ : ∀ h', h'.DictOfH (tupleKind kk) d ps → (∀ c o, h0.get? c = some o → h'.get? c = some o) → Q none { st with heap := h' }) : wpAny (model prog w) A (pyNext (.ref q)) Q E st := by
  have x1 : (ps.map fun p => Value.ref p.2.1).toArray[ps.length]? = none := by simp
  have hne : ∀ {c o}, h0.get? c = some o → c ≠ q ∧ c ≠ to ∧ c ≠ i1 ∧ c ≠ i2 := fun e => ⟨ne_lost e O.nq, ne_lost e O.nto, ne_lost e O.ni1, ne_lost e O.ni2⟩
  have dd := Z.dd
  rw [List.take_length] at dd
  rcases Z.zz with ⟨_, hz⟩ | ⟨t, b, ot, hz, ht, n1, n2, n3, n4⟩
  · obtain ⟨a, b, hto⟩ := Z.po
    refine wpAny_pyNext_zip_end hh O.ap hz Z.pt hto Z.j1 Z.j2 Z.m1 Z.m2 (.inl x1) fun h' hk => ?_
    have kp : ∀ c o, h0.get? c = some o → h'.get? c = some o := fun c o e => by
      obtain ⟨b1, b2, b3, b4⟩ := hne e
      exact hk c o b1 b2 b3 b4 (Z.kp c o e)
    exact hQ h' (dict_stay dd (fun o e => hk d o O.dq O.dto O.di1 O.di2 e) fun x hx => key_stay (O.ks x hx) fun o e => kp _ o e) kp
  · refine pyNext_zip_end2 hh O.ap hz ht Z.pt Z.j1 Z.m1 x1 fun h' hk => ?_
    have kp : ∀ c o, h0.get? c = some o → h'.get? c = some o := fun c o e => by
      obtain ⟨b1, b2, b3, b4⟩ := hne e
      exact hk c o b1 b3 b4 (Z.kp c o e)
    exact hQ h' (dict_stay dd (fun o e => hk d o O.dq O.di1 O.di2 e) fun x hx => key_stay (O.ks x hx) fun o e => kp _ o e) kp
theorem dz_loop {A : Around} {R : Result → Shared → Prop} (hh : A.handled = none) (hu : A.units + 1 < cLine) (O : DzOk kk h0 d q ti to i1 i2 l1 l2 ps) : ∀ (m i : Nat) (st : Shared), i + m = ps.length → DzAt kk h0 d q ti to i1 i2 l1 l2 ps i st.heap →
    (∀ h' tk, h'.DictOfH (tupleKind kk) d ps → (∀ c o, h0.get? c = some o → h'.get? c = some o) → R (.ok (.ret .none)) { st with heap := h', toks := tk }) →
    codeAny (model prog w) A (.builtin "dict.update.loop" ⟨[.ref d, .ref q, rawInt (i : Nat), .none], []⟩) R st
  | 0, i, st, hm, Z, h => by
    have ei : i = ps.length := by omega
    subst ei
    refine codeAny_builtin zq_entry_loop ?_
    rw [Around.under_plainId zq_plain_loop _]
    show wpAny _ _ (pyNext (.ref q) >>= _) _ _ _
    refine wpAny_bind (dz_end (A := A.in1) hh O Z fun h' a1 a2 => ?_)
    show wpAny _ _ (Builtin.Dict.addKeywords d [] >>= _) _ _ _
    exact wpAny_bind (wpAny_pure (wpAny_pure (h h' st.toks a1 a2)))
  | m + 1, i, st, hm, Z, h => by
    have hi : i < ps.length := by omega
    have hp : ps[i]? = some ps[i] := List.getElem?_eq_getElem hi
    have hmem := List.getElem_mem hi
    generalize ps[i] = p at hp hmem
    refine codeAny_builtin zq_entry_loop ?_
    rw [Around.under_plainId zq_plain_loop _]
    show wpAny _ _ (pyNext (.ref q) >>= _) _ _ _
    refine wpAny_bind (dz_next (A := A.in1) O Z hp fun t h' b1 b2 b3 b4 b5 b6 b7 b8 b9 b10 b11 => ?_)
    refine wpAny_bind (wpAny_holding ?_)
    refine wpAny_bind (wpAny_tryCatch ?_)
    unfold Builtin.Dict.pairItems
    refine wpAny_bind (wpAny_typeOf (T := "tuple") ⟨_, b1, rfl⟩ ?_)
    rw [if_pos (by decide)]
    refine wpAny_bind (wpAny_seqItems b1 rfl (wpAny_pure ?_))
    show wpAny _ _ (holding [Value.ref p.2.1, p.2.2] (dictSet d (.ref p.2.1) p.2.2)) _ _ _
    have hk' : ∀ x ∈ ps, (tupleKind kk).is h' x.1 x.2.1 := fun x hx => key_stay (O.ks x hx) fun o e => b10 _ o e
    have hsz : (ps.take i).length ≤ sizeLine := by
      have := O.sz
      rw [List.length_take]; omega
    refine wpAny_holding (wpAny_dictSet_heap (hsz := hsz) (tupleKind_room_in1 hu) (hk' p hmem) b2 fun h2 c1 c2 => ?_)
    rw [dz_fresh O.un hp] at c1
    have kp : ∀ c o, h0.get? c = some o → h2.get? c = some o := fun c o e => c2.extBut _ _ (ne_lost e O.nd) (b10 c o e)
    obtain ⟨t1, bb1, ot1, g1, g2, g3, g4, g5, g6⟩ := b3
    obtain ⟨aa, ab, hto⟩ := b5
    have Z2 : DzAt kk h0 d q ti to i1 i2 l1 l2 ps (i + 1) h2 := ⟨c1, .inr ⟨t1, bb1, ot1, c2.extBut _ _ (Ne.symm O.dq) g1, c2.extBut _ _ g6 g2, g3, g4, g5, g6⟩, c2.extBut _ _ (Ne.symm O.dti) b4, ⟨aa, ab, c2.extBut _ _ (Ne.symm O.dto) hto⟩,
      b6.extBut c2.extBut (Ne.symm O.di1), b7.extBut c2.extBut (Ne.symm O.di2), b8.extBut c2.extBut (Ne.symm O.dl1), b9.extBut c2.extBut (Ne.symm O.dl2), kp⟩
    have ec : ((i : Int) + 1) = ((i + 1 : Nat) : Int) := by omega
    rw [ec]
    exact wpAny_pure ⟨plainId_quiet zq_plain_loop _, dz_loop hh hu O m (i + 1) _ (by omega) Z2 fun h3 tk e1 e2 => h h3 tk e1 e2⟩
end
end PySem
set_option Elab.async false
set_option linter.all false
set_option maxRecDepth 100000
set_option maxHeartbeats 4000000
namespace PySem
open Sem (wp)
section
variable {prog : Program} {w : World} {K : Type} [DecidableEq K] {kk : KeyKind prog w K} {h0 : Heap} {q ti to i1 i2 l1 l2 : Addr} {ps : List (List K × Addr × Value)}
theorem call_dict_zip {A : Around} {E : Value → Shared → Prop} {st : Shared} {Q : Value → Shared → Prop} (hh : A.handled = none) (hu : A.units + 3 < cLine) (ap : ZipApart q ti to i1 i2 l1 l2) (hz : IsZip st.heap q ti to .none) (pt : IsPair st.heap ti (.ref i1) (.ref i2)) (po : IsPair st.heap to .none .none)
    (j1 : st.heap.IsListIter i1 l1 0) (j2 : st.heap.IsListIter i2 l2 0) (m1 : st.heap.IsList l1 (ps.map fun p => Value.ref p.2.1).toArray) (m2 : st.heap.IsList l2 (ps.map fun p => p.2.2).toArray) (kp : ∀ c o, h0.get? c = some o → st.heap.get? c = some o) (sz0 : h0.objs.size ≤ st.heap.objs.size)
    (nq : h0.get? q = none) (nto : h0.get? to = none) (ni1 : h0.get? i1 = none) (ni2 : h0.get? i2 = none) (ks : ∀ p ∈ ps, (tupleKind kk).is h0 p.1 p.2.1) (un : (ps.map (·.1)).Nodup) (sz : ps.length < sizeLine)
    (h : ∀ h' tk, h'.DictOfH (tupleKind kk) st.heap.objs.size ps → (∀ c o, h0.get? c = some o → h'.get? c = some o) → Q (.ref st.heap.objs.size) { st with heap := h', toks := tk }) : wpAny (model prog w) A (call (.type "dict") [.ref q]) Q E st := by
  refine callType_codes (Q₁ := fun ob s1 => ob = .ref st.heap.objs.size ∧ s1 = { st with heap := st.heap.push { cls := .type "dict", data := .dict #[] } }) F.kt_called_dict (F.kt_typeCall_dict_1 _) F.entry_dict_init (kt_code_dict_new _ ⟨rfl, rfl⟩) ?_
  rintro ob s1 ⟨rfl, rfl⟩
  have nw : (st.heap.push { cls := .type "dict", data := .dict #[] }).DictOfH (tupleKind kk) st.heap.objs.size [] := Heap.DictOfH.new st.heap
  have up : ∀ c o, st.heap.get? c = some o → (st.heap.push { cls := .type "dict", data := .dict #[] }).get? c = some o := fun c o e => Heap.get?_push_of_some _ e
  have lt : ∀ {c o}, st.heap.get? c = some o → st.heap.objs.size ≠ c := fun e => Nat.ne_of_gt (Heap.lt_size e)
  have la1 : ∃ o, st.heap.get? l1 = some o := let ⟨o, e, _⟩ := m1; ⟨o, e⟩
  have la2 : ∃ o, st.heap.get? l2 = some o := let ⟨o, e, _⟩ := m2; ⟨o, e⟩
  have ia1 : ∃ o, st.heap.get? i1 = some o := let ⟨o, e, _⟩ := j1; ⟨o, e⟩
  have ia2 : ∃ o, st.heap.get? i2 = some o := let ⟨o, e, _⟩ := j2; ⟨o, e⟩
  obtain ⟨_, el1⟩ := la1
  obtain ⟨_, el2⟩ := la2
  obtain ⟨_, ei1⟩ := ia1
  obtain ⟨_, ei2⟩ := ia2
  have O : DzOk kk h0 st.heap.objs.size q ti to i1 i2 l1 l2 ps := ⟨ap, lt hz, lt pt, lt po, lt ei1, lt ei2, lt el1, lt el2, nq, nto, ni1, ni2, Heap.get?_none_of_le sz0, ks, un, sz⟩
  refine ⟨nw.typeIs, F.args_dict_init_2 _ _, ?_⟩
  unfold Builtin.«dict.__init__»
  refine wpAny_bind ?_
  unfold Builtin.Dict.selfAndRest
  refine wpAny_bind (wpAny_notOrdered_dict nw.typeIs ?_)
  show wpAny _ _ (pure (st.heap.objs.size, [Value.ref q])) _ _ _
  refine wpAny_pure ?_
  show wpAny _ _ (Builtin.Dict.updateFrom "dict.__init__" st.heap.objs.size (.ref q) [] .none) _ _ _
  unfold Builtin.Dict.updateFrom
  refine wpAny_bind (wpAny_typeOf (T := "zip") ⟨_, up _ _ hz, rfl⟩ ?_)
  rw [if_pos (by decide)]
  refine wpAny_bind (zip_no_keys (up _ _ hz) hh fun h1 t1 k1 => ?_)
  simp only [Option.isNone_none, if_true]
  refine wpAny_bind (wpAny_rule ?_)
  have hz1 : IsZip h1 q ti to .none := k1 _ _ (up _ _ hz)
  refine wpAny_bind (wpAny_pyIter_zip hz1 ?_)
  have kp1 : ∀ c o, h0.get? c = some o → h1.get? c = some o := fun c o e => k1 c o (up c o (kp c o e))
  have Z : DzAt kk h0 st.heap.objs.size q ti to i1 i2 l1 l2 ps 0 h1 := ⟨dict_stay nw (fun o e => k1 _ o e) fun x hx => (nomatch hx), .inl ⟨rfl, hz1⟩, k1 _ _ (up _ _ pt), ⟨_, _, k1 _ _ (up _ _ po)⟩, j1.at fun o e => k1 _ o (up _ o e), j2.at fun o e => k1 _ o (up _ o e), m1.at fun o e => k1 _ o (up _ o e), m2.at fun o e => k1 _ o (up _ o e), kp1⟩
  exact wpAny_pure ⟨plainId_quiet zq_plain_loop _, dz_loop (A := A.in1) hh (by show A.units + 1 + 1 < cLine; omega) O ps.length 0 _ (by omega) Z fun h2 t2 c1 c2 => ⟨rfl, h h2 t2 c1 c2⟩⟩
end
end PySem
namespace L2
open PySem PySem.Spec PyProof.Rows
theorem apart_nat (n a b : Nat) (h1 : a < n) (h2 : b < n) : ZipApart (n + 4) (n + 2) (n + 3) n (n + 1) a b := by
  constructor
  all_goals (intro z; have z' : (_ : Nat) = _ := z; omega)
def pairUp (ks : List (Addr × List Key)) (us : List Value) : List (List Key × Addr × Value) := List.zipWith (fun p u => (p.2, p.1, u)) ks us
theorem pairUp_facts : ∀ {ks : List (Addr × List Key)} {us : List Value}, us.length = ks.length → (pairUp ks us).map (fun p => Value.ref p.2.1) = ks.map (fun p => Value.ref p.1) ∧ (pairUp ks us).map (fun p => p.2.2) = us ∧ (pairUp ks us).map (·.1) = ks.map (·.2) ∧ (pairUp ks us).length = ks.length
  | [], [], _ => ⟨rfl, rfl, rfl, rfl⟩
  | [], _ :: _, h => by cases h
  | _ :: _, [], h => by cases h
  | k :: ks, u :: us, h => by
    obtain ⟨a, b, c, d⟩ := pairUp_facts (ks := ks) (us := us) (Nat.succ.inj h)
    refine ⟨?_, ?_, ?_, ?_⟩
    · show Value.ref k.1 :: (pairUp ks us).map _ = Value.ref k.1 :: _
      rw [a]
    · show u :: (pairUp ks us).map _ = u :: us
      rw [b]
    · show k.2 :: (pairUp ks us).map _ = k.2 :: _
      rw [c]
    · show (pairUp ks us).length + 1 = ks.length + 1
      rw [d]
theorem pairUp_mem : ∀ {ks : List (Addr × List Key)} {us : List Value} {p : List Key × Addr × Value}, p ∈ pairUp ks us → (p.2.1, p.1) ∈ ks
  | [], us, p, h => by cases us <;> cases h
  | _ :: _, [], p, h => by cases h
  | k :: ks, u :: us, p, h => by
    have h' : p ∈ (k.2, k.1, u) :: pairUp ks us := h
    rcases List.mem_cons.mp h' with e | e
    · rw [e]; exact List.mem_cons_self
    · exact List.mem_cons_of_mem _ (pairUp_mem e)
theorem pairUp_kt {H : Hp} : ∀ {ks : List (Addr × List Key)} {vs : List V} {us : List Value}, Vals vs us → vs.length = ks.length → (∀ p ∈ ks, H p.1 = some (.tup (p.2.map kV))) → KT H ((ks.map (·.2)).zip vs) (pairUp ks us)
  | [], [], _, r, _, _ => by cases r; exact .nil
  | [], _ :: _, _, _, h, _ => by cases h
  | _ :: _, [], _, _, h, _ => by cases h
  | k :: ks, v :: vs, us, r, h, g => by
    cases r with
    | @cons x u xs us' r1 r2 => exact .cons ⟨rfl, g k List.mem_cons_self, r1⟩ (pairUp_kt r2 (Nat.succ.inj h) fun p hp => g p (List.mem_cons_of_mem _ hp))
section
variable {X : Cx}
def tDictZip (K : PySem.W.Frag) (t : TA) : TE := fun σ H Q => t σ H fun xs H2 => ∃ (a b : Addr) (ks : List (Addr × List Key)) (vs : List V), xs = [.ref a, .ref b] ∧ SqL K H2 a (ks.map fun p => V.ref p.1) ∧ SqL K H2 b vs ∧ vs.length = ks.length ∧
  (∀ p ∈ ks, H2 p.1 = some (.tup (p.2.map kV))) ∧ (ks.map (·.2)).Nodup ∧ ks.length < 1000 ∧ ∀ d, H2 d = none → Q (.ref d) (upd H2 d (.dT ((ks.map (·.2)).zip vs)))
theorem vals_refs2 : ∀ {ks : List (Addr × List Key)} {us : List Value}, Vals (ks.map fun p => V.ref p.1) us → us = ks.map fun p => Value.ref p.1
  | [], us, r => by cases r; rfl
  | k :: ks, us, r => by
    cases r with
    | cons r1 r2 =>
      cases r1
      rw [vals_refs2 r2]
      rfl
theorem pe_dictzip {ea eb : Expr} {t : TA} {p p2 pos pos2 : Pos} (hc : X.calm = true) (hu : X.A.units + 3 < cLine) (hg : Gl X "dict") (hm : X.mg "dict" = none) (hg2 : Gl X "zip") (hm2 : X.mg "zip" = none) (ha : PA X [ea, eb] t)
    (he : starEach [ea, eb] X.env = (false, eval ea X.env) :: starEach [eb] X.env := by rfl) (hpl : (backTo pos2 (starEach [eb] X.env)).any (·.1) = false := by rfl) (hs2 : starEach [.Call (.Name "zip" p2) [ea, eb] [] pos2] X.env = [(false, eval (.Call (.Name "zip" p2) [ea, eb] [] pos2) X.env)] := by rfl) :
    PE X (.Call (.Name "dict" p) [.Call (.Name "zip" p2) [ea, eb] [] pos2] [] pos) (tDictZip X.K t) := by
  intro pins s σ H Q I h
  refine wpAny_Call_Name_kw (ld_blt I hg hm PyProof.Rows.boot_dict (PyProof.Rows.callWith_type1 (args_one hs2 ?_) hs2 rfl))
  refine wpAny_Call_Name_kw (ld_blt I hg2 hm2 PyProof.Rows.boot_zip (PyProof.Rows.callWith_type1 (thn (ha pos2 pins s σ H _ I h) fun us s1 ⟨xs, H2, I1, r1, q1⟩ => ?_) he hpl))
  obtain ⟨a, b, ks, vs, rfl, hA, hB, hlen, hK, hN, h1000, q⟩ := q1
  obtain ⟨ua, ub, rfl, ra, rb⟩ := vals2 r1
  cases ra
  cases rb
  obtain ⟨its1, v1, pl1, _⟩ := I1.list hA
  obtain ⟨its2, v2, pl2, _⟩ := I1.list hB
  have e1 := vals_refs2 v1
  subst e1
  have hl2 : its2.length = ks.length := by rw [← v2.length]; exact hlen
  obtain ⟨f1, f2, f3, f4⟩ := pairUp_facts hl2
  have L1 : s1.heap.IsList a ((pairUp ks its2).map fun p => Value.ref p.2.1).toArray := by rw [f1]; exact pl1.isList
  have L2' : s1.heap.IsList b ((pairUp ks its2).map fun p => p.2.2).toArray := by rw [f2]; exact pl2.isList
  have lt1 : a < s1.heap.objs.size := by obtain ⟨o, ho, _⟩ := L1; exact Heap.lt_size ho
  have lt2 : b < s1.heap.objs.size := by obtain ⟨o, ho, _⟩ := L2'; exact Heap.lt_size ho
  have hsz : s1.heap.objs.size < s1.heap.objs.size + 5 := by omega
  refine call_zip_2 L1 L2' fun h' g1 g2 g3 g4 g5 g6 gk => ?_
  have no : ∀ j, s1.heap.get? (s1.heap.objs.size + j) = none := fun j => Heap.get?_none_of_le (Nat.le_add_right _ _)
  have ap : ZipApart (s1.heap.objs.size + 4) (s1.heap.objs.size + 2) (s1.heap.objs.size + 3) s1.heap.objs.size (s1.heap.objs.size + 1) a b := apart_nat _ _ _ lt1 lt2
  refine call_dict_zip (kk := mixKind X.prog X.w) (h0 := s1.heap) (st := { s1 with heap := h' }) (ps := pairUp ks its2) (I.ok.hd hc) hu ap g1 g2 g3 g4 g5 (L1.at fun o e => gk _ o e) (L2'.at fun o e => gk _ o e) gk (by show _ ≤ h'.objs.size; rw [g6]; omega)
    (no 4) (no 3) (no 0) (no 1) (fun x hx => key_of I1.hok (hK _ (pairUp_mem hx))) (by rw [f3]; exact hN) (by rw [f4]; exact small1000 (by omega)) fun h2 tk c1 c2 => ?_
  have hd : s1.heap.objs.size ≤ h'.objs.size := by rw [g6]; omega
  obtain ⟨o, es, ep, z1, z2, z3, z4, _, z5⟩ := c1
  have hH : H2 h'.objs.size = none := I1.hok.fresh hd
  refine ⟨.ref h'.objs.size, upd H2 h'.objs.size (.dT ((ks.map (·.2)).zip vs)), I1.laid (a := h'.objs.size) (t' := tk) c2 hd ⟨?_, ?_, pairUp ks its2, ?_, o, es, ep, z1, z2, z3, z4, z5⟩, rfl, q _ hH⟩
  · rw [List.length_zip, List.length_map, hlen, Nat.min_self]
    exact Nat.le_of_lt (small1000 (by omega))
  · have hb := I1.big
    exact beq_eq_false_iff_ne.mpr (by intro z; rw [z] at hd; exact absurd (Nat.lt_of_lt_of_le hb hd) (Nat.lt_irrefl _))
  · exact pairUp_kt v2 hlen fun p hp => by
      rw [upd_ne (ne_of_none (hK p hp) hH)]
      exact hK p hp
end
end L2
set_option Elab.async false
set_option linter.all false
set_option maxRecDepth 100000
set_option maxHeartbeats 4000000
namespace L2
open PySem PySem.Spec PyProof.Rows
section
variable {X : Cx}
def rIns0 : V → List V → Hp → VK → Prop := fun x vs H Q => ∃ l xs y, x = .ref l ∧ vs = [.int 0, y] ∧ H l = some (.lst xs) ∧ xs.length < sizeLine ∧ Q .non (upd H l (.lst (y :: xs)))
theorem mt_ins0 : MtM X "list.insert" rIns0 := by
  intro pins s σ H x vs v us Q I rx rv h
  obtain ⟨l, xs, y, rfl, rfl, hH, hz, q⟩ := h
  cases rx
  obtain ⟨u0, u1, rfl, r0, r1⟩ := vals2 rv
  obtain ⟨t0, rfl⟩ := r0
  obtain ⟨z, its, n, r, hl, e⟩ := I.lstM hH
  have hs : its.toArray.size ≤ sizeLine := by rw [List.size_toArray]; omega
  refine call_meets F.slot_list_insert ⟨_, e, rfl⟩ F.entry_list_insert (F.args_list_insert_3 _ _ _) (AutoSeq1.list_insert_list_int_val_1 l its.toArray n 0 t0 u1 (by decide) hs) ⟨e, ?_⟩
  refine ⟨.non, _, I.lset (its' := u1 :: its) hH e (by simp) (.cons r1 r) ?_, rfl, q⟩
  rw [List.length_cons]
  omega
theorem vals_ints2 : ∀ {ns : List Int} {us : List Value}, Vals (ns.map V.int) us → ∃ xs : List (Int × Tok), us = xs.map (fun p => Value.int p.1 p.2) ∧ ns = xs.map (·.1)
  | [], us, r => by cases r; exact ⟨[], rfl, rfl⟩
  | n :: ns, us, r => by
    cases r with
    | cons r1 r2 =>
      obtain ⟨t, rfl⟩ := r1
      obtain ⟨xs, h1, h2⟩ := vals_ints2 r2
      exact ⟨(n, t) :: xs, by rw [h1]; rfl, by rw [h2]; rfl⟩
theorem call_maxL (hc : X.calm = true) : CallR X (.builtin "max") (fun xs H Q => ∃ (p : Addr) (ns : List Int), xs = [.ref p] ∧ SqL X.K H p (ns.map V.int) ∧ 0 < ns.length ∧ ∀ M, M ∈ ns → (∀ a ∈ ns, a ≤ M) → Q (.int M) H) := by
  intro pins s σ H xs us Q I r h
  obtain ⟨p, ns, rfl, hp, hn, q⟩ := h
  obtain ⟨u, rfl, ru⟩ := vals1 r
  cases ru
  obtain ⟨its, r1, p1, _⟩ := I.list hp
  obtain ⟨ys, rfl, rfl⟩ := vals_ints2 r1
  rw [List.length_map] at hn
  have e : intItems ys.toArray = (ys.map (fun p => Value.int p.1 p.2)).toArray := by simp [intItems]
  have val : ∀ j, j < ys.length → ∃ y, ys[j]? = some y ∧ PySem.numAt ys.toArray j = y.1 := fun j hj => ⟨ys[j], List.getElem?_eq_getElem hj, by simp [PySem.numAt, hj]⟩
  refine max_intList (xs := ys.toArray) (I.ok.hd hc) (by rw [e]; exact p1.isList) (by rw [List.size_toArray]; exact hn) fun v h' tk hv hk => ?_
  obtain ⟨t, rfl⟩ := intItems_at hv
  obtain ⟨h1, h2⟩ := argBest_gt (PySem.numAt ys.toArray) (ys.toArray.size - 1)
  generalize argBest (fun i j => decide (PySem.numAt ys.toArray i > PySem.numAt ys.toArray j)) (ys.toArray.size - 1) = b at h1 h2 ⊢
  have hs : ys.toArray.size = ys.length := List.size_toArray
  obtain ⟨y, y1, y2⟩ := val b (by omega)
  refine ⟨.int _, H, I.kept hk, ⟨t, rfl⟩, q _ ?_ fun a ha => ?_⟩
  · rw [y2]
    exact List.mem_map.mpr ⟨y, List.mem_of_getElem? y1, rfl⟩
  · obtain ⟨x, hx, rfl⟩ := List.mem_map.mp ha
    obtain ⟨j, hj⟩ := List.getElem?_of_mem hx
    have hjl := (List.getElem?_eq_some_iff.mp hj).1
    obtain ⟨x', x1, x2⟩ := val j hjl
    rw [hj] at x1
    cases x1
    rw [← x2]
    exact h2 j (by omega)
end
end L2
set_option Elab.async false
set_option linter.all false
set_option maxRecDepth 100000
set_option maxHeartbeats 4000000
namespace Srt
open PySem PySem.W PyProof.Rows
variable {n : Nat} {lt : Nat → Nat → Bool} {cmp : Nat → Nat → (Bool → Shared → Prop) → Shared → Prop} {s : Shared}
end Srt
set_option Elab.async false
set_option linter.all false
set_option maxRecDepth 100000
set_option maxHeartbeats 4000000
namespace Srt
open PySem PySem.W PyProof.Rows
section
variable {prog : Program} {w : World} {A : Around} {E : Value → Shared → Prop} {s : Shared}
end
end Srt
set_option Elab.async false
set_option linter.all false
set_option maxRecDepth 100000
set_option maxHeartbeats 4000000
namespace L2
open PySem PySem.Spec PyProof.Rows
section
variable {X : Cx} {pins : List (Addr × Obj)} {σ : St} {H : Hp} {s : Shared}
theorem Inv.newList {D : Addr} {h' : Heap} {ys : List V} {its : List Value} {c : Nat} {t' : Nat} (I : Inv X pins σ H s) (hD : s.heap.get? D = none) (hDL : D ≠ X.env.locals) (k : ∀ b o, b ≠ X.env.locals → s.heap.get? b = some o → h'.get? b = some o)
    (ns : ∀ m, s.heap.Ns X.env.locals m → h'.Ns X.env.locals m) (th : ∃ o, h'.get? X.env.locals = some o) (e : h'.get? D = some { cls := .type "list", data := .seq its.toArray c }) (r : Vals ys its) (hz : ys.length ≤ sizeLine) : H D = none ∧ Inv X pins σ (upd H D (.lst ys)) { s with heap := h', toks := t' } := by
  have hn : H D = none := by
    cases q : H D with
    | none => rfl
    | some u =>
      obtain ⟨o, z⟩ : ∃ o, s.heap.get? D = some o := by
        have ok := I.hok D u q
        cases u with
        | lst xs => obtain ⟨_, _, _, _, e⟩ := ok; exact ⟨_, e⟩
        | tup xs => obtain ⟨_, _, _, u, e, _⟩ := ok; exact ⟨_, e⟩
        | dK kvs => obtain ⟨_, _, _, _, o, _, _, e, _⟩ := ok; exact ⟨_, e⟩
        | dT kvs => obtain ⟨_, _, _, _, o, _, _, e, _⟩ := ok; exact ⟨_, e⟩
        | set S n => obtain ⟨o, _, _, _, e, _⟩ := ok; exact ⟨_, e⟩
        | ins C dx fs => obtain ⟨_, _, _, e, _⟩ := ok; exact ⟨_, e⟩
        | own y => exact ok
        | xd fs => obtain ⟨_, ⟨_, _, _, e, _⟩, _⟩ := ok; exact ⟨_, e⟩
        | rng lo hi => obtain ⟨_, _, _, e⟩ := ok; exact ⟨_, e⟩
        | frz ob u => obtain ⟨e, _⟩ := ok; exact ⟨_, e⟩
        | tbl ps => exact ⟨_, ok⟩
        | met f y => exact ⟨_, ok⟩
        | ext φ => obtain ⟨_, e, _⟩ := ok; exact e
      rw [hD] at z; cases z
  have nb : ∀ b o, s.heap.get? b = some o → b ≠ D := fun b o q z => by rw [z, hD] at q; cases q
  refine ⟨hn, I.step (g' := s.gens) (d' := s.drawn) (ch := []) (fun _ z => nomatch z) (fun b o hb _ _ q _ => k b o hb q) (fun b o hb _ _ q _ => ⟨o.slots, k b o hb q⟩) (fun b o _ q n => by rw [upd_ne (nb b o q)]; exact n) (fun b o _ q => ?_)
    (fun b xs q => by rw [upd_ne (ne_of_none q hn)]; exact q) (fun b o u q => by rw [upd_ne (ne_of_none q hn)]; exact q) (fun b ps q => ⟨#[], by rw [upd_ne (ne_of_none q hn), q]; simp⟩) ns (fun b u q => ?_) I.bare⟩
  · by_cases hb : b = X.env.locals
    · subst hb; exact th
    · exact ⟨o, k b o hb q⟩
  · by_cases hb : b = D
    · subst hb; rw [upd_same] at q; cases q; exact ⟨hz, its, c, r, e⟩
    · rw [upd_ne hb] at q
      refine (I.hok b u q).stay (fun c v hc z => k c v ?_ z) (fun c z => by rw [upd_ne (ne_of_none z hn)]; exact z) fun c xs z => by rw [upd_ne (ne_of_none z hn)]; exact z
      intro y
      rcases hc with z | z
      · rw [← z, y, I.free] at q; cases q
      · rw [y, I.free] at z; cases z
end
end L2
set_option Elab.async false
set_option linter.all false
set_option maxRecDepth 100000
set_option maxHeartbeats 4000000
namespace L2
open PySem PySem.Spec PyProof.Rows PySem.Builtin PySem.Builtin.ObjectAttr PySem.Builtin.Getset_descriptor
structure ExcK (K : PySem.W.Frag) (C : Addr) : Prop where
  cl : (PySem.W.clsIn K C).isSome = true
  ty : PySem.W.typeIn K (.ref C) = some (.type "type")
  ga : PySem.W.findIn K (.ref C) "__getattribute__" = some (some (.builtin "BaseException.__getattribute__"))
  gr : PySem.W.findIn K (.ref C) "__getattr__" = some none
  fc : PySem.W.findIn K (.ref C) "__class__" = some (some (.builtin "object.__class__"))
  sg : PySem.W.specialIn K (.builtin "object.__class__") "__get__" = some (some (.builtin "getset_descriptor.__get__"))
  tk : PySem.W.takesIn K (.builtin "object.__class__") = some true
  mo : PySem.W.mroIn K C (.type "object") = some true
  mb : PySem.W.mroIn K C (.type "BaseException") = some true
section
variable {prog : Program} {w : World} {A : Around} {E : Value → Shared → Prop} {s : Shared} {K : PySem.W.Frag} {x C : Addr}
theorem xk_get {R : Result → Shared → Prop} {tp : Value} (Z : ExcK K C) (X : K.In s.heap) (L0 : PySem.W.Looks (model prog w) s.heap (typeOf (.ref x)) (.ref C)) (h : R (.ok (.ret (.ref C))) s) :
    codeAny (model prog w) A (.call (.builtin "getset_descriptor.__get__") ⟨[.builtin "object.__class__", .ref x, tp], []⟩) R s := by
  obtain ⟨h9, g9, d9, t9, o9⟩ := s
  have L5 := PySem.W.looks_mroIn (M := model prog w) X Z.mo
  refine codeAny_call_builtin PySem.W.KF.slot_gs.plain PySem.W.KF.entry_gs (PySem.W.KF.slot_gs.check _ _ _ _ _ _ _ _ PySem.W.KF.type_class (PySem.W.KF.args_gs _ _ _) ?_)
  unfold Builtin.«getset_descriptor.__get__» descrGet
  rw [PySem.W.dga_obj]
  refine wpAny_bind (wpAny_pure ?_)
  unfold descrGetter descrCheckInstance descrNameAndClass isInstance
  simp only [PySem.W.KF.owner_class]
  (repeat lk)
  refine ⟨Code.quiet_builtin _ (by decide +kernel), codeAny_builtin PySem.W.KF.entry_class ?_⟩
  unfold Builtin.«object.__class__» shownTypeOf
  (repeat lk)
  exact h
theorem xk_find {M : Model} {hp : Heap} (Z : ExcK K C) (X : K.In hp) : PySem.W.Looks M hp (find (.ref x) (.ref C) "__class__") (.bind (.builtin "getset_descriptor.__get__") (.builtin "object.__class__")) := by
  have L1 := PySem.W.looks_findIn (M := M) X Z.fc
  have L2 := PySem.W.looks_specialIn (M := M) X Z.sg
  have L3 := PySem.W.looks_takesIn (M := M) X Z.tk
  have L5 : PySem.W.Looks M hp (getOf (some (.builtin "object.__class__"))) (some (.builtin "getset_descriptor.__get__")) := L2
  refine L1.andThen (L5.andThen ?_)
  have L4 : PySem.W.Looks M hp (dataDescriptor? (some (.builtin "object.__class__")) (some (.builtin "getset_descriptor.__get__"))) (some (.builtin "getset_descriptor.__get__", .builtin "object.__class__")) := L3.andThen .now
  exact L4.andThen (PySem.W.Looks.tag .now)
theorem xk_ga {R : Result → Shared → Prop} {tk : Tok} {oe : Obj} (Z : ExcK K C) (X : K.In s.heap) (he : s.heap.get? x = some oe) (hc : oe.cls = .ref C) (h : R (.ok (.ret (.ref C))) s) :
    codeAny (model prog w) A (.call (.builtin "BaseException.__getattribute__") ⟨[.ref x, .str "__class__" tk], []⟩) R s := by
  have hk : builtinKind "BaseException.__getattribute__" = some .slot := by decide +kernel
  have hsp : splitId "BaseException.__getattribute__" = some ("BaseException", "__getattribute__") := by decide +kernel
  have ha := F.args_bexc_ga (.ref x) (.str "__class__" tk)
  have L0 : PySem.W.Looks (model prog w) s.heap (typeOf (.ref x)) (.ref C) := hc ▸ (PySem.W.Looks.ld he).andThen .now
  have L5 := PySem.W.looks_mroIn (M := model prog w) X Z.mb
  have L6 := xk_find (M := model prog w) (x := x) Z X
  refine codeAny_call_builtin F.excAttr_ValueError.ga.plain F.entry_bexc_ga ?_
  obtain ⟨h9, g9, d9, t9, o9⟩ := s
  have LI : PySem.W.Looks (model prog w) h9 (isInstance (.ref x) (.type "BaseException")) true := L0.andThen L5
  have he9 : h9.get? x = some oe := he
  simp only [checkBuiltinCall, hk, hsp]
  refine wpAny_bind (LI.at ?_)
  repeat (first | assumption | (with_reducible refine wpAny_loadPart_at he9 ?_; rw [hc]) | with_reducible refine wpAny_bind (L6.at ?_) | with_reducible refine L6.at ?_ | wp_step)
  refine xk_get Z X L0 ?_
  repeat (first | assumption | wp_step)
theorem xk_class {oe : Obj} {Q : Option Value → Shared → Prop} (Z : ExcK K C) (X : K.In s.heap) (he : s.heap.get? x = some oe) (hc : oe.cls = .ref C) (h : Q (some (.ref C)) { s with toks := s.toks + 1 }) : wpAny (model prog w) A (getAttr? (.ref x) "__class__") Q E s := by
  obtain ⟨h9, g9, d9, t9, o9⟩ := s
  have L0 : PySem.W.Looks (model prog w) h9 (typeOf (.ref x)) (.ref C) := hc ▸ (PySem.W.Looks.ld he).andThen .now
  have L1 := PySem.W.looks_findIn (M := model prog w) X Z.ga
  have L2 := PySem.W.looks_findIn (M := model prog w) X Z.gr
  have L3 : PySem.W.Looks (model prog w) h9 (hookBefore (.ref C)) none := L2
  unfold getAttr? getAttrBy? getAttrBy
  refine wpAny_bind (wpAny_mkText (wpAny_bind (wpAny_attempt (wpAny_holding (wpAny_bind (L0.at (wpAny_bind (L1.at ?_))))))))
  show wpAny _ _ (getAttrByItsOwn _ _ _ _ _ _) _ _ _
  unfold getAttrByItsOwn
  refine wpAny_bind (L3.at (wpAny_bind (wpAny_attempt (wpAny_holding ?_))))
  show wpAny _ _ (boundAndCalled _ _ _) _ _ _
  unfold boundAndCalled
  rw [F.excAttr_ValueError.ga.bind (.ref x)]
  refine wpAny_bind (wpAny_pure (wpAny_call (xk_ga (s := ⟨h9, g9, d9, t9 + 1, o9⟩) Z X he hc ?_)))
  exact PySem.W.handed_on rfl (wpAny_pure h)
theorem kitx_exc (Z : ExcK K C) : PySem.W.KitX K (.ref x) (.ref C) (fun h => ∃ oe, h.get? x = some oe ∧ oe.cls = .ref C) where
  ty := fun _ _ _ ⟨_, he, hc⟩ => hc ▸ (PySem.W.Looks.ld he).andThen .now
  it := fun _ _ X _ => by
    obtain ⟨cd, hcd⟩ := Option.isSome_iff_exists.mp Z.cl
    unfold PySem.W.clsIn at hcd
    split at hcd
    · rename_i ho
      intro A1 Q1 E1 s1 k q
      unfold isType loadHead
      exact wpAny_bind (wpAny_loadPart (k _ _ (X _ _ ho)) (wpAny_pure q))
    · cases hcd
  ne := fun h tp dd its n sl X htp => by
    obtain ⟨cd, hcd⟩ := Option.isSome_iff_exists.mp Z.cl
    refine Bool.eq_false_iff.mpr fun q => ?_
    have e : C = tp := Value.ref.inj (beq_iff_eq.mp q)
    subst e
    unfold PySem.W.clsIn at hcd
    split at hcd
    · rename_i ho
      have z := (X _ _ ho).symm.trans htp
      cases z
    · cases hcd
  ca := fun X ⟨_, he, hc⟩ k => xk_class Z X he hc k
end
end L2
set_option Elab.async false
set_option linter.all false
set_option maxRecDepth 100000
set_option maxHeartbeats 4000000
namespace L2
open PySem PySem.Spec PyProof.Rows
section
variable {X : Cx} {pins : List (Addr × Obj)} {σ : St} {H : Hp} {s : Shared} {E : XK}
structure Cau (X : Cx) (pins : List (Addr × Obj)) (σ : St) (H : Hp) (a : Addr) (C : Value) (s : Shared) : Prop where
  inv : Inv X pins σ H s
  cls : ∃ ob, s.heap.get? a = some ob ∧ ob.cls = C
  apart : H a = none ∧ a ≠ X.env.locals ∧ a ∉ X.fs
  land : ∀ {M : Model} {A : Around} {E : Value → Shared → Prop} {Q : Unit → Shared → Prop}, (∀ s6 ob, Inv X pins σ H s6 → s6.heap.get? a = some ob → ob.cls = C → (∀ v, ob.data ≠ .cell v) → Q () s6) → wpAny M A (setFlight (.ref a) none) Q E s
def PH (X : Cx) (hs : List ExceptHandler) (T : Value → TS) : Prop := ∀ (pins : List (Addr × Obj)) (s : Shared) (σ : St) (H : Hp) (D : Ends) (a : Addr) (C : Value), Cau X pins σ H a C s → T C D σ H →
  wpAny (model X.prog X.w) X.A (handleBy (.ref a) X.env hs) (SP X pins D) X.xe s
theorem ph_nil : PH X [] (fun _ _ _ _ => False) := fun _ _ _ _ _ _ _ _ h => h.elim
theorem Cau.looks {a : Addr} {C : Value} {M : Model} (U : Cau X pins σ H a C s) : PySem.W.Looks M s.heap (typeOf (.ref a)) C := by
  obtain ⟨ob, hob, hobc⟩ := U.cls
  exact hobc ▸ (PySem.W.Looks.ld hob).andThen .now
theorem ph_cons {x : Str} {c : Value} {np hpos : Pos} {suite : List Stmt} {b₀ : Stmt} {th : TS} {rest : List ExceptHandler} {T : Value → TS} (hm : X.mg x = some c) (hg : Gl X x) (hxe : X.xe = fun _ _ => False)
    (hs : ∀ v, PSs (X.handling v) (b₀ :: suite) th) (hr : PH X rest T) (hd : (x == ("__debug__" : Str)) = false := by decide) :
    PH X (.ExceptHandler (some (.Name x np)) none (b₀ :: suite) hpos :: rest) (fun C D σ H => ∃ b, PySem.W.exmOne X.K C c = some b ∧ ((b = true ∧ th D σ H) ∨ (b = false ∧ T C D σ H))) := by
  intro pins s σ H D a C U h
  obtain ⟨b, hb, h⟩ := h
  refine wpAny_handleBy_cons (codeAny_handlers_test (ld_glob (X := X.handling (some (.ref a))) (U.inv.handling _) hg hm ?_ hd)) (by intro z; cases z)
  refine (PySem.W.exm_one U.inv.kIn U.looks hb).here ?_
  rcases h with ⟨rfl, h⟩ | ⟨rfl, h⟩
  · refine codeAny_handlers_suite (U.land fun s6 ob I6 _ _ _ => ?_)
    refine wpAny_mono (hs (some (.ref a)) pins s6 σ H D (I6.handling _) h) (fun f s7 q => SP.calmed U.inv.ok q) fun e' s7 q => ?_
    have q' : X.xe e' s7 := q
    rw [hxe] at q'
    exact q'.elim
  · exact hr pins s σ H D a C U h
abbrev Cx.named (X : Cx) (a : Addr) (ob : Obj) : Cx := { X with A := X.A.mark (some (.ref a)), calm := false, pn := X.pn ++ [(a, ob)] }
theorem Cx.Ok.named {a : Addr} {ob : Obj} (ok : X.Ok) : (X.named a ob).Ok :=
  ⟨ok.mod, ok.kind, ok.glob, ok.blt, ok.above, ok.inj, ok.has, ok.cab, (fun z => by cases z), ok.frames, ok.stk, ok.exf, ok.bs, ok.bsz, ok.noex, ok.exfs, ok.funs, ok.frf⟩
theorem Inv.named {a : Addr} {ob : Obj} (I : Inv X pins σ H s) (h1 : s.heap.get? a = some ob) (h2 : H a = none ∧ a ≠ X.env.locals ∧ a ∉ X.fs) (h3 : ∀ v, ob.data ≠ .cell v) : Inv (X.named a ob) pins σ H s :=
  ⟨I.ok.named, I.os, I.bare, I.base, I.loc, I.cell, I.free, I.freeC, fun p hp => by
    have hp' : p ∈ X.pn ++ [(a, ob)] ++ pins := hp
    rcases List.mem_append.mp hp' with z | z
    · rcases List.mem_append.mp z with y | y
      · exact I.pin p (List.mem_append_left _ y)
      · have e := List.mem_singleton.mp y
        subst e
        exact ⟨h1, h2.1, h2.2.1, h2.2.2, h3⟩
    · exact I.pin p (List.mem_append_right _ z), I.hok, I.len⟩
theorem Inv.forget {a : Addr} {ob : Obj} {h' : Heap} {m' : Str → Option Value} {t : Nat} (ok : X.Ok) (I : Inv (X.named a ob) pins σ H s) (hn : h'.Ns X.env.locals m') (hs : Heap.SameBut X.env.locals s.heap h') :
    Inv X pins (List.replicate X.N.length none) H { s with heap := h', toks := t } := by
  have far : ∀ b o, X.s₀.heap.get? b = some o → h'.get? b = s.heap.get? b := fun b o e => hs.2 b (Nat.ne_of_lt (Nat.lt_of_lt_of_le (Heap.lt_size e) ok.above))
  obtain ⟨m, hn0, _⟩ := I.loc
  obtain ⟨oL, _, _, hoL, _⟩ := id hn0
  refine ⟨ok, I.os, I.bare, ⟨fun b o e n hb hx => ?_, fun b o e n hb hx => ?_, I.base.free, fun b o e hx => ?_, I.base.tups, I.base.frzs, I.base.tbls⟩, ⟨m', hn, fun i y v e1 e2 e3 => ?_⟩, fun y c e => ?_, I.free, I.freeC, fun p hp => ?_, fun b o e => ?_, List.length_replicate⟩
  · exact (far b o e).trans (I.base.keep b o e n hb hx)
  · obtain ⟨sl, e1⟩ := I.base.slot b o e n hb hx
    exact ⟨sl, (far b o e).trans e1⟩
  · obtain ⟨o', e1⟩ := I.base.there b o e hx
    exact ⟨o', (far b o e).trans e1⟩
  · rw [List.getElem?_replicate] at e2
    split at e2 <;> cases e2
  · obtain ⟨w', z⟩ := I.cell y c e
    exact ⟨w', z.sameBut hs (I.cne y c e)⟩
  · have hp' : p ∈ (X.named a ob).pn ++ pins := by
      rcases List.mem_append.mp hp with z | z
      · exact List.mem_append_left _ (List.mem_append_left _ z)
      · exact List.mem_append_right _ z
    obtain ⟨e, n, ne, nf, d⟩ := I.pin p hp'
    exact ⟨(hs.2 p.1 ne).trans e, n, ne, nf, d⟩
  · refine (I.hok b o e).stay (fun c w' hc q => (hs.2 c ?_).trans q) (fun _ q => q) fun _ _ q => q
    rintro rfl
    have fr : H X.env.locals = none := I.free
    rcases hc with rfl | hc
    · rw [fr] at e; cases e
    · rw [fr] at hc; cases hc
def onlyRet (D : Ends) : Ends := { nx := fun _ _ => False, rt := D.rt }
theorem ph_as {x n : Str} {c : Value} {i : Nat} {np hpos : Pos} {suite : List Stmt} {b₀ : Stmt} {th : Addr → Value → TS} {rest : List ExceptHandler} {T : Value → TS} (hm : X.mg x = some c) (hg : Gl X x) (hxe : X.xe = fun _ _ => False)
    (hN : X.N.Nodup) (hi : X.N[i]? = some n) (hl : X.env.scope.names.lookup n = some .local) (hs : ∀ a ob, PSs (X.named a ob) (b₀ :: suite) (th a ob.cls)) (hr : PH X rest T) (hd : (x == ("__debug__" : Str)) = false := by decide) :
    PH X (.ExceptHandler (some (.Name x np)) (some n) (b₀ :: suite) hpos :: rest) (fun C D σ H => ∃ b, PySem.W.exmOne X.K C c = some b ∧ ((b = true ∧ ∀ a, th a C (onlyRet D) (σ.set i (some (.ref a))) H) ∨ (b = false ∧ T C D σ H))) := by
  intro pins s σ H D a C U h
  obtain ⟨b, hb, h⟩ := h
  refine wpAny_handleBy_cons (codeAny_handlers_test (ld_glob (X := X.handling (some (.ref a))) (U.inv.handling _) hg hm ?_ hd)) (by intro z; cases z)
  refine (PySem.W.exm_one U.inv.kIn U.looks hb).here ?_
  rcases h with ⟨rfl, h⟩ | ⟨rfl, h⟩
  · refine codeAny_handlers_suite_as (U.land fun s6 ob I6 g1 g2 g3 => ?_)
    have I6' := I6.named g1 U.apart g3
    refine store_ok2 (X := X.named a ob) (i := i) (v := .ref a) I6' hN hi (.inl hl) rfl (fun s7 I7 _ => ?_) (.inr hl)
    subst g2
    refine wpAny_mono (hs a ob pins s7 _ H (onlyRet D) I7 (h a)) (fun f s8 q => ?_) fun e' s8 q => ?_
    · cases f with
      | next => obtain ⟨_, _, _, z⟩ := q; exact z.elim
      | brk => obtain ⟨_, _, _, z⟩ := q; exact z.elim
      | cont => obtain ⟨_, _, _, z⟩ := q; exact z.elim
      | ret u =>
        obtain ⟨v, σ', H', I8, r, z⟩ := q
        obtain ⟨m, hn, _⟩ := I8.loc
        have hk : (X.env.scope.kind == .class || (X.env.scope.kind == .module && X.env.locals != X.env.globals)) = false := by rw [U.inv.ok.kind]; rfl
        exact wpAny_nameGoes hl hn hk fun h' m' hn' hs' => ⟨v, _, H', I8.forget U.inv.ok hn' hs', r, z⟩
    · have q' : X.xe e' s8 := q
      rw [hxe] at q'
      exact q'.elim
  · exact hr pins s σ H D a C U h
def tTryN (E : XK) (tb : TS) (T : Value → TS) : TS := fun D σ H => tb D σ H ∧ ∀ C H', E C none H' → ∀ σ', σ'.length = σ.length → T C D σ' H'
theorem ps_tryN {pos : Pos} {body : List Stmt} {h₀ : ExceptHandler} {hs : List ExceptHandler} {tb : TS} {T : Value → TS} (hst : X.stack = X.env :: X.outer) (hf : X.env.frame = some X.env.locals)
    (hb : ∀ ps, PSs (X.catching ps E) body tb) (hh : PH X (h₀ :: hs) T) : PS X (.Try body (h₀ :: hs) [] [] pos) (tTryN E tb T) := by
  intro pins s σ H D I h
  obtain ⟨h1, h2⟩ := h
  refine wpAny_Try_except ?_
  refine wpAny_mono (hb pins [] s σ H D I.pinIn h1) (fun f s1 q => ?_) (fun e s1 q => ?_)
  · have q' : SP X pins D f s1 := SP.pinOut I.ok q
    cases f with
    | next =>
      obtain ⟨σ', H', I', z⟩ := q'
      exact pss_nil pins s1 σ' H' D I' z
    | brk => exact q'
    | cont => exact q'
    | ret u => exact q'
  · obtain ⟨pins1, σ1, H1, sc, I1, a, C', a0, B, H', rfl, os, gb, U, hok, FL, has, hE⟩ := q
    have hF := FL.2.2.1
    have fields : ∀ {hp : Heap}, Heap.FlyingW B X.stack a C' a0 hp → ∃ ob, hp.get? a = some ob ∧ ob.cls = C' ∧ ∃ vs, ob.data = .fields vs := fun F9 => by
      obtain ⟨_, _, _, oe, vs, _, _, _, he, hc, hdt, _⟩ := F9
      exact ⟨oe, he, hc.1, vs, hdt⟩
    obtain ⟨ob0, hob0, hc0, vs0, hd0⟩ := fields FL
    have nf : a ∉ frs X.stack := fun z => by
      obtain ⟨_, o', e', d⟩ := hF.mem z
      rw [hob0] at e'; cases e'
      exact d vs0 hd0
    have hn : H' a = none := by
      cases hu : H' a with
      | none => rfl
      | some u =>
        have := has a ob0 hob0 nf (.inr ⟨u, hu⟩)
        rw [FL.2.1] at this; cases this
    have inS : a ≠ X.env.locals ∧ a ∉ X.fs := by
      have e : frs X.stack = X.env.locals :: X.fs := by rw [hst]; unfold frs; rw [List.filterMap_cons, hf]; rfl
      rw [e] at nf
      exact ⟨fun z => nf (z ▸ List.mem_cons_self), fun z => nf (List.mem_cons_of_mem _ z)⟩
    have FL0 := FL
    rw [hst] at FL
    refine wpAny_looks_onW (s := s1) (by rw [← hst]; exact I.ok.frames) hf FL fun h4 held up4 => ?_
    refine wpAny_landsW (s := { s1 with heap := h4 }) held fun h5 FL5 up5 => ?_
    have up5' : s1.heap.UpToSlots h5 := up4.trans up5
    have I5 : Inv X pins σ1 H' { s1 with heap := h5 } := caught_inv I.ok I1 os gb U hok hF has FL5.1 up5'
    have l1 : σ1.length = σ.length := by rw [I1.len]; exact I.len.symm
    refine hh pins _ σ1 H' D a C' ⟨I5, FL5.there, ⟨hn, inS⟩, fun {M A E Q} k => ?_⟩ (h2 _ _ hE σ1 l1)
    refine lands_againW (s := { s1 with heap := h5 }) FL5 fun h6 FL6 up6 => ?_
    have I6 : Inv X pins σ1 H' { s1 with heap := h6 } := caught_inv I.ok I1 os gb U hok hF has FL6.1 (up5'.trans up6)
    rw [← hst] at FL6
    obtain ⟨ob6, g1, g2, vs6, g3⟩ := fields FL6
    exact k _ ob6 I6 g1 g2 fun v z => by rw [g3] at z; cases z
def clV : V → Value
  | .ref a => .ref a
  | .ty n => .type n
  | _ => .none
theorem call_isE {a C : Addr} {ob : Obj} (hp : (a, ob) ∈ X.pn) (hc : ob.cls = .ref C) (Z : ExcK X.K C) : CallR X (.builtin "isinstance") (fun xs H Q => ∃ c b, xs = [.ref a, c] ∧ clV c ≠ .none ∧ PySem.W.kitOne X.K (.ref C) (clV c) = some b ∧ Q (.bl b) H) := by
  intro pins s σ H xs us Q I r h
  obtain ⟨c, b, rfl, hn, e, q⟩ := h
  obtain ⟨u, w', rfl, ru, rw'⟩ := vals2 r
  cases (show u = Value.ref a from ru)
  have ew : w' = clV c := by
    cases c with
    | ref d => exact (show w' = Value.ref d from rw')
    | ty n => exact (show w' = Value.type n from rw')
    | _ => exact absurd rfl hn
  rw [ew]
  exact PySem.W.kia_one (kitx_exc Z) I.kIn ⟨ob, (I.pin (a, ob) (List.mem_append_left _ hp)).1, hc⟩ e (fun z => nomatch z) fun tk => ⟨.bl b, H, I.tok tk, rfl, q⟩
end
theorem pss_off {X : Cx} {ss : List Stmt} : PSs X ss (fun _ _ _ => False) := fun _ _ _ _ _ _ h => h.elim
theorem FnOk.or {P : Program} {w : World} {K : PySem.W.Frag} {mg : Str → Option Value} {base : Heap} {CX : CXT} {k : Nat} {f : Addr} {fd : FuncData} {ps : List Str} {sp sp' : Sp} (F : FnOk P w K mg base CX k f fd ps sp) (G : FnOk P w K mg base CX k f fd ps sp') :
    FnOk P w K mg base CX k f fd ps (fun vs H Q E => sp vs H Q E ∨ sp' vs H Q E) :=
  ⟨fun vs H Q E h => h.elim (F.len vs H Q E) (G.len vs H Q E), fun A outer s H ar us vs Q E hr I hb r h => h.elim (F.run A outer s H ar us vs Q E hr I hb r) (G.run A outer s H ar us vs Q E hr I hb r)⟩
theorem FnOk.lift {P : Program} {w : World} {K : PySem.W.Frag} {mg : Str → Option Value} {base : Heap} {CX : CXT} {k : Nat} {f : Addr} {fd : FuncData} {ps : List Str} {sp : Sp} (F : FnOk P w K mg base CX0 k f fd ps sp) : FnOk P w K mg base CX k f fd ps sp :=
  ⟨F.len, fun A outer s H ar us vs Q E hr I hb r h => codeAny_mono (F.run A outer s H ar us vs Q E hr I hb r h) fun rs s' q => by
    cases rs with
    | error e => exact False.elim q
    | ok fl => cases fl <;> exact q⟩
end L2
set_option Elab.async false
set_option linter.all false
set_option maxRecDepth 100000
set_option maxHeartbeats 4000000
namespace L2
open PySem
def subs : List Nat → List (List Nat)
  | [] => [[]]
  | x :: r => subs r ++ (subs r).map (x :: ·)
def subs8 : List (List Nat) := subs [0, 1, 2, 3, 4, 5, 6, 7]
def tab (ps : List Nat) : SetTable := { mask := 7, place := ps.toArray, dummies := #[], finger := 0, led := true, moves := 0, plain := true }
def slotAt (ps : Array Nat) : Nat → Nat
  | 0 => 0
  | i + 1 => ps.getD i 0 + 1
def isEmpty8 (ps : List Nat) (j : Nat) : Bool := decide ((tab ps).slot j = .empty)
theorem put_all : (subs8.all fun ps => decide (ps.length ≤ 3) == false || (List.range 8).all fun j => isEmpty8 ps j == false || subs8.contains (SetTable.insertAt ps.toArray (SetTable.below ps.toArray j) j).toList) = true := by decide +kernel
theorem below_all : (subs8.all fun ps => (List.range (ps.length + 1)).all fun i => SetTable.below ps.toArray (slotAt ps.toArray i) == i) = true := by decide +kernel
def step8 (i : Nat) : Nat := (i * 5 + 1) % 8
def steps8 : Nat → Nat → Nat
  | 0, i => i
  | n + 1, i => steps8 n (step8 i)
theorem free_all : (subs8.all fun ps => decide (ps.length ≤ 3) == false || (List.range 8).all fun i => (List.range 8).any fun n => isEmpty8 ps (steps8 n i)) = true := by decide +kernel
theorem put_mem {ps : List Nat} {j : Nat} (h : ps ∈ subs8) (h3 : ps.length ≤ 3) (hj : j < 8) (he : (tab ps).slot j = .empty) : (SetTable.insertAt ps.toArray (SetTable.below ps.toArray j) j).toList ∈ subs8 := by
  have := List.all_eq_true.mp put_all ps h
  rw [Bool.or_eq_true] at this
  rcases this with z | z
  · rw [decide_eq_true h3] at z; cases z
  · have := List.all_eq_true.mp z j (List.mem_range.mpr hj)
    rw [Bool.or_eq_true] at this
    rcases this with y | y
    · unfold isEmpty8 at y; rw [decide_eq_true he] at y; cases y
    · exact List.contains_iff_mem.mp y
theorem below_mem {ps : List Nat} {i : Nat} (h : ps ∈ subs8) (hi : i ≤ ps.length) : SetTable.below ps.toArray (slotAt ps.toArray i) = i := by
  have := List.all_eq_true.mp (List.all_eq_true.mp below_all ps h) i (List.mem_range.mpr (by omega))
  exact eq_of_beq this
theorem free_mem {ps : List Nat} {i : Nat} (h : ps ∈ subs8) (h3 : ps.length ≤ 3) (hi : i < 8) : ∃ n, n < 8 ∧ (tab ps).slot (steps8 n i) = .empty := by
  have := List.all_eq_true.mp free_all ps h
  rw [Bool.or_eq_true] at this
  rcases this with z | z
  · rw [decide_eq_true h3] at z; cases z
  · have := List.all_eq_true.mp z i (List.mem_range.mpr hi)
    obtain ⟨n, hn, q⟩ := List.any_eq_true.mp this
    exact ⟨n, List.mem_range.mp hn, of_decide_eq_true q⟩
structure Tab8 (t : SetTable) (T : Bool) : Prop where
  mask : t.mask = 7
  dum : t.dummies = #[]
  led : t.led = T
  plain : t.plain = true
  mem : t.place.toList ∈ subs8
theorem Tab8.slot {t : SetTable} {T : Bool} (h : Tab8 t T) (j : Nat) : t.slot j = (tab t.place.toList).slot j := by
  obtain ⟨m, pl, du, fi, le, mo, pn⟩ := t
  have e := h.dum
  dsimp only at e
  subst e
  rfl
theorem no_dummy {t : SetTable} (hd : t.dummies = #[]) (j : Nat) : t.slot j ≠ .dummy := by
  unfold SetTable.slot
  rw [hd]
  dsimp only
  split
  · intro z; cases z
  · have : SetTable.has #[] j = false := rfl
    rw [this]
    intro z; cases z
structure PB (p : SetTable.Probe) : Prop where
  ji : p.j = p.i
  lt : p.i < 8
  more : p.more = 0
  dum : p.dummy = none
theorem end7 {i : Nat} : SetTable.runEnd 7 i - i = 0 := by
  unfold SetTable.runEnd
  rw [if_neg (by omega)]
  omega
theorem adv_ok {t : SetTable} {p : SetTable.Probe} (hm : t.mask = 7) (h : PB p) : PB (t.advance p) ∧ (t.advance p).perturb = p.perturb / 32 ∧ (t.advance p).i = (p.i * 5 + 1 + p.perturb / 32) % 8 := by
  have hno : ¬ p.more > 0 := by rw [h.more]; omega
  unfold SetTable.advance SetTable.leap
  rw [if_neg hno, hm]
  dsimp only
  exact ⟨⟨rfl, Nat.mod_lt _ (by decide), end7, h.dum⟩, rfl, rfl⟩
theorem go_more {t : SetTable} {T : Bool} {hashAt : Nat → Int} {h : Int} (G : Tab8 t T) (hne : ∀ i, (hashAt i == h) = false) {p : SetTable.Probe} (hp : PB p) {f : Nat}
    (k : (∃ j, SetTable.probe.go t hashAt h f (t.advance p) = some (.empty j none) ∧ j < 8 ∧ t.slot j = .empty)) : ∃ j, SetTable.probe.go t hashAt h (f + 1) p = some (.empty j none) ∧ j < 8 ∧ t.slot j = .empty := by
  unfold SetTable.probe.go
  cases e : t.slot p.j with
  | empty => exact ⟨p.j, by rw [hp.dum], by rw [hp.ji]; exact hp.lt, e⟩
  | dummy => exact absurd e (no_dummy G.dum _)
  | live i =>
    dsimp only
    rw [hne i]
    exact k
theorem go_zero {t : SetTable} {T : Bool} {hashAt : Nat → Int} {h : Int} (G : Tab8 t T) (hne : ∀ i, (hashAt i == h) = false) : ∀ (n f : Nat) (p : SetTable.Probe), PB p → p.perturb = 0 → t.slot (steps8 n p.i) = .empty →
    ∃ j, SetTable.probe.go t hashAt h (n + 1 + f) p = some (.empty j none) ∧ j < 8 ∧ t.slot j = .empty
  | 0, f, p, hp, h0, he => by
    have e : 0 + 1 + f = f + 1 := by omega
    rw [e]
    unfold SetTable.probe.go
    have he' : t.slot p.j = .empty := by rw [hp.ji]; exact he
    rw [he']
    exact ⟨p.j, by rw [hp.dum], by rw [hp.ji]; exact hp.lt, he'⟩
  | n + 1, f, p, hp, h0, he => by
    have e : n + 1 + 1 + f = (n + 1 + f) + 1 := by omega
    rw [e]
    obtain ⟨a1, a2, a3⟩ := adv_ok G.mask hp
    refine go_more G hne hp (go_zero G hne n f _ a1 (by rw [a2, h0]) ?_)
    rw [a3, h0]
    exact he
theorem go_any {t : SetTable} {T : Bool} {hashAt : Nat → Int} {h : Int} (G : Tab8 t T) (h3 : t.place.size ≤ 3) (hne : ∀ i, (hashAt i == h) = false) : ∀ (k f : Nat) (p : SetTable.Probe), PB p → p.perturb < 32 ^ k → 8 + k ≤ f →
    ∃ j, SetTable.probe.go t hashAt h f p = some (.empty j none) ∧ j < 8 ∧ t.slot j = .empty
  | 0, f, p, hp, h0, hf => by
    obtain ⟨n, hn, he⟩ := free_mem G.mem (by rw [Array.length_toList]; exact h3) hp.lt
    have e : f = n + 1 + (f - n - 1) := by omega
    rw [e]
    exact go_zero G hne n _ p hp (by omega) (by rw [G.slot]; exact he)
  | k + 1, f, p, hp, h0, hf => by
    obtain ⟨a1, a2, a3⟩ := adv_ok G.mask hp
    have e : f = (f - 1) + 1 := by omega
    rw [e]
    refine go_more G hne hp (go_any G h3 hne k (f - 1) _ a1 ?_ (by omega))
    rw [a2]
    rw [Nat.pow_succ] at h0
    exact Nat.div_lt_of_lt_mul (by rw [Nat.mul_comm]; exact h0)
theorem free_ok {t : SetTable} {T : Bool} (G : Tab8 t T) (h3 : t.place.size ≤ 3) (h : Int) : ∃ j, t.freeSlot h = some (j, false) ∧ j < 8 ∧ t.slot j = .empty := by
  have hb : SetTable.bits h < 32 ^ 13 := by
    unfold SetTable.bits
    have h1 : h % (2 ^ 64 : Int) < 2 ^ 64 := Int.emod_lt_of_pos _ (by decide)
    have h2 : (0 : Int) ≤ h % (2 ^ 64 : Int) := Int.emod_nonneg _ (by decide)
    have : ((h % (2 ^ 64 : Int)).toNat : Int) < 2 ^ 64 := by rw [Int.toNat_of_nonneg h2]; exact h1
    have h3 : (h % (2 ^ 64 : Int)).toNat < 2 ^ 64 := by omega
    exact Nat.lt_of_lt_of_le h3 (by decide)
  have hp : PB (t.probeStart h) := by
    unfold SetTable.probeStart
    rw [G.mask]
    exact ⟨rfl, Nat.mod_lt _ (by decide), end7, rfl⟩
  have hne : ∀ i : Nat, ((fun _ => h + 1) i == h) = false := fun _ => by
    apply beq_eq_false_iff_ne.mpr
    show h + 1 ≠ h
    omega
  obtain ⟨j, g, hj, he⟩ := go_any (hashAt := fun _ => h + 1) (h := h) G h3 hne 13 (10 * SetTable.turns t.mask) (t.probeStart h) hp hb (by rw [G.mask]; decide)
  refine ⟨j, ?_, hj, he⟩
  unfold SetTable.freeSlot SetTable.probe
  rw [g]
  rfl
theorem lay_ok {t : SetTable} {T : Bool} {es : Array (Int × Value)} (G : Tab8 t T) (hs : t.place.size = es.size) (h3 : es.size ≤ 3) (h : Int) (x : Value) :
    ∃ es' t', layNew t es h x = (es', t', false, false) ∧ Tab8 t' T ∧ t'.place.size = es'.size ∧ t'.tooFull = false := by
  obtain ⟨j, g, hj, he⟩ := free_ok G (by omega) h
  have hp := layNew_perm t es h x
  unfold layNew at hp ⊢
  rw [g] at hp ⊢
  dsimp only at hp ⊢
  have hd : (t.put j).1 = { t with place := SetTable.insertAt t.place (SetTable.below t.place j) j, dummies := #[] } := by
    unfold SetTable.put
    rw [G.dum]
    rfl
  have sz : (SetTable.insertAt t.place (SetTable.below t.place j) j).size = es.size + 1 := by
    have := (SetTable.insertAt_perm t.place (SetTable.below t.place j) j).length_eq
    rw [Array.length_toList, Array.length_toList, Array.size_push] at this
    omega
  have sz2 : (SetTable.insertAt es (t.put j).2 (h, x)).size = es.size + 1 := by
    have := (SetTable.insertAt_perm es (t.put j).2 (h, x)).length_eq
    rw [Array.length_toList, Array.length_toList, Array.size_push] at this
    exact this
  have fit : (t.put j).1.fits (SetTable.insertAt es (t.put j).2 (h, x)).size = true := by
    rw [hd, sz2]
    unfold SetTable.fits SetTable.fill
    dsimp only
    rw [sz, G.mask]
    rw [Bool.and_eq_true]
    exact ⟨by rw [beq_self_eq_true], decide_eq_true (by show es.size + 1 + 0 ≤ 7; omega)⟩
  refine ⟨_, _, by unfold SetTable.orStandIn; rw [if_pos fit, fit]; rfl, ?_, ?_, ?_⟩
  · rw [hd]
    refine ⟨G.mask, rfl, G.led, G.plain, ?_⟩
    have := put_mem G.mem (by rw [Array.length_toList]; omega) hj (by rw [← G.slot]; exact he)
    exact this
  · rw [hd, sz2]
    exact sz
  · rw [hd]
    unfold SetTable.tooFull SetTable.fill
    dsimp only
    rw [sz, G.mask]
    exact decide_eq_false (by show ¬ (es.size + 1 + 0) * 5 ≥ 7 * 3; omega)
theorem fresh_tab (T : Bool) : Tab8 (.fresh 0 0 T) T := ⟨rfl, rfl, rfl, rfl, show ([] : List Nat) ∈ subs8 by decide +kernel⟩
end L2
set_option Elab.async false
set_option linter.all false
set_option maxRecDepth 100000
set_option maxHeartbeats 4000000
namespace L2
open PySem PySem.Spec PyProof.Rows
def SetP (P : Program) (w : World) (T : Bool) (h : Heap) (a : Addr) (ns : List Int) : Prop :=
  ∃ (es : Array (Int × Value)) (ep : Nat) (t : SetTable), h.get? a = some { cls := .type "set", data := .set es ep t } ∧ ElemsOf (intKind P w) es.toList ∧ (∀ k, ns.any (· == k) = true ↔ ∃ e ∈ es.toList, (intKind P w).is k e.2 = true) ∧
    es.size = ns.length ∧ Tab8 t T ∧ t.place.size = es.size
theorem Tab8.fit {t : SetTable} {T : Bool} {n : Nat} (G : Tab8 t T) (h : t.place.size = n) (h7 : n ≤ 7) : t.fits n = true := by
  unfold SetTable.fits SetTable.fill
  rw [h, G.mask, G.dum, Bool.and_eq_true]
  exact ⟨by rw [beq_self_eq_true], decide_eq_true (by show n + 0 ≤ 7; omega)⟩
section
variable {prog : Program} {w : World} {A : Around} {E : Value → Shared → Prop} {s : Shared} {a : Addr} {T : Bool}
theorem set_add {ns : List Int} {k : Int} {u : Tok} {Q : Bool → Shared → Prop} (hS : SetP prog w T s.heap a ns) (h3 : ns.length ≤ 3) (h : ∀ b h', Heap.SameBut a s.heap h' → SetP prog w T h' a (step_dedup ns k) → Q b { s with heap := h' }) :
    wpAny (model prog w) A (setAddHashed a (.int k u) ((intKind prog w).hash k)) Q E s := by
  obtain ⟨es, ep, t, ho, hel, hmem, hn, G, hpl⟩ := hS
  have hf : t.fits es.size = true := G.fit hpl (by omega)
  have hb : es.size < scanBound := Nat.lt_of_le_of_lt (by omega : es.size ≤ 3) (by decide)
  have hkey : (intKind prog w).is k (.int k u) = true := intKind_is _ _ _ _
  have hsc : (Value.int k u).scannable = true := rfl
  have hd : ({ cls := .type "set", data := .set es ep t } : Obj).data = .set es ep t := rfl
  unfold setAddHashed setAddHashedIn
  refine wpAny_holding (wpAny_bind (wpAny_setState_of ho hd hf ?_))
  dsimp only
  rw [byScan_of hsc hb hel]
  simp only [↓reduceIte]
  unfold setAddByScan
  refine wpAny_bind (wpAny_bind (wpAny_rule (wpAny_bind (wpAny_setScan_of hkey ho hd hf hel ?_))))
  cases hr : List.findIdx? (fun e => (intKind prog w).is k e.2) es.toList with
  | some j =>
    dsimp only
    obtain ⟨hj, hpj, _⟩ := List.findIdx?_eq_some_iff_getElem.mp hr
    have hin : ns.any (· == k) = true := (hmem k).mpr ⟨_, List.getElem_mem hj, hpj⟩
    have es1 : step_dedup ns k = ns := by unfold step_dedup; rw [if_pos hin]
    refine wpAny_pure (wpAny_pure ?_)
    have e0 : s = { s with heap := s.heap } := by cases s; rfl
    rw [e0]
    exact h _ s.heap (Heap.SameBut.refl a s.heap) (by rw [es1]; exact ⟨es, ep, t, ho, hel, hmem, hn, G, hpl⟩)
  | none =>
    dsimp only
    have hout : ¬ ns.any (· == k) = true := fun z => by
      obtain ⟨e, he, hp⟩ := (hmem k).mp z
      have := List.findIdx?_eq_none_iff.mp hr e he
      rw [hp] at this
      cases this
    have es1 : step_dedup ns k = ns ++ [k] := by unfold step_dedup; rw [if_neg hout]
    have hperm := layNew_perm t es ((intKind prog w).hash k) (.int k u)
    obtain ⟨es', t', eL, G', hs', hfull⟩ := lay_ok G hpl (by omega) ((intKind prog w).hash k) (.int k u)
    rw [eL] at hperm ⊢
    dsimp only at hperm ⊢
    rw [Array.toList_push] at hperm
    have hel1 : ElemsOf (intKind prog w) es'.toList := (hel.push hkey hsc).perm hperm
    have hz : es'.size = es.size + 1 := by
      have := hperm.length_eq
      rw [Array.length_toList, List.length_append, Array.length_toList] at this
      exact this
    have hmem1 : ∀ k', (ns ++ [k]).any (· == k') = true ↔ ∃ e ∈ es'.toList, (intKind prog w).is k' e.2 = true := fun k' => by
      have := mem_push_iff (S := fun z => ns.any (· == z)) hkey hmem hperm k'
      rw [← this, List.any_append, List.any_cons, List.any_nil, Bool.or_false]
      by_cases e : k' = k
      · subst e; simp
      · have e1 : decide (k' = k) = false := decide_eq_false e
        have e2 : (k == k') = false := beq_eq_false_iff_ne.mpr fun z => e z.symm
        rw [e1, e2]
    refine wpAny_bind (wpAny_pure ?_)
    rw [if_pos G'.plain]
    refine wpAny_bind ?_
    rw [hashByValue_scannable 8 hsc]
    refine wpAny_pure ?_
    have e3 : plainKind (Value.int k u) = true := rfl
    rw [e3]
    simp only [↓reduceIte]
    refine wpAny_bind (wpAny_storeSet_of ho hd ?_ (fits_of_scanBound (Nat.lt_of_le_of_lt (by omega : es'.size ≤ 4) (by decide))))
    rw [hfull]
    simp only [Bool.and_false, Bool.false_eq_true, if_false]
    refine wpAny_pure (wpAny_pure ?_)
    have hg : (s.heap.update a (Obj.putSet es' t')).get? a = some { cls := .type "set", data := .set es' (ep + 1) t' } := by
      have := Heap.get?_update_self (Obj.putSet es' t') ho (by rw [putSet_of es' t' hd]; rfl)
      rw [putSet_of es' t' hd] at this
      exact this
    exact h _ _ (Heap.SameBut.update s.heap a _) (by rw [es1]; exact ⟨es', ep + 1, t', hg, hel1, hmem1, by rw [List.length_append, hz, hn]; rfl, G', hs'⟩)
end
end L2
set_option Elab.async false
set_option linter.all false
set_option maxRecDepth 100000
set_option maxHeartbeats 4000000
namespace L2
open PySem PySem.Spec PyProof.Rows
theorem entry_siter : entryFor table "set.__iter__" = some Builtin.«frozenset.__iter__» := entryFor_alias (id' := "frozenset.__iter__") (by kernel_rfl) rfl (by decide +kernel) (by kernel_rfl)
theorem slot_snext : Slot "set_iterator" "__next__" "set_iterator.__next__" :=
  .of (owner := "set_iterator") (n := "__next__") (by rw [typeLookup_type, builtinLookup_eq_fast]; kernel_rfl) (by decide +kernel) (by decide +kernel) (by decide +kernel)
    (by first | exact .inl (by decide +kernel) | exact .inr (by decide +kernel)) (by rw [isSubtype_type]; kernel_rfl)
theorem entry_snext : entryFor table "set_iterator.__next__" = some Builtin.«set_iterator.__next__» := entryFor_of_tree (by kernel_rfl)
theorem args_snext (a : Value) : argsOk "set_iterator.__next__" ⟨[a], []⟩ := by unfold argsOk; kernel_rfl
theorem slot_self : Slot "set_iterator" "__iter__" "set_iterator.__iter__" :=
  .of (owner := "set_iterator") (n := "__iter__") (by rw [typeLookup_type, builtinLookup_eq_fast]; kernel_rfl) (by decide +kernel) (by decide +kernel) (by decide +kernel)
    (by first | exact .inl (by decide +kernel) | exact .inr (by decide +kernel)) (by rw [isSubtype_type]; kernel_rfl)
theorem entry_sself : entryFor table "set_iterator.__iter__" = some Builtin.«dict_keyiterator.__iter__» := entryFor_alias (id' := "dict_keyiterator.__iter__") (by kernel_rfl) rfl (by decide +kernel) (by kernel_rfl)
theorem args_sself (a : Value) : argsOk "set_iterator.__iter__" ⟨[a], []⟩ := by unfold argsOk; kernel_rfl
def byT (w : World) : Bool := w.params.followText "set-order"
theorem pick_go {α : Type} (next : Nat → Nat) : ∀ (f k : Nat) (left : List α) (out : Array α), left.length = f → (pickOrder.go next f k left out).size = out.size + f ∧ ∀ e ∈ (pickOrder.go next f k left out).toList, e ∈ out.toList ∨ e ∈ left
  | 0, k, left, out, h => ⟨rfl, fun e he => .inl he⟩
  | f + 1, k, left, out, h => by
    unfold pickOrder.go
    have lt : next k % left.length < left.length := Nat.mod_lt _ (by omega)
    rw [List.getElem?_eq_getElem lt]
    dsimp only
    obtain ⟨h1, h2⟩ := pick_go next f (k + 1) (left.eraseIdx (next k % left.length)) (out.push left[next k % left.length]) (by rw [List.length_eraseIdx_of_lt lt]; omega)
    refine ⟨by rw [h1, Array.size_push]; omega, fun e he => ?_⟩
    rcases h2 e he with z | z
    · rw [Array.toList_push] at z
      rcases List.mem_append.mp z with y | y
      · exact .inl y
      · exact .inr (by rw [List.mem_singleton.mp y]; exact List.getElem_mem lt)
    · exact .inr ((List.eraseIdx_sublist left _).subset z)
def ordOf (w : World) (a : Addr) (ep : Nat) (es : Array (Int × Value)) : Array (Int × Value) := if byT w = true then pickOrder (w.params.setOrder a ep) es else es
theorem ord_size (w : World) (a : Addr) (ep : Nat) (es : Array (Int × Value)) : (ordOf w a ep es).size = es.size := by
  unfold ordOf
  split
  · have := (pick_go (w.params.setOrder a ep) es.size 0 es.toList #[] Array.length_toList).1
    unfold pickOrder
    rw [this]
    exact Nat.zero_add _
  · rfl
theorem ord_mem (w : World) (a : Addr) (ep : Nat) (es : Array (Int × Value)) : ∀ e ∈ (ordOf w a ep es).toList, e ∈ es.toList := by
  unfold ordOf
  split
  · intro e he
    rcases (pick_go (w.params.setOrder a ep) es.size 0 es.toList #[] Array.length_toList).2 e he with z | z
    · cases z
    · exact z
  · exact fun _ z => z
def slOf (w : World) (t : SetTable) (i : Nat) : Nat := if byT w = true then 0 else slotAt t.place i
section
variable {prog : Program} {w : World} {A : Around} {E : Value → Shared → Prop} {s : Shared} {a : Addr} {es : Array (Int × Value)} {ep : Nat} {t : SetTable}
theorem by_text {M : Model} {Q : Bool → Shared → Prop} (h : Q (M.w.params.followText "set-order") s) : wpAny M A setsByText Q E s := by
  unfold setsByText
  exact wpAny_bind (wpAny_askSetting (wpAny_pure h))
theorem set_nextI {i : Nat} {Q : Option (Value × Nat) → Shared → Prop} (ho : s.heap.get? a = some { cls := .type "set", data := .set es ep t }) (G : Tab8 t (!byT w)) (hp : t.place.size = es.size) (h7 : es.size ≤ 7) (hi : i ≤ es.size)
    (h : Q ((ordOf w a ep es)[i]?.map fun e => (e.2, slOf w t (i + 1))) s) : wpAny (model prog w) A (setNext a (slOf w t i) i ep) Q E s := by
  have hf := G.fit hp h7
  unfold setNext
  refine wpAny_bind (wpAny_setState_of ho rfl hf ?_)
  dsimp only
  refine wpAny_bind (by_text ?_)
  by_cases hb : byT w = true
  · have hb' : (model prog w).w.params.followText "set-order" = true := hb
    rw [hb']
    rw [if_pos rfl, if_neg (by rw [bne_self_eq_false]; decide)]
    refine wpAny_bind ?_
    unfold setWalk
    refine wpAny_bind (wpAny_setState_of ho rfl hf ?_)
    dsimp only
    refine wpAny_bind (by_text ?_)
    rw [hb', if_pos rfl]
    refine wpAny_bind (wpAny_askSetting (wpAny_pure (wpAny_pure ?_)))
    unfold ordOf slOf at h
    rw [if_pos hb, if_pos hb] at h
    unfold slOf
    rw [if_pos hb]
    exact h
  · have hb0 : byT w = false := by cases hz : byT w with | false => rfl | true => exact absurd hz hb
    have hb' : (model prog w).w.params.followText "set-order" = false := hb0
    rw [hb']
    rw [if_neg (by decide)]
    unfold ordOf slOf at h
    rw [if_neg hb, if_neg hb] at h
    unfold slOf
    rw [if_neg hb]
    rw [if_neg (fun z => by
      have z' : (!t.plain && decide (es.size > 1)) = true := z
      rw [G.plain] at z'
      cases z')]
    refine wpAny_bind (show wpAny _ _ (if (!t.led && !es.isEmpty) = true then unsupported "set:maker-not-led" else pure PUnit.unit) _ _ _ from ?_)
    rw [if_neg (by rw [G.led, hb0]; intro z; cases z)]
    refine wpAny_pure (wpAny_pure ?_)
    have eb : SetTable.below t.place (slotAt t.place i) = i := by
      have := below_mem (ps := t.place.toList) (i := i) G.mem (by rw [Array.length_toList]; omega)
      rwa [Array.toArray_toList] at this
    rw [eb]
    by_cases hlt : i < es.size
    · have hlt2 : i < t.place.size := by omega
      rw [Array.getElem?_eq_getElem hlt] at h ⊢
      rw [Array.getElem?_eq_getElem hlt2]
      have e2 : slotAt t.place (i + 1) = t.place[i] + 1 := by
        show t.place.getD i 0 + 1 = _
        rw [Array.getD_eq_getD_getElem?, Array.getElem?_eq_getElem hlt2]
        rfl
      rw [e2] at h
      exact h
    · rw [Array.getElem?_eq_none (by omega)] at h ⊢
      exact h
def SIter (h : Heap) (I a : Addr) (f i n ep : Nat) : Prop := ∃ o, h.get? I = some o ∧ o.cls = .type "set_iterator" ∧ o.data = .fields #[.int (f : Int) 0, .int (i : Int) 0, .ref a, .int (n : Int) 0, .int (ep : Int) 0]
theorem snext_item {I : Addr} {i : Nat} {e : Int × Value} {Q : Option Value → Shared → Prop} (hit : SIter s.heap I a (slOf w t i) i es.size ep) (ho : s.heap.get? a = some { cls := .type "set", data := .set es ep t }) (G : Tab8 t (!byT w)) (hp : t.place.size = es.size) (h7 : es.size ≤ 7) (hx : (ordOf w a ep es)[i]? = some e)
    (hQ : ∀ h', SIter h' I a (slOf w t (i + 1)) (i + 1) es.size ep → Heap.SameBut I s.heap h' → Q (some e.2) { s with heap := h' }) : wpAny (model prog w) A (pyNext (.ref I)) Q E s := by
  obtain ⟨o, ho1, hc, hd⟩ := id hit
  have hT : s.TypeIs (.ref I) "set_iterator" := ⟨o, ho1, hc⟩
  have hlt : i < es.size := by
    have := (Array.getElem?_eq_some_iff.mp hx).1
    rwa [ord_size] at this
  unfold pyNext
  refine wpAny_bind (wpAny_attempt (wpAny_callSpecial?_slot (name := Str.ofString "__next__") hT slot_snext (wpAny_call_entry slot_snext hT entry_snext ?_ (args_snext _))))
  refine wpAny_bind (wpAny_pure ?_)
  refine wpAny_bind (wpAny_fieldsOf ho1 hd ?_)
  refine wpAny_bind (wpAny_setEntries_of ho rfl (G.fit hp h7) ?_)
  rw [if_neg (by rw [bne_self_eq_false]; decide)]
  dsimp only
  refine wpAny_bind (set_nextI (i := i) (ep := ep) ho G hp h7 (Nat.le_of_lt hlt) ?_)
  rw [hx]
  dsimp only [Option.map]
  refine wpAny_bind (wpAny_setField ho1 hd (by simp) ?_)
  have g1 := Heap.get?_update_self (Obj.mapFields (·.setIfInBounds 0 (rawInt (slOf w t (i + 1) : Nat)))) ho1 (Obj.isFreed_of_fields (Obj.data_mapFields hd _))
  have d1 := Obj.data_mapFields hd (·.setIfInBounds 0 (rawInt (slOf w t (i + 1) : Nat)))
  refine wpAny_bind (wpAny_setField g1 d1 (by simp) ?_)
  have g2 := Heap.get?_update_self (Obj.mapFields (·.setIfInBounds 1 (rawInt ((i : Int) + 1)))) g1 (Obj.isFreed_of_fields (Obj.data_mapFields d1 _))
  have d2 := Obj.data_mapFields d1 (·.setIfInBounds 1 (rawInt ((i : Int) + 1)))
  refine wpAny_pure ⟨_, rfl, wpAny_pure (hQ _ ⟨_, g2, ?_, ?_⟩ ((Heap.SameBut.update ..).trans (Heap.SameBut.update ..)))⟩
  · rw [Obj.cls_mapFields, Obj.cls_mapFields]; exact hc
  · rw [d2]; simp [rawInt]
theorem snext_end {I : Addr} {Q : Option Value → Shared → Prop} (hh : A.handled = none) (hit : SIter s.heap I a (slOf w t es.size) es.size es.size ep) (ho : s.heap.get? a = some { cls := .type "set", data := .set es ep t }) (G : Tab8 t (!byT w)) (hp : t.place.size = es.size) (h7 : es.size ≤ 7)
    (hQ : ∀ h', Heap.ExtBut I s.heap h' → Q none { s with heap := h' }) : wpAny (model prog w) A (pyNext (.ref I)) Q E s := by
  obtain ⟨o, ho1, hc, hd⟩ := id hit
  have hT : s.TypeIs (.ref I) "set_iterator" := ⟨o, ho1, hc⟩
  have hx : (ordOf w a ep es)[es.size]? = none := Array.getElem?_eq_none (by rw [ord_size]; exact Nat.le_refl _)
  unfold pyNext
  refine wpAny_bind (wpAny_attempt (wpAny_callSpecial?_slot (name := Str.ofString "__next__") hT slot_snext (wpAny_call_entry slot_snext hT entry_snext ?_ (args_snext _))))
  refine wpAny_bind (wpAny_pure ?_)
  refine wpAny_bind (wpAny_fieldsOf ho1 hd ?_)
  refine wpAny_bind (wpAny_setEntries_of ho rfl (G.fit hp h7) ?_)
  rw [if_neg (by rw [bne_self_eq_false]; decide)]
  dsimp only
  refine wpAny_bind (set_nextI (i := es.size) (ep := ep) ho G hp h7 (Nat.le_refl _) ?_)
  rw [hx]
  dsimp only [Option.map]
  refine wpAny_bind (wpAny_setField ho1 hd (by simp) ?_)
  refine wpAny_bind ?_
  simp only [newExc, newTuple]
  refine wpAny_bind (wpAny_newObj_type ?_ (by size_fits))
  refine wpAny_bind (m := firstArgMember _ _) (wpAny_of_eq (a := Value.none) (by first | rfl | (simp only [firstArgMember]; rfl)) ?_)
  refine wpAny_newObj_type ?_ (by size_fits)
  simp only [raiseNew]
  refine wpAny_bind (wpAny_handled ?_)
  rw [show A.in1.handled = none from hh]
  refine wpAny_bind (wpAny_pure (wpAny_throw ?_))
  refine wpAny_bind (wpAny_isInstance (T := "StopIteration") (b := true) ⟨_, Heap.get?_push_size _ rfl, rfl⟩ isSubtype_stop ?_)
  exact wpAny_pure (hQ _ (((Heap.SameBut.update ..).extBut.push _).push _))
theorem siter_self {I : Addr} {f i n : Nat} {Q : Value → Shared → Prop} (hit : SIter s.heap I a f i n ep) (h : Q (.ref I) s) : wpAny (model prog w) A (pyIter (.ref I)) Q E s := by
  obtain ⟨o, ho1, hc, hd⟩ := hit
  have hT : s.TypeIs (.ref I) "set_iterator" := ⟨o, ho1, hc⟩
  refine wpAny_pyIter_slot hT slot_self (wpAny_call_entry slot_self hT entry_sself ?_ (args_sself _))
  exact wpAny_pure ⟨_, rfl, "set_iterator", _, hT, slot_snext.lookup, h⟩
theorem set_iter {Q : Value → Shared → Prop} (ho : s.heap.get? a = some { cls := .type "set", data := .set es ep t }) (G : Tab8 t (!byT w)) (hp : t.place.size = es.size) (h7 : es.size ≤ 7)
    (hQ : Q (.ref s.heap.objs.size) { s with heap := s.heap.push { cls := .type "set_iterator", data := .fields #[.int 0 0, .int 0 0, .ref a, .int (es.size : Int) 0, .int (ep : Int) 0] } }) : wpAny (model prog w) A (pyIter (.ref a)) Q E s := by
  have hT : s.TypeIs (.ref a) "set" := ⟨_, ho, rfl⟩
  have hf := G.fit hp h7
  refine wpAny_pyIter_slot hT PySem.F.slot_set_iter (wpAny_call_entry PySem.F.slot_set_iter hT entry_siter ?_ (PySem.F.args_set_iter_1 _))
  unfold Builtin.«frozenset.__iter__»
  refine wpAny_bind (wpAny_pure ?_)
  refine wpAny_bind ?_
  unfold Builtin.Frozenset.sizeOf
  refine wpAny_bind (wpAny_setEntries_of ho rfl hf (wpAny_pure ?_))
  refine wpAny_bind ?_
  unfold setDrawn
  refine wpAny_bind (wpAny_setState_of ho rfl hf ?_)
  dsimp only
  refine wpAny_bind (by_text (wpAny_pure ?_))
  rw [if_neg (fun z => by
    have z' : (!(model prog w).w.params.followText "set-order" && (!t.plain && decide (es.size > 1))) = true := z
    rw [G.plain, Bool.not_true, Bool.false_and, Bool.and_false] at z'
    cases z')]
  refine wpAny_bind (wpAny_pure (wpAny_bind ?_))
  unfold setEpoch
  refine wpAny_bind (wpAny_setState_of ho rfl hf (wpAny_pure ?_))
  dsimp only
  refine wpAny_bind ?_
  unfold newFields
  refine wpAny_newObj_type (wpAny_pure ⟨_, rfl, "set_iterator", _, ⟨_, Heap.get?_push_size _ rfl, rfl⟩, slot_snext.lookup, ?_⟩)
  simpa [rawInt] using hQ
theorem hint_set {Q : Bool → Shared → Prop} (hT : s.TypeIs (.ref a) "set") (h : Q false s) : wpAny (model prog w) A (Builtin.List.listLengthHint (.ref a)) Q E s := by
  unfold Builtin.List.listLengthHint
  refine wpAny_bind (wpAny_specialOf hT PySem.F.slot_set_len.lookup ?_)
  generalize hid : ("set.__len__" : String) = id9
  wp_delta
  rw [show splitId id9 = some ("set", "__len__") from by subst hid; decide +kernel]
  subst hid
  refine wpAny_bind (wpAny_isInstance (T := "set") (b := true) hT (by rw [isSubtype_type]; kernel_rfl) ?_)
  refine wpAny_ite_split (fun hab => absurd hab (by decide)) (fun _ => ?_)
  refine wpAny_ite_split (fun _ => ?_) (fun hab => absurd (by decide +kernel) hab)
  refine wpAny_bind (wpAny_typeOf hT ?_)
  exact wpAny_pure h
theorem set_walks (hh : A.handled = none) (I : Addr) (hne : a ≠ I) (G : Tab8 t (!byT w)) (hp : t.place.size = es.size) (h7 : es.size ≤ 7) :
    Walks prog w A I [I, a] [I] es.size (fun i v => (ordOf w a ep es)[i]?.map (·.2) = some v) (fun i h => SIter h I a (slOf w t i) i es.size ep ∧ h.get? a = some { cls := .type "set", data := .set es ep t }) where
  sub := fun b hb => by simp at hb; simp [hb]
  frame := fun _ _ _ ⟨⟨o, e1, e2⟩, e3⟩ hk => ⟨⟨o, hk I (by simp) o e1, e2⟩, hk a (by simp) _ e3⟩
  item := fun i s Q E hi st hQ => by
    have hlt : i < (ordOf w a ep es).size := by rw [ord_size]; exact hi
    refine snext_item st.1 st.2 G hp h7 (Array.getElem?_eq_getElem hlt) fun h' hit' hs' => ?_
    exact hQ _ h' s.toks (by rw [Array.getElem?_eq_getElem hlt]; rfl) ⟨hit', hs'.extBut a _ hne st.2⟩ fun b o hb e => hs'.extBut b o (fun z => hb (by simp [z])) e
  done := fun s Q E st hQ => snext_end hh st.1 st.2 G hp h7 fun h' he' => hQ h' s.toks fun b o hb e => he' b o (fun z => hb (by simp [z])) e
  self := fun _ _ _ _ st hQ => siter_self st.1 hQ
theorem set_src (G : Tab8 t (!byT w)) (hp : t.place.size = es.size) (h7 : es.size ≤ 7) : PySem.W.KdlSrc prog w "set" a a es.size (fun i v => (ordOf w a ep es)[i]?.map (·.2) = some v) (fun h => h.get? a = some { cls := .type "set", data := .set es ep t }) where
  type := fun s ok => ⟨_, ok, rfl⟩
  there := fun h ok => ⟨Heap.lt_size ok, Heap.lt_size ok⟩
  keep := fun h h' ok k => k a (.inl rfl) _ ok
  notList := by decide
  notTuple := by decide
  hint := fun A E s Q ok h => hint_set ⟨_, ok, rfl⟩ h
  iter := fun A s hh ok => ⟨{ cls := .type "set_iterator", data := .fields #[.int 0 0, .int 0 0, .ref a, .int (es.size : Int) 0, .int (ep : Int) 0] }, _, fun E Q q => set_iter ok G hp h7 q, set_walks hh s.heap.objs.size (Nat.ne_of_lt (Heap.lt_size ok)) G hp h7,
    ⟨_, Heap.get?_push_size _ rfl, rfl, by unfold slOf slotAt; split <;> rfl⟩, Heap.get?_push_of_some _ ok⟩
theorem sorted_set {ns : List Int} {Q : Value → Shared → Prop} (hh : A.handled = none) (hS : SetP prog w (!byT w) s.heap a ns) (h4 : ns.length ≤ 4)
    (h : ∀ (D : Addr) (h' : Heap) (tk : Nat) (out : List Value) (ks : List Int) (c : Nat), s.heap.get? D = none → (∀ b o, s.heap.get? b = some o → h'.get? b = some o) → h'.get? D = some (seqObj "list" out.toArray c) → IntsAre out ks → ks.length = ns.length → Q (.ref D) { s with heap := h', toks := tk }) :
    wpAny (model prog w) A (call (.builtin "sorted") [.ref a]) Q E s := by
  obtain ⟨es, ep, t, ho, hel, hmem, hn, G, hpl⟩ := hS
  have h7 : es.size ≤ 7 := by omega
  refine Calls.call_function_entry kind_sorted plain_sorted entry_sorted (args_sorted1 _) ?_
  unfold Builtin.«sorted»
  refine wpAny_bind (m := checkCount "sorted" 1 1 _) (wpAny_pure ?_)
  refine wpAny_bind (PySem.W.kdu_collect (A := A.in1) (set_src (prog := prog) (a := a) (ep := ep) G hpl h7) hh ho (Nat.le_trans h7 (by decide)) fun h1 tk acc hk hacc => ?_)
  have hl : acc.toList.length = ns.length := by rw [Array.length_toList, hacc.1, hn]
  have intsOf : ∀ vs : List Value, (∀ v ∈ vs, ∃ k u, v = Value.int k u) → ∃ ks, IntsAre vs ks ∧ ks.length = vs.length := by
    intro vs
    induction vs with
    | nil => intro _; exact ⟨[], .nil, rfl⟩
    | cons v r ih =>
      intro hv
      obtain ⟨k, u, rfl⟩ := hv _ List.mem_cons_self
      obtain ⟨ks, a1, a2⟩ := ih fun z hz => hv z (List.mem_cons_of_mem _ hz)
      exact ⟨k :: ks, .cons k u a1, by rw [List.length_cons, List.length_cons, a2]⟩
  obtain ⟨ks, hI, hks⟩ := intsOf acc.toList fun v hv => by
    obtain ⟨j, hj⟩ := List.getElem?_of_mem hv
    have := hacc.2 j v (by rw [← Array.getElem?_toList]; exact hj)
    obtain ⟨e, he, rfl⟩ := Option.map_eq_some_iff.mp this
    have hm := ord_mem w a ep es e (List.mem_of_getElem? (by rw [Array.getElem?_toList]; exact he))
    obtain ⟨⟨k, hk, _⟩, _⟩ := hel e hm
    obtain ⟨u, hu⟩ := Value.isInt_shape (k := k) (v := e.2) hk
    exact ⟨k, u, hu⟩
  refine wpAny_bind (wpAny_newList ?_ (by rw [hl]; exact Nat.le_trans h4 (by decide)))
  have hoL : (h1.push (seqObj "list" acc.toList.toArray 0)).get? h1.objs.size = some (seqObj "list" acc.toList.toArray 0) := Heap.get?_push_size _ rfl
  have hD : s.heap.get? h1.objs.size = none := by
    cases z : s.heap.get? h1.objs.size with
    | none => rfl
    | some o => exact absurd (Heap.lt_size (hk _ _ z)) (Nat.lt_irrefl _)
  refine wpAny_bind (wpAny_holding (wpAny_call_entry slot_list_sort ⟨_, hoL, rfl⟩ entry_list_sort (list_sort_tree (s := { s with heap := h1.push (seqObj "list" acc.toList.toArray 0), toks := tk }) hoL hI (by rw [hl]; omega) fun out ns' a1 a2 a3 => ⟨_, rfl, ?_⟩) (args_list_sort _)))
  refine wpAny_pure ⟨_, rfl, ?_⟩
  obtain ⟨c, hc⟩ := sortedHeap_at (out := out) hoL
  refine h h1.objs.size _ tk out.toList ns' c hD (fun b o e => ?_) (by rw [Array.toArray_toList]; exact hc) a1 (by rw [a2.length_eq, hks, hl])
  have lt1 := Heap.lt_size (hk _ _ e)
  have lt2 : b < (h1.push (seqObj "list" acc.toList.toArray 0)).objs.size := by rw [Heap.size_push]; exact Nat.lt_succ_of_lt lt1
  rw [sortedHeap_old (Nat.ne_of_lt lt1) lt2]
  exact Heap.get?_push_of_some _ (hk _ _ e)
end
end L2
set_option Elab.async false
set_option linter.all false
set_option maxRecDepth 100000
set_option maxHeartbeats 4000000
namespace L2
open PySem PySem.Spec PyProof.Rows
section
variable {prog : Program} {w : World} {A : Around} {R : Result → Shared → Prop} {J : Addr} {fp wr : List Addr} {G : Array GenState → Array GenState → Prop} {n : Nat} {P : Nat → Value → Prop} {St : Nat → Shared → Prop} {T : Bool}
theorem SetP.at {h h' : Heap} {a : Addr} {ns : List Int} (x : SetP prog w T h a ns) (e : ∀ o, h.get? a = some o → h'.get? a = some o) : SetP prog w T h' a ns := by
  obtain ⟨es, ep, t, ho, r⟩ := x
  exact ⟨es, ep, t, e _ ho, r⟩
theorem set_loop (W : WalksS prog w A.in1 J fp wr G n P St) (B : Addr) (hB : B ∉ fp) (val : Nat → Int) (hval : ∀ i v, P i v → ∃ t, v = .int (val i) t) (h4 : n ≤ 4) :
    ∀ (k i : Nat) (s : Shared), n - i = k → i ≤ n → St i s → SetP prog w T s.heap B (firstMet val i) → (∀ s', Moved (B :: wr) G s s' → SetP prog w T s'.heap B (firstMet val n) → R (.ok (.ret .none)) s') →
      codeAny (model prog w) A (.builtin "set.update.loop" ⟨[.ref B, .ref J], []⟩) R s := by
  have hBw : B ∉ wr := fun z => hB (W.sub _ z)
  have inw : ∀ b ∈ wr, b ∈ B :: wr := fun b z => List.mem_cons_of_mem _ z
  intro k
  induction k with
  | zero =>
    intro i s hk hi hst hS hR
    have hin : i = n := by omega
    subst hin
    refine codeAny_builtin F.entry_set_update_loop ?_
    rw [Around.under_plainId F.plain_set_update_loop _]
    refine wpAny_bind (W.done s _ _ hst fun s' hm => ?_)
    exact wpAny_pure (hR s' (hm.mono inw) (hS.at fun o e => hm.heap B o hBw e))
  | succ k ih =>
    intro i s hk hi hst hS hR
    have hlt : i < n := by omega
    refine codeAny_builtin F.entry_set_update_loop ?_
    rw [Around.under_plainId F.plain_set_update_loop _]
    refine wpAny_bind (W.item i s _ _ hlt hst fun v s' hP hst' hm => ?_)
    obtain ⟨u, rfl⟩ := hval i v hP
    have hS' : SetP prog w T s'.heap B (firstMet val i) := hS.at fun o e => hm.heap B o hBw e
    refine wpAny_bind (wpAny_holding ?_)
    unfold setAdd
    refine wpAny_holding (wpAny_bind ((intKind prog w).pyHash (k := val i) (intKind_is _ _ _ _) ?_))
    refine set_add (s := { s' with toks := s'.toks + 1 }) hS' (by have := firstMet_length_le val i; omega) fun b h' hsb hS2 => ?_
    rw [← firstMet_succ] at hS2
    refine wpAny_pure ⟨plainId_quiet F.plain_set_update_loop _, ih (i + 1) _ (by omega) hlt (W.frame _ s' _ _ hst' (Nat.le_succ _) fun b hb o e => ?_) hS2 fun s'' hm2 hS3 => ?_⟩
    · rw [hsb.2 b (fun z : b = B => hB (z ▸ hb))]; exact e
    · refine hR s'' (Moved.trans W.gtrans ((hm.mono inw).then_heap (Nat.le_succ _) fun b o hb e => ?_) hm2) hS3
      rw [hsb.2 b (fun z : b = B => hb (z ▸ List.mem_cons_self))]; exact e
end
section
variable {prog : Program} {w : World} {A : Around} {E : Value → Shared → Prop} {s : Shared}
abbrev newSetObj (w : World) : Obj := { cls := .type "set", dict := none, data := .set #[] 0 (.fresh 0 0 (!byT w)) }
theorem new_set (x : Value) {Q₁ : Value → Shared → Prop} (h : Q₁ (.ref s.heap.objs.size) { s with heap := s.heap.push (newSetObj w) }) : codeAny (model prog w) A (.call (.builtin "set.__new__") ⟨[.type "set", x], []⟩) (wants Q₁ E) s := by
  refine codeAny_of_tree ?_
  show wpAny _ A.in1 (do checkBuiltinCall "set.__new__" ⟨[.type "set", x], []⟩; again (.builtin "set.__new__" ⟨[.type "set", x], []⟩)) _ _ s
  refine wpAny_bind (wpAny_of_eq (F.newCall_set_1 x) (wpAny_pure ⟨plainId_quiet F.plain_set_new _, codeAny_builtin F.entry_set_new ?_⟩))
  rw [Around.under_plainId F.plain_set_new _]
  unfold Builtin.«set.__new__» Builtin.Frozenset.newClass
  have hsub := sub_set_self
  obtain ⟨h9, g9, d9, t9, o9⟩ := s
  dsimp only
  wp_walk
  refine wpAny_askSetting (wpAny_pure ?_)
  dsimp only
  simp only [newObj]
  refine wpAny_bind (wpAny_alloc (wpAny_pure ?_))
  exact wpAny_pure h
theorem fresh_set (ns : List Int) (hn : ns = []) {h : Heap} : SetP prog w (!byT w) (h.push (newSetObj w)) h.objs.size ns := by
  subst hn
  exact ⟨#[], 0, _, Heap.get?_push_size _ rfl, fun e he => by simp at he, fun k => by simp, rfl, fresh_tab _, rfl⟩
theorem set_of_list {l : Addr} {items : Array Value} {ns : List Int} {Q : Value → Shared → Prop} (hh : A.handled = none) (hl : s.heap.IsList l items) (hi : IntsAre items.toList ns) (h4 : items.size ≤ 4)
    (h : ∀ (h' : Heap) (tk : Nat), SetP prog w (!byT w) h' s.heap.objs.size (firstMet (fun i => ns.getD i 0) items.size) → (∀ b o, s.heap.get? b = some o → h'.get? b = some o) → Q (.ref s.heap.objs.size) { s with heap := h', toks := tk }) :
    wpAny (model prog w) A (call (.type "set") [.ref l]) Q E s := by
  obtain ⟨c, tl, hmro⟩ := F.called_set.mro
  have f1 := F.called_set.made
  have f2 := F.called_set.sub
  refine wpAny_call (codeAny_of_tree ?_)
  show wpAny _ _ (callAny (.type "set") _) _ _ _
  refine wpAny_pure ⟨Code.quiet_builtin _ (by decide +kernel), codeAny_builtin F.entry_type_call ?_⟩
  rw [Around.under_plain (weight_type_call_type "set" [.ref l] []) rfl]
  have f3 := F.called_set.notType
  have f4 := F.called_set.canCreate
  have f5 := F.typeCall_set_1 (.ref l)
  repeat (any_goals (first | assumption | wp_step))
  refine codeAny_mono (new_set (.ref l) (E := E) (Q₁ := fun obj s₁ => obj = .ref s.heap.objs.size ∧ s₁ = { s with heap := s.heap.push (newSetObj w) }) ⟨rfl, rfl⟩) fun r s₁ hr => ?_
  cases r with
  | error e => exact hr
  | ok fl =>
    cases fl with
    | ret obj =>
      obtain ⟨rfl, rfl⟩ := hr
      have hS : (s.heap.push (newSetObj w)).get? s.heap.objs.size = some (newSetObj w) := Heap.get?_push_size _ rfl
      have hT : Shared.TypeIs { s with heap := s.heap.push (newSetObj w) } (.ref s.heap.objs.size) "set" := ⟨_, hS, rfl⟩
      have f6 := F.called_set.init.lookup
      have f7 := F.called_set.init.bind (.ref s.heap.objs.size)
      repeat (any_goals (first | assumption | wp_step))
      refine codeAny_mono (codeAny_call_builtin (R := wants (fun r s₂ => r = .none ∧ ∃ h' tk, s₂ = { s with heap := h', toks := tk } ∧ SetP prog w (!byT w) h' s.heap.objs.size (firstMet (fun i => ns.getD i 0) items.size) ∧ (∀ b o, s.heap.get? b = some o → h'.get? b = some o)) E)
        F.called_set.init.plain F.entry_set_init (check_set_init_1 hT ?_)) fun r2 s2 hr2 => ?_
      · obtain ⟨ol, hol, hcl, nl, hdl⟩ := hl
        obtain ⟨oc, od, odt, osl⟩ := ol
        simp only at hcl hdl
        subst hcl; subst hdl
        have hol' := Heap.get?_push_of_some (newSetObj w) hol
        have f8 := F.sub_list_set
        have f9 := F.sub_list_frozenset
        have hne : (Value.type "list" == Value.type "dict") = false := by decide
        have hl1 : (s.heap.push (newSetObj w)).IsList l items := ⟨_, hol', rfl, nl, rfl⟩
        unfold Builtin.«set.__init__» noKeywords Builtin.Frozenset.updateFrom
        generalize hPI : pyIter = PI
        wp_walk
        subst hPI
        refine wpAny_pyIter_list hl1 ?_
        refine wpAny_bind (wpAny_runValue ?_)
        have hlS : l < s.heap.objs.size := Heap.lt_size hol
        have hh3 : A.in1.in1.in1.handled = none := by simp [hh]
        have hneI : l ≠ (s.heap.push (newSetObj w)).objs.size := by rw [Heap.size_push]; exact Nat.ne_of_lt (Nat.lt_succ_of_lt hlS)
        have hBf : s.heap.objs.size ∉ [(s.heap.push (newSetObj w)).objs.size, l] := by
          rw [Heap.size_push]
          intro z
          rcases List.mem_cons.mp z with y | y
          · exact absurd y (Nat.ne_of_lt (Nat.lt_succ_self _))
          · exact absurd (List.mem_singleton.mp y) (Nat.ne_of_gt hlS)
        refine set_loop (T := !byT w) ((Walks.list hh3 _ l hneI items).toS) s.heap.objs.size hBf (fun i => ns.getD i 0) (fun i v hv => IntsAre.int_at hi i v (by rw [Array.getElem?_toList]; exact hv)) h4 (items.size - 0) 0 _ (by omega) (Nat.zero_le _)
          ⟨⟨_, Heap.get?_push_size _ rfl, rfl, rfl⟩, (hl1.push _)⟩ ((fresh_set _ rfl).at fun o e => Heap.get?_push_of_some _ e) fun s' hm hS' => ?_
        obtain ⟨h', g', d', tk', os'⟩ := s'
        have eg : g' = s.gens := hm.gens
        have ed : d' = s.drawn := hm.drawn
        have eo : os' = s.os := hm.os
        subst eg; subst ed; subst eo
        refine wpAny_pure (wpAny_pure ⟨rfl, h', tk', rfl, hS', fun b o e => ?_⟩)
        have hb := Heap.lt_size e
        refine hm.heap b o (fun z => ?_) (Heap.get?_push_of_some _ (Heap.get?_push_of_some _ e))
        rcases List.mem_cons.mp z with y | y
        · exact absurd y (Nat.ne_of_lt hb)
        · have := List.mem_singleton.mp y
          rw [Heap.size_push] at this
          exact absurd this (Nat.ne_of_lt (Nat.lt_succ_of_lt hb))
      · cases r2 with
        | error e => exact hr2
        | ok fl2 =>
          cases fl2 with
          | ret r =>
            obtain ⟨rfl, h', tk, rfl, hS', hk'⟩ := hr2
            repeat (any_goals (first | assumption | wp_step))
            exact h _ _ hS' hk'
          | _ => exact hr2.elim
    | _ => exact hr.elim
end
section
variable {X : Cx}
def diffs (ns : List Int) : Nat := (firstMet (fun i => ns.getD i 0) ns.length).length
def tSortSet (K : PySem.W.Frag) (te : TE) : TE := fun σ H Q => te σ H fun x H1 => ∃ a ns, x = .ref a ∧ SqL K H1 a (ns.map V.int) ∧ ns.length ≤ 4 ∧ ∀ (l : Addr) (ks : List Int), H1 l = none → ks.length = diffs ns → Q (.ref l) (upd H1 l (.lst (ks.map V.int)))
theorem ints_of_vals : ∀ {vs : List Value} {ks : List Int}, IntsAre vs ks → Vals (ks.map V.int) vs
  | _, _, .nil => .nil
  | _, _, .cons n t r => .cons ⟨t, rfl⟩ (ints_of_vals r)
theorem vals_of_ints : ∀ {ks : List Int} {vs : List Value}, Vals (ks.map V.int) vs → IntsAre vs ks
  | [], _, .nil => .nil
  | k :: ks, _, .cons r rr => by
    obtain ⟨t, rfl⟩ := r
    exact .cons k t (vals_of_ints rr)
theorem pe_sortset {e : Expr} {te : TE} {p p2 pos pos2 : Pos} (hc : X.calm = true) (hg : Gl X "sorted") (hm : X.mg "sorted" = none) (hg2 : Gl X "set") (hm2 : X.mg "set" = none) (he : PE X e te)
    (hs : starEach [e] X.env = [(false, eval e X.env)] := by rfl) (hs2 : starEach [.Call (.Name "set" p2) [e] [] pos2] X.env = [(false, eval (.Call (.Name "set" p2) [e] [] pos2) X.env)] := by rfl) :
    PE X (.Call (.Name "sorted" p) [.Call (.Name "set" p2) [e] [] pos2] [] pos) (tSortSet X.K te) := by
  intro pins s σ H Q I h
  refine Call_ (ld_blt I hg hm boot_sorted (PyProof.Rows.callWith_builtin1 (args_one hs2 ?_) hs2 rfl))
  refine Call_ (ld_blt I hg2 hm2 boot_set (PyProof.Rows.callWith_type1 (args_one hs (thn (he pins s σ H _ I h) fun u s1 ⟨x, H1, I1, r1, q1⟩ => ?_)) hs rfl))
  obtain ⟨a, ns, rfl, hq, h4, q⟩ := q1
  cases r1
  obtain ⟨its, rv, pl, hz⟩ := I1.list hq
  have hI := vals_of_ints rv
  have hlen : its.length = ns.length := by have := rv.length; rw [List.length_map] at this; exact this.symm
  have hsz : its.toArray.size = ns.length := by rw [List.size_toArray]; exact hlen
  refine set_of_list (items := its.toArray) (ns := ns) (I.ok.hd hc) pl.isList hI (by omega) fun h2 t2 hS k2 => ?_
  rw [hsz] at hS
  refine sorted_set (s := { s1 with heap := h2, toks := t2 }) (I.ok.hd hc) hS (by have := firstMet_length_le (fun i => ns.getD i 0) ns.length; omega) fun D h3 t3 out ks c hD k3 hl hks hkl => ?_
  have hD1 : s1.heap.get? D = none := by
    cases z : s1.heap.get? D with
    | none => rfl
    | some o =>
      have hD' : h2.get? D = none := hD
      rw [k2 _ _ z] at hD'
      cases hD'
  obtain ⟨m, ⟨oL, es, ep, hoL, rL⟩, _⟩ := id I1.loc
  have kk : ∀ b o, s1.heap.get? b = some o → h3.get? b = some o := fun b o z => k3 b o (k2 b o z)
  have hDL : D ≠ X.env.locals := fun z => by rw [z, hoL] at hD1; cases hD1
  obtain ⟨hn, I2⟩ := I1.newList (t' := t3) (ys := ks.map V.int) (its := out) (c := c) hD1 hDL (fun b o _ z => kk b o z) (fun m hm => by
    obtain ⟨o, es, ep, ho, r⟩ := hm
    exact ⟨o, es, ep, kk _ _ ho, r⟩) ⟨oL, kk _ _ hoL⟩ hl (ints_of_vals hks) (by rw [List.length_map, hkl]; have := firstMet_length_le (fun i => ns.getD i 0) ns.length; exact Nat.le_trans (by omega : _ ≤ 4) (by decide))
  exact ⟨.ref D, _, I2, rfl, q D ks hn hkl⟩
end
end L2
set_option Elab.async false
set_option linter.all false
set_option maxRecDepth 100000
set_option maxHeartbeats 4000000
namespace L2
open PySem PySem.Spec PyProof.Rows
section
variable {X : Cx}
def rCountB : V → List V → Hp → VK → Prop := fun x vs H Q => ∃ (l : Addr) (bs : List Bool), x = .ref l ∧ vs = [.bl true] ∧ H l = some (.lst (bs.map V.bl)) ∧ Q (.int ((bs.count true : Nat) : Int)) H
theorem bools_count : ∀ {bs : List Bool} {us : List Value}, Vals (bs.map V.bl) us → us.countP (isBoolOf true) = bs.count true ∧ ∀ y ∈ us, ∃ b, y = Value.bool b
  | [], _, .nil => ⟨rfl, fun y hy => nomatch hy⟩
  | b :: bs, _, .cons r rr => by
    cases (show _ = Value.bool b from r)
    obtain ⟨h1, h2⟩ := bools_count rr
    refine ⟨?_, fun y hy => ?_⟩
    · rw [List.countP_cons, List.count_cons, h1]
      rfl
    · rcases List.mem_cons.mp hy with z | z
      · exact ⟨b, z⟩
      · exact h2 y z
theorem mt_countB : MtM X "list.count" rCountB := by
  intro pins s σ H x vs v us Q I rx rv h
  obtain ⟨l, bs, rfl, rfl, hH, q⟩ := h
  cases rx
  obtain ⟨u, rfl, ru⟩ := vals1 rv
  cases (show u = Value.bool true from ru)
  obtain ⟨z, its, n, r, hl, e⟩ := I.lstM hH
  obtain ⟨h1, h2⟩ := bools_count r
  refine call_meets PySem.F.slot_list_count ⟨_, e, rfl⟩ PySem.F.entry_list_count (PySem.F.args_list_count_2 _ _) (SeqAt.list_countAt l its.toArray n none #[] (.bool true) (isBoolOf true)) ⟨e, fun y hy => ?_, ?_⟩
  · obtain ⟨b, rfl⟩ := h2 y (by simpa using hy)
    exact SeqAt.EqAt.bool_bool b true
  · refine ⟨.int _, H, I.tok _, ⟨_, rfl⟩, ?_⟩
    have e2 : its.toArray.toList.countP (isBoolOf true) = bs.count true := h1
    rw [e2]
    exact q
theorem call_minL (hc : X.calm = true) : CallR X (.builtin "min") (fun xs H Q => ∃ (p : Addr) (ns : List Int), xs = [.ref p] ∧ SqL X.K H p (ns.map V.int) ∧ 0 < ns.length ∧ ∀ m, m ∈ ns → (∀ a ∈ ns, m ≤ a) → Q (.int m) H) := by
  intro pins s σ H xs us Q I r h
  obtain ⟨p, ns, rfl, hp, hn, q⟩ := h
  obtain ⟨u, rfl, ru⟩ := vals1 r
  cases ru
  obtain ⟨its, r1, p1, _⟩ := I.list hp
  obtain ⟨ys, rfl, rfl⟩ := vals_ints2 r1
  rw [List.length_map] at hn
  have e : intItems ys.toArray = (ys.map (fun p => Value.int p.1 p.2)).toArray := by simp [intItems]
  have val : ∀ j, j < ys.length → ∃ y, ys[j]? = some y ∧ PySem.numAt ys.toArray j = y.1 := fun j hj => ⟨ys[j], List.getElem?_eq_getElem hj, by simp [PySem.numAt, hj]⟩
  refine min_intList (xs := ys.toArray) (I.ok.hd hc) (by rw [e]; exact p1.isList) (by rw [List.size_toArray]; exact hn) fun v h' tk hv hk => ?_
  obtain ⟨t, rfl⟩ := intItems_at hv
  obtain ⟨h1, h2⟩ := argBest_lt (PySem.numAt ys.toArray) (ys.toArray.size - 1)
  generalize argBest (fun i j => decide (PySem.numAt ys.toArray i < PySem.numAt ys.toArray j)) (ys.toArray.size - 1) = b at h1 h2 ⊢
  have hs : ys.toArray.size = ys.length := List.size_toArray
  obtain ⟨y, y1, y2⟩ := val b (by omega)
  refine ⟨.int _, H, I.kept hk, ⟨t, rfl⟩, q _ ?_ fun a ha => ?_⟩
  · rw [y2]
    exact List.mem_map.mpr ⟨y, List.mem_of_getElem? y1, rfl⟩
  · obtain ⟨x, hx, rfl⟩ := List.mem_map.mp ha
    obtain ⟨j, hj⟩ := List.getElem?_of_mem hx
    have hjl := (List.getElem?_eq_some_iff.mp hj).1
    obtain ⟨x', x1, x2⟩ := val j hjl
    rw [hj] at x1
    cases x1
    rw [← x2]
    exact h2 j (by omega)
end
end L2
namespace Ts
open PySem L2
def top (i : Nat) : Stmt := PySem.Challenge.pw_topslip_k08_refused.main.body.getD i (.Pass ⟨0, 0, 0, 0⟩)
abbrev sDepth : Stmt := top 9
abbrev sCRows : Stmt := top 10
abbrev sCKeys : Stmt := top 11
abbrev sCKey : Stmt := top 12
abbrev sCVal : Stmt := top 13
abbrev sCValN : Stmt := top 14
abbrev sCNums : Stmt := top 15
abbrev sCTop : Stmt := top 16
abbrev sCount : Stmt := top 17
abbrev sPair : Stmt := top 19
abbrev sParts : Stmt := top 20
abbrev sBelow : Stmt := top 21
abbrev sRoot : Stmt := top 22
abbrev sSmall : Stmt := top 23
abbrev sTop : Stmt := top 25
abbrev sRows : Stmt := top 26
abbrev sPlace : Stmt := top 27
abbrev sNumBy : Stmt := top 28
abbrev sValBy : Stmt := top 29
abbrev sPaired : Stmt := top 30
abbrev sParted : Stmt := top 31
abbrev sSlip : Stmt := top 33
abbrev sTaken : Stmt := top 34
abbrev sMoved : Stmt := top 35
abbrev sLeads : Stmt := top 36
abbrev sLedUp : Stmt := top 38
abbrev sPairAt : Stmt := top 39
abbrev sSpan : Stmt := top 41
abbrev sIsSpan : Stmt := top 42
abbrev sCSpan : Stmt := top 43
abbrev sWithin : Stmt := top 44
abbrev sLevelsOf : Stmt := top 45
abbrev sOutside : Stmt := top 46
abbrev sLeads6 : Stmt := top 47
abbrev sDiffer : Stmt := top 50
abbrev sHalves : Stmt := top 51
abbrev sUnlike : Stmt := top 52
abbrev sAt : Stmt := top 54
abbrev sFirstWays : Stmt := top 55
abbrev sOtherWays : Stmt := top 56
abbrev sSaid : Stmt := top 57
abbrev sWordDue : Stmt := top 58
abbrev sRefuses : Stmt := top 59
abbrev sAsDue : Stmt := top 60
abbrev sLaw : Stmt := top 61
end Ts
namespace Ts
open PySem L2
def bb : Nat := 1000000
def rl : Nat := 17904
def pl : Nat := 17900
theorem two_dl : 2 < 2 ^ dl := Nat.lt_of_lt_of_le (show 2 < 2 ^ 2 by decide) (Nat.pow_le_pow_right (by decide) (by decide))
theorem small_dl {n : Nat} (h : n < 16) : n < 2 ^ dl := Nat.lt_of_lt_of_le (show n < 2 ^ 4 by omega) (Nat.pow_le_pow_right (by decide) (by decide))
inductive spBelow (vs : List V) (H : Hp) (Q : VK) (E_ : XK) : Prop where
  | mk (n : Nat) (f0 : vs = [.int (n : Int)]) (f1 : n < 2 ^ (bb + 1)) (f2 : Q (.int ((tri n : Nat) : Int)) H) : spBelow  vs H Q E_
inductive spSmall (vs : List V) (H : Hp) (Q : VK) (E_ : XK) : Prop where
  | mk (n : Nat) (f0 : vs = [.int (n : Int)]) (f1 : n < 16) (f2 : Q (.int ((sqrtN n : Nat) : Int)) H) : spSmall  vs H Q E_
inductive spRoot (k : Nat) (vs : List V) (H : Hp) (Q : VK) (E_ : XK) : Prop where
  | mk (n : Nat) (f0 : vs = [.int (n : Int)]) (f1 : n < 2 ^ (2 ^ k + 3)) (f2 : n < 2 ^ rl) (f3 : Q (.int ((sqrtN n : Nat) : Int)) H) : spRoot k vs H Q E_
inductive spPair (vs : List V) (H : Hp) (Q : VK) (E_ : XK) : Prop where
  | mk (a b : Nat) (f0 : vs = [.int (a : Int), .int (b : Int)]) (f1 : a < 2 ^ bb) (f2 : b < 2 ^ bb) (f3 : Q (.int ((pairN a b : Nat) : Int)) H) : spPair  vs H Q E_
inductive spParts (vs : List V) (H : Hp) (Q : VK) (E_ : XK) : Prop where
  | mk (n a b : Nat) (f0 : vs = [.int (n : Int)]) (f1 : n < 2 ^ pl) (f2 : a = oneN n) (f3 : b = twoN n) (f4 : ∀ p, H p = none → Q (.ref p) (upd H p (.tup [.int (a : Int), .int (b : Int)]))) : spParts  vs H Q E_
section
variable {P : Program} {w : World} {K : PySem.W.Frag} {mg : Str → Option Value} {base : Heap} {f : Addr} {fd : FuncData}
theorem scBelow : FnScope ["total"] ["total"] (defScope sBelow) := ⟨rfl, rfl, rfl, by decide +kernel, rfl, by decide +kernel, by decide +kernel⟩
theorem ok_below (F : Fun K "pairs_below" "pairs_below" sBelow f fd) : FnOk P w K mg base CX0 1 f fd ["total"] spBelow := by
  refine F.ok scBelow (fun vs H Q E h => ?_) (fun cdv A outer s H vs Q E hr h => ?_)
  · obtain ⟨n, rfl, _⟩ := h
    rfl
  obtain ⟨n, rfl, hn, q⟩ := h
  refine ⟨_, pss_one (ps_ret (pe_op n_div (pe_op n_mul (pv 0) (pe_op n_add (pv 0) pe_int)) pe_int)), ?_⟩
  exact ⟨_, rfl, _, rfl, n, 1, n + 1, rfl, rfl, trivial, rfl, n, n + 1, n * (n + 1), rfl, rfl, ⟨bb + 1, bb + 2, hn, succ_lt hn, by decide⟩, rfl, n * (n + 1), 2, tri n, rfl, rfl, ⟨by decide, two_dl⟩, rfl, q⟩
theorem scSmall : FnScope ["number", "root"] ["number"] (defScope sSmall) := ⟨rfl, rfl, rfl, by decide +kernel, rfl, by decide +kernel, by decide +kernel⟩
theorem ok_small (F : Fun K "small_root_of" "small_root_of" sSmall f fd) : FnOk P w K mg base CX0 1 f fd ["number"] spSmall := by
  refine F.ok scSmall (fun vs H Q E h => ?_) (fun cdv A outer s H vs Q E hr h => ?_)
  · obtain ⟨n, rfl, _⟩ := h
    rfl
  obtain ⟨n, rfl, hn, q⟩ := h
  refine ⟨_, pss_cons (ps_set (i := 1) scSmall.nd rfl (Or.inl rfl) pe_int)
    (pss_cons (ps_while PassesOwn.never (pt_cmpR op_le (pe_op n_mul (pe_op n_add (pv 1) pe_int) (pe_op n_add (pv 1) pe_int)) (pv 0) (nomark _))
      (pss_one (ps_set (i := 1) scSmall.nd rfl (Or.inl rfl) (pe_op n_add (pv 1) pe_int))))
    (pss_one (ps_ret (pv 1)))), ?_⟩
  refine while_on (fun m σ H' => ∃ r : Nat, σ = [some (.int (n : Int)), some (.int (r : Int))] ∧ r * r ≤ n ∧ H' = H ∧ m = 16 - r) 16 ⟨0, rfl, Nat.zero_le _, rfl, rfl⟩ ?_
  rintro m σ H' ⟨r, rfl, hr2, rfl, rfl⟩
  have h4 : r < 4 := sq_lt (show r * r < 4 * 4 by omega)
  refine ⟨_, rfl, r, 1, r + 1, rfl, rfl, trivial, rfl, _, rfl, r, 1, r + 1, rfl, rfl, trivial, rfl, r + 1, r + 1, (r + 1) * (r + 1), rfl, rfl, ⟨5, 5, by omega, by omega, by decide⟩, rfl, _, rfl, _, _, rfl, rfl, _, rfl, ?_⟩
  refine ite3 (fun c => ?_) (fun c => ?_)
  · exact ⟨_, fun _ _ z => z, _, rfl, r, 1, r + 1, rfl, rfl, trivial, rfl, 16 - (r + 1), by omega, r + 1, rfl, by omega, rfl, rfl⟩
  · have e : r = sqrtN n := root_unique hr2 (by omega)
    exact ⟨_, rfl, by rw [e]; exact q⟩
theorem scRoot : FnScope ["number", "cut", "near", "nearer"] ["number"] (defScope sRoot) := ⟨rfl, rfl, rfl, by decide +kernel, rfl, by decide +kernel, by decide +kernel⟩
theorem guess_lt {n : Nat} (h : n < 2 ^ rl) : (sqrtN (n / 2 ^ (2 * (bitN n / 4))) + 1) * 2 ^ (bitN n / 4) < 2 ^ dl := by
  have hq : bitN n ≤ rl := bitN_le h
  have hb := bitN_lt n
  generalize bitN n = q at hq hb ⊢
  have hp : 0 < 2 ^ (2 * (q / 4)) := Nat.two_pow_pos _
  have h1 : n / 2 ^ (2 * (q / 4)) < 2 ^ (2 * ((q - 2 * (q / 4) + 1) / 2)) := by
    rw [Nat.div_lt_iff_lt_mul hp, ← Nat.pow_add]
    exact lt_pow_mono hb (by omega)
  have h2 := sqrt_lt h1
  have h3 : (sqrtN (n / 2 ^ (2 * (q / 4))) + 1) * 2 ^ (q / 4) ≤ 2 ^ ((q - 2 * (q / 4) + 1) / 2) * 2 ^ (q / 4) := Nat.mul_le_mul_right _ h2
  rw [← Nat.pow_add] at h3
  have e : rl = 17904 := rfl
  have e2 : dl = 9000 := rfl
  exact Nat.lt_of_le_of_lt h3 (Nat.pow_lt_pow_right (by decide) (by omega))
theorem ok_root {g : Addr} {gd : FuncData} (F : Fun K "root_of" "root_of" sRoot f fd) (bF : Binds K fd ["number"] []) (mF : mg "root_of" = some (.ref f))
    (G : FnOk P w K mg base CX0 1 g gd ["number"] spSmall) (bG : Binds K gd ["number"] []) (kG : PySem.W.keepIn K (.ref g) = true) (mG : mg "small_root_of" = some (.ref g)) :
    ∀ k : Nat, FnOk P w K mg base CX0 (k + 2) f fd ["number"] (spRoot k)
  | 0 => by
    refine F.ok scRoot (fun vs H Q E h => ?_) (fun cdv A outer s H vs Q E hr h => ?_)
    · obtain ⟨n, rfl, _⟩ := h
      rfl
    obtain ⟨n, rfl, hn, _, q⟩ := h
    have hn' : n < 16 := hn
    refine ⟨_, pss_cons (ps_if (pt_cmpR op_lt (pv 0) pe_int (nomark _)) (pss_one (ps_ret (pe_call G hr rfl mG kG bG .nil pass0 (pa_cons (pv 0) pa_nil)))) pss_nil) pss_never, ?_⟩
    refine ⟨_, rfl, _, _, rfl, rfl, _, rfl, iteY (by omega) ?_⟩
    exact ⟨_, rfl, n, rfl, hn', q⟩
  | k + 1 => by
    have ih := ok_root F bF mF G bG kG mG k
    refine F.ok scRoot (fun vs H Q E h => ?_) (fun cdv A outer s H vs Q E hr h => ?_)
    · obtain ⟨n, rfl, _⟩ := h
      rfl
    obtain ⟨n, rfl, hn, hrl, q⟩ := h
    have hr1 : Room 1 _ := hr.mono (by omega)
    refine ⟨_, pss_cons (ps_if (pt_cmpR op_lt (pv 0) pe_int (nomark _)) (pss_one (ps_ret (pe_call G hr1 rfl mG kG bG .nil pass0 (pa_cons (pv 0) pa_nil)))) pss_nil)
      (pss_cons (ps_set (i := 1) scRoot.nd rfl (Or.inl rfl) (pe_op n_div (pe_bm0 PySem.F.plainAttrs_int PyProof.Rows.slot_int_bit_length PyProof.Rows.type_int_bit_length mt_bits (pv 0)) pe_int))
      (pss_cons (ps_set (i := 2) scRoot.nd rfl (Or.inl rfl) (pe_op n_shl (pe_op n_add (pe_call ih hr rfl mF F.kp bF .nil pass0 (pa_cons (pe_op n_shr (pv 0) (pe_op n_mul pe_int (pv 1))) pa_nil)) pe_int) (pv 1)))
      (pss_cons (ps_set (i := 3) scRoot.nd rfl (Or.inl rfl) (pe_op n_div (pe_op n_add (pv 2) (pe_op n_div (pv 0) (pv 2))) pe_int))
      (pss_cons (ps_while PassesOwn.never (pt_cmpR op_lt (pv 3) (pv 2) (nomark _))
        (pss_cons (ps_set (i := 2) scRoot.nd rfl (Or.inl rfl) (pv 3))
        (pss_one (ps_set (i := 3) scRoot.nd rfl (Or.inl rfl) (pe_op n_div (pe_op n_add (pv 2) (pe_op n_div (pv 0) (pv 2))) pe_int)))))
      (pss_one (ps_ret (pv 2))))))), ?_⟩
    refine ⟨_, rfl, _, _, rfl, rfl, _, rfl, ite3 (fun c => ?_) (fun c => ?_)⟩
    · exact ⟨_, rfl, n, rfl, by omega, q⟩
    have h16 : 16 ≤ n := by omega
    have hq : bitN n ≤ rl := bitN_le hrl
    have hq2 : bitN n ≤ 2 * 2 ^ k + 3 := by
      have := bitN_le hn
      rw [Nat.pow_succ] at this
      omega
    have erl : rl = 17904 := rfl
    have hs1 : 1 ≤ sqrtN n := le_root (by omega)
    have hdiv : n / 2 ^ (2 * (bitN n / 4)) < 2 ^ rl := Nat.lt_of_le_of_lt (Nat.div_le_self _ _) hrl
    have hroot : sqrtN (n / 2 ^ (2 * (bitN n / 4))) < 2 ^ rl := Nat.lt_of_le_of_lt (by
      obtain ⟨s1, _⟩ := sqrtN_spec (n / 2 ^ (2 * (bitN n / 4)))
      have := Nat.le_mul_self (sqrtN (n / 2 ^ (2 * (bitN n / 4))))
      exact Nat.le_trans this s1) hdiv
    have hg := guess_lt hrl
    have hge := guess_ge n (bitN n / 4)
    have hgp : 0 < (sqrtN (n / 2 ^ (2 * (bitN n / 4))) + 1) * 2 ^ (bitN n / 4) := Nat.mul_pos (Nat.succ_pos _) (Nat.two_pow_pos _)
    refine ⟨_, rfl, rfl, n, rfl, rfl, bitN n, 4, bitN n / 4, rfl, rfl, ⟨by decide, small_dl (by decide)⟩, rfl, ?_⟩
    refine ⟨_, rfl, _, rfl, 2, bitN n / 4, 2 * (bitN n / 4), rfl, rfl, ⟨2, 16, by decide, by omega, by decide⟩, rfl, n, 2 * (bitN n / 4), n / 2 ^ (2 * (bitN n / 4)), rfl, rfl, trivial, rfl, ?_⟩
    refine ⟨_, rfl, root_cut (bitN_lt n) hq2, hdiv, sqrtN (n / 2 ^ (2 * (bitN n / 4))), 1, sqrtN (n / 2 ^ (2 * (bitN n / 4))) + 1, rfl, rfl, trivial, rfl, _, rfl, _, bitN n / 4, (sqrtN (n / 2 ^ (2 * (bitN n / 4))) + 1) * 2 ^ (bitN n / 4), rfl, rfl, ⟨rl + 1, succ_lt hroot, by omega⟩, rfl, ?_⟩
    generalize (sqrtN (n / 2 ^ (2 * (bitN n / 4))) + 1) * 2 ^ (bitN n / 4) = g0 at hg hge hgp ⊢
    refine ⟨_, rfl, _, rfl, _, rfl, n, g0, n / g0, rfl, rfl, ⟨hgp, hg⟩, rfl, g0, n / g0, g0 + n / g0, rfl, rfl, trivial, rfl, g0 + n / g0, 2, (g0 + n / g0) / 2, rfl, rfl, ⟨by decide, two_dl⟩, rfl, ?_⟩
    refine while_on (fun m σ H' => ∃ r : Nat, σ = [some (.int (n : Int)), some (.int ((bitN n / 4 : Nat) : Int)), some (.int (r : Int)), some (.int (((r + n / r) / 2 : Nat) : Int))] ∧ 0 < r ∧ sqrtN n ≤ r ∧ r < 2 ^ dl ∧ H' = H ∧ r = m) g0 ⟨g0, rfl, hgp, hge, hg, rfl, rfl⟩ ?_
    rintro m σ H' ⟨r, rfl, hr0, hr1, hr2, rfl, rfl⟩
    refine ⟨_, rfl, _, rfl, _, _, rfl, rfl, _, rfl, ite3 (fun c => ?_) (fun c => ?_)⟩
    · have c' : (r + n / r) / 2 < r := by omega
      have hm := mean_ge (n := n) hr0
      generalize (r + n / r) / 2 = t at c' hm ⊢
      refine ⟨_, fun _ _ z => z, _, rfl, ?_⟩
      exact ⟨_, rfl, _, rfl, _, rfl, n, t, n / t, rfl, rfl, ⟨by omega, by omega⟩, rfl, t, n / t, t + n / t, rfl, rfl, trivial, rfl, t + n / t, 2, (t + n / t) / 2, rfl, rfl, ⟨by decide, two_dl⟩, rfl, t, c', t, rfl, by omega, hm, by omega, rfl, rfl⟩
    · have e := mean_end hr0 hr1 (by omega)
      exact ⟨_, rfl, by rw [e]; exact q⟩
theorem scPair : FnScope ["one", "two", "total"] ["one", "two"] (defScope sPair) := ⟨rfl, rfl, rfl, by decide +kernel, rfl, by decide +kernel, by decide +kernel⟩
theorem ok_pair {g : Addr} {gd : FuncData} (F : Fun K "pair_of" "pair_of" sPair f fd) (G : FnOk P w K mg base CX0 1 g gd ["total"] spBelow) (bG : Binds K gd ["total"] []) (kG : PySem.W.keepIn K (.ref g) = true) (mG : mg "pairs_below" = some (.ref g)) :
    FnOk P w K mg base CX0 2 f fd ["one", "two"] spPair := by
  refine F.ok scPair (fun vs H Q E h => ?_) (fun cdv A outer s H vs Q E hr h => ?_)
  · obtain ⟨a, b, rfl, _⟩ := h
    rfl
  obtain ⟨a, b, rfl, ha, hb, q⟩ := h
  refine ⟨_, pss_cons (ps_if (pw_or (pt_cmpR op_lt (pv 0) pe_int (nomark _)) (pw_or1 (pt_cmpR op_lt (pv 1) pe_int (nomark _)))).pt pss_never pss_nil)
    (pss_cons (ps_set (i := 2) scPair.nd rfl (Or.inl rfl) (pe_op n_add (pv 0) (pv 1)))
    (pss_one (ps_ret (pe_op n_add (pe_call G hr rfl mG kG bG .nil pass0 (pa_cons (pv 2) pa_nil)) (pv 1))))), ?_⟩
  refine ⟨_, rfl, _, _, rfl, rfl, _, rfl, iteN (by omega) ?_⟩
  refine ⟨_, rfl, _, _, rfl, rfl, _, rfl, iteN (by omega) ?_⟩
  refine ⟨_, rfl, _, rfl, a, b, a + b, rfl, rfl, trivial, rfl, ?_⟩
  exact ⟨_, rfl, a + b, rfl, add_lt ha hb, _, rfl, tri (a + b), b, pairN a b, rfl, rfl, trivial, rfl, q⟩
theorem scParts : FnScope ["number", "total", "two"] ["number"] (defScope sParts) := ⟨rfl, rfl, rfl, by decide +kernel, rfl, by decide +kernel, by decide +kernel⟩
theorem ok_parts {g r : Addr} {gd rd : FuncData} (F : Fun K "parts_of" "parts_of" sParts f fd) (G : FnOk P w K mg base CX0 1 g gd ["total"] spBelow) (bG : Binds K gd ["total"] []) (kG : PySem.W.keepIn K (.ref g) = true) (mG : mg "pairs_below" = some (.ref g))
    (R : FnOk P w K mg base CX0 17 r rd ["number"] (spRoot 15)) (bR : Binds K rd ["number"] []) (kR : PySem.W.keepIn K (.ref r) = true) (mR : mg "root_of" = some (.ref r)) :
    FnOk P w K mg base CX0 18 f fd ["number"] spParts := by
  refine F.ok scParts (fun vs H Q E h => ?_) (fun cdv A outer s H vs Q E hr h => ?_)
  · obtain ⟨n, _, _, rfl, _⟩ := h
    rfl
  obtain ⟨n, _, _, rfl, hn, rfl, rfl, q⟩ := h
  have hr1 : Room 1 _ := hr.mono (by decide)
  have e8 : 8 * n + 1 < 2 ^ (pl + 3) := by
    rw [Nat.pow_add]; omega
  have hpos : 1 ≤ sqrtN (8 * n + 1) := le_root (by omega)
  have htot : totN n < 2 ^ (bb + 1) := by
    have h1 : sqrtN (8 * n + 1) ≤ 8 * n + 1 := Nat.le_trans (Nat.le_mul_self _) (sqrtN_spec _).1
    have h2 : totN n < 2 ^ (pl + 3) := by unfold totN; omega
    exact lt_pow_mono h2 (by decide)
  obtain ⟨t1, _⟩ := tot_spec n
  have t2 := two_le n
  refine ⟨_, pss_cons (ps_if (pt_cmpR op_lt (pv 0) pe_int (nomark _)) pss_never pss_nil)
    (pss_cons (ps_set (i := 1) scParts.nd rfl (Or.inl rfl) (pe_op n_div (pe_op n_sub (pe_call R hr rfl mR kR bR .nil pass0 (pa_cons (pe_op n_add (pe_op n_mul pe_int (pv 0)) pe_int) pa_nil)) pe_int) pe_int))
    (pss_cons (ps_set (i := 2) scParts.nd rfl (Or.inl rfl) (pe_op n_sub (pv 0) (pe_call G hr1 rfl mG kG bG .nil pass0 (pa_cons (pv 1) pa_nil))))
    (pss_one (ps_ret (pe_tup (pa_cons (pe_op n_sub (pv 1) (pv 2)) (pa_cons (pv 2) pa_nil))))))), ?_⟩
  refine ⟨_, rfl, _, _, rfl, rfl, _, rfl, iteN (by omega) ?_⟩
  refine ⟨_, rfl, 8, n, 8 * n, rfl, rfl, ⟨4, pl, by decide, hn, by decide⟩, rfl, 8 * n, 1, 8 * n + 1, rfl, rfl, trivial, rfl, ?_⟩
  refine ⟨8 * n + 1, rfl, lt_pow_mono e8 (by decide), lt_pow_mono e8 (by decide), sqrtN (8 * n + 1), 1, sqrtN (8 * n + 1) - 1, rfl, rfl, hpos, rfl, sqrtN (8 * n + 1) - 1, 2, totN n, rfl, rfl, ⟨by decide, two_dl⟩, rfl, ?_⟩
  refine ⟨_, rfl, _, rfl, totN n, rfl, htot, n, tri (totN n), twoN n, rfl, rfl, t1, rfl, ?_⟩
  refine ⟨_, rfl, _, rfl, totN n, twoN n, oneN n, rfl, rfl, t2, rfl, _, rfl, ?_⟩
  exact ⟨by show 2 ≤ sizeLine; decide, fun p hp => q p hp⟩
end
end Ts
namespace Ts
def up : List Nat → List Nat
  | a :: b :: r => pairN a b :: up r
  | _ => []
def down : List Nat → List Nat
  | [] => []
  | n :: r => oneN n :: twoN n :: down r
theorem up_down : ∀ xs, up (down xs) = xs
  | [] => rfl
  | n :: r => by
    show pairN (oneN n) (twoN n) :: up (down r) = n :: r
    rw [pair_parts, up_down r]
theorem len_down : ∀ xs : List Nat, (down xs).length = 2 * xs.length
  | [] => rfl
  | n :: r => by
    show (down r).length + 1 + 1 = 2 * (r.length + 1)
    rw [len_down r]; omega
theorem len_up : ∀ xs : List Nat, (up xs).length = xs.length / 2
  | [] => rfl
  | [x] => by show 0 = 1 / 2; rfl
  | a :: b :: r => by
    show (up r).length + 1 = (r.length + 1 + 1) / 2
    rw [len_up r]; omega
theorem down_append : ∀ xs ys : List Nat, down (xs ++ ys) = down xs ++ down ys
  | [], _ => rfl
  | n :: r, ys => by
    show oneN n :: twoN n :: down (r ++ ys) = oneN n :: twoN n :: (down r ++ down ys)
    rw [down_append r ys]
theorem up_get : ∀ (xs : List Nat) (i : Nat), 2 * i + 1 < xs.length → (up xs)[i]? = some (pairN (xs.getD (2 * i) 0) (xs.getD (2 * i + 1) 0))
  | [], i, h => by simp at h
  | [_], i, h => by simp only [List.length_singleton] at h; omega
  | a :: b :: r, 0, _ => rfl
  | a :: b :: r, i + 1, h => by
    have e1 : 2 * (i + 1) = 2 * i + 1 + 1 := by omega
    have e2 : 2 * (i + 1) + 1 = 2 * i + 1 + 1 + 1 := by omega
    show (up r)[i]? = _
    rw [up_get r i (by simp only [List.length_cons] at h; omega), e2, e1]
    rfl
def ups : Nat → List Nat → List Nat
  | 0, xs => xs
  | d + 1, xs => ups d (up xs)
def downs : Nat → List Nat → List Nat
  | 0, xs => xs
  | d + 1, xs => downs d (down xs)
theorem ups_succ : ∀ (d : Nat) (xs : List Nat), ups (d + 1) xs = up (ups d xs)
  | 0, _ => rfl
  | d + 1, xs => ups_succ d (up xs)
theorem downs_succ : ∀ (d : Nat) (xs : List Nat), downs (d + 1) xs = down (downs d xs)
  | 0, _ => rfl
  | d + 1, xs => downs_succ d (down xs)
theorem len_ups : ∀ (d : Nat) (xs : List Nat), (ups d xs).length = xs.length / 2 ^ d
  | 0, xs => by show xs.length = _; rw [Nat.pow_zero, Nat.div_one]
  | d + 1, xs => by
    show (ups d (up xs)).length = _
    rw [len_ups d (up xs), len_up, Nat.div_div_eq_div_mul, Nat.pow_succ, Nat.mul_comm]
theorem len_downs : ∀ (d : Nat) (xs : List Nat), (downs d xs).length = 2 ^ d * xs.length
  | 0, xs => by show xs.length = _; rw [Nat.pow_zero, Nat.one_mul]
  | d + 1, xs => by
    show (downs d (down xs)).length = _
    rw [len_downs d (down xs), len_down, Nat.pow_succ, Nat.mul_assoc]
def topN (d : Nat) (xs : List Nat) : Nat := (ups d xs).headD 0
theorem ups_one {d : Nat} {xs : List Nat} (h : xs.length = 2 ^ d) : ups d xs = [topN d xs] := by
  have l : (ups d xs).length = 1 := by rw [len_ups, h, Nat.div_self (Nat.two_pow_pos d)]
  unfold topN
  match e : ups d xs, l with
  | [x], _ => rfl
abbrev Row := Nat × Nat
def leaves (c : Nat) (rows : List Row) : List Nat := rows.foldl (fun xs r => xs.set r.1 (r.2 + 1)) (List.replicate c 0)
def rowsFrom : Nat → List Nat → List Row
  | _, [] => []
  | i, n :: r => if 0 < n then (i, n - 1) :: rowsFrom (i + 1) r else rowsFrom (i + 1) r
def rowsOf (xs : List Nat) : List Row := rowsFrom 0 xs
theorem rowsFrom_append : ∀ (i : Nat) (xs ys : List Nat), rowsFrom i (xs ++ ys) = rowsFrom i xs ++ rowsFrom (i + xs.length) ys
  | i, [], ys => by simp [rowsFrom]
  | i, n :: r, ys => by
    have ih := rowsFrom_append (i + 1) r ys
    have e : i + 1 + r.length = i + (r.length + 1) := by omega
    rw [e] at ih
    show (if 0 < n then (i, n - 1) :: rowsFrom (i + 1) (r ++ ys) else rowsFrom (i + 1) (r ++ ys)) = (if 0 < n then (i, n - 1) :: rowsFrom (i + 1) r else rowsFrom (i + 1) r) ++ rowsFrom (i + (r.length + 1)) ys
    split
    · rw [ih]; rfl
    · rw [ih]
theorem len_fold : ∀ (rows : List Row) (xs : List Nat), (rows.foldl (fun xs r => xs.set r.1 (r.2 + 1)) xs).length = xs.length
  | [], _ => rfl
  | r :: rs, xs => by
    show (rs.foldl _ (xs.set r.1 (r.2 + 1))).length = _
    rw [len_fold rs, List.length_set]
theorem len_leaves (c : Nat) (rows : List Row) : (leaves c rows).length = c := by unfold leaves; rw [len_fold, List.length_replicate]
structure RowsOk (c : Nat) (rows : List Row) : Prop where
  keys : ∀ r ∈ rows, r.1 < c
  nd : (rows.map (·.1)).Nodup
end Ts
namespace Ts
open PySem L2
def Has (P : Program) (w : World) (K : PySem.W.Frag) (mg : Str → Option Value) (base : Heap) (x : Str) (k : Nat) (ps : List Str) (sp : Sp) : Prop :=
  ∃ g gd, FnOk P w K mg base CX0 k g gd ps sp ∧ Binds K gd ps [] ∧ PySem.W.keepIn K (.ref g) = true ∧ mg x = some (.ref g)
theorem pe_has {X : Cx} {x : Str} {k : Nat} {ps : List Str} {sp : Sp} {e : Expr} {es : List Expr} {t : TA} {p pos : Pos} (h : Has X.prog X.w X.K X.mg X.base x k ps sp) (hr : Room k X.A) (ha : PA X (e :: es) t) (hg : Gl X x := by rfl)
    (hdb : (x == ("__debug__" : Str)) = false := by decide) (he : starEach (e :: es) X.env = (false, eval e X.env) :: starEach es X.env := by rfl) (hpl : (backTo pos (starEach es X.env)).any (·.1) = false := by rfl) :
    PE X (.Call (.Name x p) (e :: es) [] pos) (tCall sp [] E0 t) := by
  obtain ⟨g, gd, G, bG, kG, mG⟩ := h
  exact pe_call G hr hg mG kG bG .nil pass0 ha hdb he hpl
theorem _root_.L2.Same.new {H H' : Hp} {m : Addr} {o : HO} (e : Same H H') (h : H m = none) : Same H (upd H' m o) := fun b u q => by
  rw [upd_ne (ne_of_none q h)]; exact e b u q
theorem _root_.L2.Same.upd {H : Hp} {m : Addr} {o : HO} (h : H m = none) : Same H (upd H m o) := Same.new (Same.refl H) h
def vn (xs : List Nat) : List V := xs.map fun (n : Nat) => V.int (n : Int)
theorem len_vn (xs : List Nat) : (vn xs).length = xs.length := by unfold vn; rw [List.length_map]
theorem vn_get {xs : List Nat} {i n : Nat} (h : xs[i]? = some n) : (vn xs)[i]? = some (.int (n : Int)) := by unfold vn; rw [List.getElem?_map, h]; rfl
theorem vn_set (xs : List Nat) (i n : Nat) : (vn xs).set i (.int (n : Int)) = vn (xs.set i n) := by unfold vn; rw [List.map_set]
theorem vn_app (xs ys : List Nat) : vn xs ++ vn ys = vn (xs ++ ys) := by unfold vn; rw [List.map_append]
theorem vn_zeros (k : Nat) : (List.replicate ((k : Nat) : Int).toNat [V.int 0]).flatten = vn (List.replicate k 0) := by
  rw [Int.toNat_natCast]
  unfold vn
  rw [List.map_replicate]
  induction k with
  | zero => rfl
  | succ k ih => rw [List.replicate_succ, List.flatten_cons, ih, List.replicate_succ]; rfl
abbrev RowN := Addr × Nat × Nat
def RowsN (H : Hp) (rs : List RowN) : Prop := ∀ r ∈ rs, H r.1 = some (.tup [.int (r.2.1 : Int), .int (r.2.2 : Int)])
def refsN (rs : List RowN) : List V := rs.map fun r => V.ref r.1
def bare (rs : List RowN) : List Row := rs.map (·.2)
theorem len_refs (rs : List RowN) : (refsN rs).length = rs.length := by unfold refsN; rw [List.length_map]
theorem refs_get {rs : List RowN} {i : Nat} {x : V} (h : (refsN rs)[i]? = some x) : ∃ r, rs[i]? = some r ∧ x = .ref r.1 ∧ r ∈ rs := by
  unfold refsN at h
  rw [List.getElem?_map] at h
  cases q : rs[i]? with
  | none => rw [q] at h; cases h
  | some r => rw [q] at h; cases h; exact ⟨r, rfl, rfl, List.mem_of_getElem? q⟩
theorem RowsN.same {H H' : Hp} {rs : List RowN} (h : RowsN H rs) (e : Same H H') : RowsN H' rs := fun r hr => e _ _ (h r hr)
theorem take_one {α : Type} {xs : List α} {i : Nat} {x : α} (h : xs[i]? = some x) : xs.take (i + 1) = xs.take i ++ [x] := by
  rw [List.take_add_one, h]; rfl
theorem leaves_snoc (c : Nat) (rs : List Row) (r : Row) : leaves c (rs ++ [r]) = (leaves c rs).set r.1 (r.2 + 1) := by
  unfold leaves; rw [List.foldl_append]; rfl
theorem ixN_nat {n j : Nat} (h : j < n) : ixN n (j : Int) = some j := by
  unfold ixN
  rw [if_pos (by omega), if_pos (by omega)]; simp
def metK (rs : List RowN) : List (Key × V) := rs.map fun r => (Sum.inl (r.2.1 : Int), V.bl true)
theorem len_metK (rs : List RowN) : (metK rs).length = rs.length := by unfold metK; rw [List.length_map]
theorem metK_none {rs : List RowN} {k : Nat} (h : k ∉ rs.map (·.2.1)) : valV (metK rs) (Sum.inl (k : Int)) = none := by
  cases q : valV (metK rs) (Sum.inl (k : Int)) with
  | none => rfl
  | some v =>
    exfalso
    have m := valV_in q
    unfold metK at m
    rw [List.map_map] at m
    obtain ⟨r, hr, e⟩ := List.mem_map.mp m
    have e2 : ((r.2.1 : Nat) : Int) = (k : Int) := Sum.inl.inj e
    exact h (List.mem_map.mpr ⟨r, hr, by omega⟩)
theorem metK_put {rs : List RowN} {i : Nat} {r : RowN} (h : rs[i]? = some r) (hn : valV (metK (rs.take i)) (Sum.inl (r.2.1 : Int)) = none) : putK (metK (rs.take i)) (Sum.inl (r.2.1 : Int)) (.bl true) = metK (rs.take (i + 1)) := by
  rw [putK_new _ hn, take_one h]
  unfold metK
  rw [List.map_append]; rfl
theorem not_before {rs : List RowN} (nd : ((bare rs).map (·.1)).Nodup) {i : Nat} {r : RowN} (h : rs[i]? = some r) : r.2.1 ∉ (rs.take i).map (·.2.1) := by
  intro m
  obtain ⟨q, hq, e⟩ := List.mem_map.mp m
  obtain ⟨j, hj⟩ := List.getElem?_of_mem hq
  have hji : j < i := by
    have := (List.getElem?_eq_some_iff.mp hj).1
    rw [List.length_take] at this; omega
  rw [List.getElem?_take, if_pos hji] at hj
  have nd' : (rs.map (·.2.1)).Nodup := by
    have z : (bare rs).map (·.1) = rs.map (·.2.1) := by unfold bare; rw [List.map_map]; rfl
    rw [← z]; exact nd
  have h1 : (rs.map (·.2.1))[j]? = some q.2.1 := by rw [List.getElem?_map, hj]; rfl
  have h2 : (rs.map (·.2.1))[i]? = some r.2.1 := by rw [List.getElem?_map, h]; rfl
  have hi := (List.getElem?_eq_some_iff.mp h2).1
  have := (List.getElem?_inj (i := j) (j := i) (by omega) nd').mp (by rw [h1, h2, e])
  omega
inductive spDepth (vs : List V) (H : Hp) (Q : VK) (E_ : XK) : Prop where
  | mk (d : Nat) (f0 : vs = [.int (d : Int)]) (f1 : d ≤ 8) (f2 : Q .non H) : spDepth  vs H Q E_
inductive spCount (vs : List V) (H : Hp) (Q : VK) (E_ : XK) : Prop where
  | mk (d c : Nat) (f0 : vs = [.int (d : Int)]) (f1 : d ≤ 8) (f2 : c = 2 ^ d) (f3 : Q (.int (c : Int)) H) : spCount  vs H Q E_
inductive spCKey (vs : List V) (H : Hp) (Q : VK) (E_ : XK) : Prop where
  | mk (d k : Nat) (f0 : vs = [.int (d : Int), .int (k : Int)]) (f1 : d ≤ 8) (f2 : k < 2 ^ d) (f3 : Q .non H) : spCKey  vs H Q E_
inductive spCVal (vs : List V) (H : Hp) (Q : VK) (E_ : XK) : Prop where
  | mk (v : Nat) (f0 : vs = [.int (v : Int)]) (f1 : Q .non H) : spCVal  vs H Q E_
inductive spCRows (K : PySem.W.Frag) (vs : List V) (H : Hp) (Q : VK) (E_ : XK) : Prop where
  | mk (d : Nat) (l : Addr) (rs : List RowN) (f0 : vs = [.int (d : Int), .ref l]) (f1 : d ≤ 8) (f2 : SqL K H l (refsN rs)) (f3 : RowsN H rs) (f4 : RowsOk (2 ^ d) (bare rs)) (f5 : rs.length ≤ 1000) (f6 : ∀ H', Same H H' → Q .non H') : spCRows K vs H Q E_
inductive spPlace (K : PySem.W.Frag) (vs : List V) (H : Hp) (Q : VK) (E_ : XK) : Prop where
  | mk (d : Nat) (l : Addr) (rs : List RowN) (f0 : vs = [.int (d : Int), .ref l]) (f1 : d ≤ 8) (f2 : SqL K H l (refsN rs)) (f3 : RowsN H rs) (f4 : RowsOk (2 ^ d) (bare rs)) (f5 : ∀ p H', Same H H' → H p = none → H' p = some (.lst (vn (leaves (2 ^ d) (bare rs)))) → Q (.ref p) H') : spPlace K vs H Q E_
inductive NumOf : V → Nat → Prop
  | non : NumOf .non 0
  | int (v : Nat) : NumOf (.int (v : Int)) (v + 1)
inductive spNumBy (vs : List V) (H : Hp) (Q : VK) (E_ : XK) : Prop where
  | mk (x : V) (n : Nat) (f0 : vs = [x]) (f1 : NumOf x n) (f2 : Q (.int (n : Int)) H) : spNumBy  vs H Q E_
section
variable {P : Program} {w : World} {K : PySem.W.Frag} {mg : Str → Option Value} {base : Heap} {f : Addr} {fd : FuncData}
theorem scDepth : FnScope ["depth"] ["depth"] (defScope sDepth) := ⟨rfl, rfl, rfl, by decide +kernel, rfl, by decide +kernel, by decide +kernel⟩
theorem ok_depth (F : Fun K "check_depth" "check_depth" sDepth f fd) {tk : Tok} (hG : mg "GREATEST_DEPTH" = some (.int 8 tk)) : FnOk P w K mg base CX0 1 f fd ["depth"] spDepth := by
  refine F.ok scDepth (fun vs H Q E h => ?_) (fun cdv A outer s H vs Q E hr h => ?_)
  · obtain ⟨d, rfl, _⟩ := h
    rfl
  obtain ⟨d, rfl, hd, q⟩ := h
  refine ⟨_, pss_one (ps_if (PW.pt (pw_or (pt_cmpR op_lt (pv 0) pe_int (nomark _)) (pw_or1 (pt_cmpR op_gt (pv 0) (pe_glob (v := .int 8) rfl hG ⟨tk, rfl⟩) (nomark _))))) pss_never pss_nil), ?_⟩
  refine ⟨_, rfl, _, _, rfl, rfl, _, rfl, iteN (by omega) ?_⟩
  exact ⟨_, rfl, _, _, rfl, rfl, _, rfl, iteN (by omega) q⟩
theorem scCount : FnScope ["depth"] ["depth"] (defScope sCount) := ⟨rfl, rfl, rfl, by decide +kernel, rfl, by decide +kernel, by decide +kernel⟩
theorem ok_count (F : Fun K "count_of_places" "count_of_places" sCount f fd) : FnOk P w K mg base CX0 1 f fd ["depth"] spCount := by
  refine F.ok scCount (fun vs H Q E h => ?_) (fun cdv A outer s H vs Q E hr h => ?_)
  · obtain ⟨d, c, rfl, _⟩ := h
    rfl
  obtain ⟨d, c, rfl, hd, rfl, q⟩ := h
  refine ⟨_, pss_one (ps_ret (pe_op n_shl pe_int (pv 0))), ?_⟩
  exact ⟨_, rfl, 1, d, 2 ^ d, rfl, rfl, ⟨1, by decide, by omega⟩, (Nat.one_mul _).symm, q⟩
theorem scCKey : FnScope ["depth", "key"] ["depth", "key"] (defScope sCKey) := ⟨rfl, rfl, rfl, by decide +kernel, rfl, by decide +kernel, by decide +kernel⟩
theorem ok_ckey (F : Fun K "check_key" "check_key" sCKey f fd) (C : Has P w K mg base "count_of_places" 1 ["depth"] spCount) : FnOk P w K mg base CX0 2 f fd ["depth", "key"] spCKey := by
  refine F.ok scCKey (fun vs H Q E h => ?_) (fun cdv A outer s H vs Q E hr h => ?_)
  · obtain ⟨d, k, rfl, _⟩ := h
    rfl
  obtain ⟨d, k, rfl, hd, hk, q⟩ := h
  refine ⟨_, pss_one (ps_if (PW.pt (pw_or (pt_cmpR op_lt (pv 1) pe_int (nomark _)) (pw_or1 (pt_cmpR op_ge (pv 1) (pe_has C hr (pa_cons (pv 0) pa_nil)) (nomark _))))) pss_never pss_nil), ?_⟩
  refine ⟨_, rfl, _, _, rfl, rfl, _, rfl, iteN (by omega) ?_⟩
  exact ⟨_, rfl, _, rfl, d, 2 ^ d, rfl, hd, rfl, _, _, rfl, rfl, _, rfl, iteN (by omega) q⟩
theorem scCVal : FnScope ["value"] ["value"] (defScope sCVal) := ⟨rfl, rfl, rfl, by decide +kernel, rfl, by decide +kernel, by decide +kernel⟩
theorem ok_cval (F : Fun K "check_value" "check_value" sCVal f fd) : FnOk P w K mg base CX0 1 f fd ["value"] spCVal := by
  refine F.ok scCVal (fun vs H Q E h => ?_) (fun cdv A outer s H vs Q E hr h => ?_)
  · obtain ⟨v, rfl, _⟩ := h
    rfl
  obtain ⟨v, rfl, q⟩ := h
  refine ⟨_, pss_one (ps_if (pt_cmpR op_lt (pv 0) pe_int (nomark _)) pss_never pss_nil), ?_⟩
  exact ⟨_, rfl, _, _, rfl, rfl, _, rfl, iteN (by omega) q⟩
theorem scCKeys : FnScope ["depth", "rows", "met", "row", "key"] ["depth", "rows"] (defScope sCKeys) := ⟨rfl, rfl, rfl, by decide +kernel, rfl, by decide +kernel, by decide +kernel⟩
theorem ok_ckeys (F : Fun K "check_keys_of_rows" "check_keys_of_rows" sCKeys f fd) (C : Has P w K mg base "check_key" 2 ["depth", "key"] spCKey) : FnOk P w K mg base CX0 3 f fd ["depth", "rows"] (spCRows K) := by
  refine F.ok scCKeys (fun vs H Q E h => ?_) (fun cdv A outer s H vs Q E hr h => ?_)
  · obtain ⟨d, l, rs, rfl, _⟩ := h
    rfl
  obtain ⟨d, l, rs, rfl, hd, hl, hR, ok, h1000, q⟩ := h
  refine ⟨_, pss_cons (ps_set (i := 2) scCKeys.nd rfl (Or.inl rfl) pe_dnewK)
    (pss_one (ps_for PassesOwn.never rfl (pi_list (pv 1)) (pg_name (i := 3) scCKeys.nd rfl (Or.inl rfl))
      (pss_cons (ps_set (i := 4) scCKeys.nd rfl (Or.inl rfl) (pe_ix ix_tup (pv 3) pe_int (fun _ _ => rfl)))
      (pss_cons (ps_expr (pe_has C hr (pa_cons (pv 0) (pa_cons (pv 4) pa_nil))))
      (pss_cons (ps_if (pt_cmp (pc_din (hu_of hr) (pv 4) (pv 2))) pss_never pss_nil)
      (pss_one (ps_dput (hu_of hr) (pv 2) (pv 4) pe_bl rfl))))))), ?_⟩
  intro m hm
  have hS0 : Same H (upd H m (.dK [])) := Same.upd hm
  refine ⟨_, rfl, l, rfl, ⟨_, hS0.seq hl⟩, ?_⟩
  refine for_list (xs := refsN rs) (fun i σ H' => ∃ t3 t4 : Option V, σ = [some (.int (d : Int)), some (.ref l), some (.ref m), t3, t4] ∧ Same H H' ∧ H' m = some (.dK (metK (rs.take i)))) ⟨_, _, rfl, hS0, upd_same⟩ ?_ ?_ ?_
  · rintro i σ H' _ ⟨_, _, _, hS, _⟩
    exact hS.seq hl
  · rintro i x σ H' hx ⟨t3, t4, rfl, hS, hm'⟩
    obtain ⟨r, hr', rfl, hmem⟩ := refs_get hx
    have hk : r.2.1 < 2 ^ d := ok.keys r.2 (List.mem_map.mpr ⟨r, hmem, rfl⟩)
    have hn := metK_none (not_before ok.nd hr')
    refine ⟨_, rfl, r.1, _, _, _, rfl, rfl, SqT.of (hS _ _ (hR r hmem)), atI_nat (j := 0) rfl, ?_⟩
    refine ⟨_, rfl, _, rfl, d, r.2.1, rfl, hd, hk, ?_⟩
    refine ⟨_, rfl, _, rfl, m, _, rfl, DGet.k (k := Sum.inl (r.2.1 : Int)) hm', _, rfl, ?_⟩
    rw [hn]
    refine iteF ?_
    have hlen : (metK (rs.take i)).length < sizeLine := by
      rw [len_metK, List.length_take]
      exact small1000 (by omega)
    refine ⟨_, rfl, _, rfl, m, _, rfl, DPut.k (k := Sum.inl (r.2.1 : Int)) hm' hlen, _, _, rfl, hS.new hm, ?_⟩
    rw [upd_same, metK_put hr' hn]
  · rintro σ H' ⟨_, _, _, hS, _⟩
    exact q H' hS
theorem scCRows : FnScope ["depth", "rows", "row"] ["depth", "rows"] (defScope sCRows) := ⟨rfl, rfl, rfl, by decide +kernel, rfl, by decide +kernel, by decide +kernel⟩
theorem ok_crows (F : Fun K "check_rows" "check_rows" sCRows f fd) (C : Has P w K mg base "check_keys_of_rows" 3 ["depth", "rows"] (spCRows K)) (W : Has P w K mg base "check_value" 1 ["value"] spCVal) : FnOk P w K mg base CX0 4 f fd ["depth", "rows"] (spCRows K) := by
  refine F.ok scCRows (fun vs H Q E h => ?_) (fun cdv A outer s H vs Q E hr h => ?_)
  · obtain ⟨d, l, rs, rfl, _⟩ := h
    rfl
  obtain ⟨d, l, rs, rfl, hd, hl, hR, ok, h1000, q⟩ := h
  have hr1 : Room 1 _ := hr.mono (by decide)
  refine ⟨_, pss_cons (ps_expr (pe_has C hr (pa_cons (pv 0) (pa_cons (pv 1) pa_nil))))
    (pss_one (ps_for PassesOwn.never rfl (pi_list (pv 1)) (pg_name (i := 2) scCRows.nd rfl (Or.inl rfl))
      (pss_one (ps_expr (pe_has W hr1 (pa_cons (pe_ix ix_tup (pv 2) pe_int (fun _ _ => rfl)) pa_nil)))))), ?_⟩
  refine ⟨_, rfl, _, rfl, d, l, rs, rfl, hd, hl, hR, ok, h1000, fun H1 hS1 => ?_⟩
  refine ⟨_, rfl, l, rfl, ⟨_, hS1.seq hl⟩, ?_⟩
  refine for_list (xs := refsN rs) (fun i σ H' => ∃ t2 : Option V, σ = [some (.int (d : Int)), some (.ref l), t2] ∧ Same H H') ⟨_, rfl, hS1⟩ ?_ ?_ ?_
  · rintro i σ H' _ ⟨_, _, hS⟩
    exact hS.seq hl
  · rintro i x σ H' hx ⟨t2, rfl, hS⟩
    obtain ⟨r, hr', rfl, hmem⟩ := refs_get hx
    exact ⟨_, rfl, r.1, _, _, _, rfl, rfl, SqT.of (hS _ _ (hR r hmem)), atI_nat (j := 1) rfl, r.2.2, rfl, _, rfl, hS⟩
  · rintro σ H' ⟨_, _, hS⟩
    exact q H' hS
theorem scNumBy : FnScope ["value"] ["value"] (defScope sNumBy) := ⟨rfl, rfl, rfl, by decide +kernel, rfl, by decide +kernel, by decide +kernel⟩
theorem ok_numby (F : Fun K "number_by" "number_by" sNumBy f fd) : FnOk P w K mg base CX0 1 f fd ["value"] spNumBy := by
  refine F.ok scNumBy (fun vs H Q E h => ?_) (fun cdv A outer s H vs Q E hr h => ?_)
  · obtain ⟨x, n, rfl, _⟩ := h
    rfl
  obtain ⟨x, n, rfl, hx, q⟩ := h
  refine ⟨_, pss_one (ps_ret (pe_ifExp (pt_cmp (pc_isN (pv 0))) pe_int (pe_op n_add (pv 0) pe_int))), ?_⟩
  cases hx with
  | non => exact ⟨_, rfl, _, rfl, iteY rfl q⟩
  | int v => exact ⟨_, rfl, _, rfl, iteN (by intro z; cases z) ⟨_, rfl, v, 1, v + 1, rfl, rfl, trivial, rfl, q⟩⟩
theorem scPlace : FnScope ["depth", "rows", "numbers", "row"] ["depth", "rows"] (defScope sPlace) := ⟨rfl, rfl, rfl, by decide +kernel, rfl, by decide +kernel, by decide +kernel⟩
theorem ok_place (F : Fun K "place_numbers" "place_numbers" sPlace f fd) (C : Has P w K mg base "count_of_places" 1 ["depth"] spCount) (N : Has P w K mg base "number_by" 1 ["value"] spNumBy) : FnOk P w K mg base CX0 2 f fd ["depth", "rows"] (spPlace K) := by
  refine F.ok scPlace (fun vs H Q E h => ?_) (fun cdv A outer s H vs Q E hr h => ?_)
  · obtain ⟨d, l, rs, rfl, _⟩ := h
    rfl
  obtain ⟨d, l, rs, rfl, hd, hl, hR, ok, q⟩ := h
  refine ⟨_, pss_cons (ps_set (i := 2) scPlace.nd rfl (Or.inl rfl) (pe_op op_rep (pe_lst (pa_cons pe_int pa_nil)) (pe_has C hr (pa_cons (pv 0) pa_nil))))
    (pss_cons (ps_for PassesOwn.never rfl (pi_list (pv 1)) (pg_name (i := 3) scPlace.nd rfl (Or.inl rfl))
      (pss_one (ps_asg (pe_has N hr (pa_cons (pe_ix ix_tup (pv 3) pe_int (fun _ _ => rfl)) pa_nil)) (pg_sub (pv 2) (pe_ix ix_tup (pv 3) pe_int (fun _ _ => rfl)) set_list))))
    (pss_one (ps_ret (pv 2)))), ?_⟩
  have h256 : 2 ^ d ≤ 256 := Nat.pow_le_pow_right (n := 2) (by decide) hd
  obtain ⟨c, hc⟩ : ∃ c, c = 2 ^ d := ⟨_, rfl⟩
  rw [← hc] at h256 ok q
  refine ⟨by show 1 ≤ sizeLine; decide, fun z hz => ?_⟩
  refine ⟨_, rfl, d, c, rfl, hd, hc, z, _, _, rfl, rfl, upd_same, by omega, by omega, ?_, fun m hm => ?_⟩
  · rw [Int.toNat_natCast]
    exact Nat.le_of_lt (small1000 (show 1 * c ≤ 1000 by omega))
  rw [vn_zeros]
  have hm0 : H m = none := (Same.upd hz).free hm
  have hS0 : Same H (upd (upd H z (.lst [.int 0])) m (.lst (vn (List.replicate c 0)))) := (Same.upd hz).new hm0
  refine ⟨_, rfl, l, rfl, ⟨_, hS0.seq hl⟩, ?_⟩
  refine for_list (xs := refsN rs) (fun i σ H' => ∃ t3 : Option V, σ = [some (.int (d : Int)), some (.ref l), some (.ref m), t3] ∧ Same H H' ∧ H' m = some (.lst (vn (leaves c (bare (rs.take i)))))) ⟨_, rfl, hS0, upd_same⟩ ?_ ?_ ?_
  · rintro i σ H' _ ⟨_, _, hS, _⟩
    exact hS.seq hl
  · rintro i x σ H' hx ⟨t3, rfl, hS, hm'⟩
    obtain ⟨r, hr', rfl, hmem⟩ := refs_get hx
    have hk : r.2.1 < c := ok.keys r.2 (List.mem_map.mpr ⟨r, hmem, rfl⟩)
    have hT := hS _ _ (hR r hmem)
    refine ⟨_, rfl, r.1, _, _, _, rfl, rfl, SqT.of hT, atI_nat (j := 1) rfl, _, r.2.2 + 1, rfl, .int _, ?_⟩
    refine ⟨_, rfl, _, rfl, r.1, _, _, _, rfl, rfl, SqT.of hT, atI_nat (j := 0) rfl, m, _, _, r.2.1, rfl, rfl, hm', ixN_nat (by rw [len_vn, len_leaves]; exact hk), _, rfl, hS.new hm0, ?_⟩
    rw [upd_same, vn_set, take_one hr']
    have e : bare (rs.take i ++ [r]) = bare (rs.take i) ++ [r.2] := by unfold bare; rw [List.map_append]; rfl
    rw [e, leaves_snoc]
  · rintro σ H' ⟨t3, rfl, hS, hm'⟩
    rw [len_refs, List.take_length] at hm'
    exact ⟨_, rfl, q m H' hS hm0 hm'⟩
end
end Ts
namespace L2
open PySem PySem.Spec PyProof.Rows
theorem ix_listK {X : Cx} {K : PySem.W.Frag} (h : X.K = K := by rfl) : IxR X (rIxL K) := h ▸ ix_list
theorem ix_tupK {X : Cx} {K : PySem.W.Frag} (h : X.K = K := by rfl) : IxR X (rIxT K) := h ▸ ix_tup
theorem pg_tupK {X : Cx} {K : PySem.W.Frag} {es : List Expr} {k : Nat} {t : TGs} {n : Nat} {pos : Pos} (hc : X.calm = true) (h : PGs X es t) (hK : X.K = K := by rfl)
    (hn : (assignEach es X.env).length = n := by rfl) (hst : (assignEach es X.env).findIdx? (·.1) = none := by rfl) : PG X (.Tuple es k pos) (gTup K n t) := hK ▸ pg_tup hc h hn hst
theorem tYes_if {σ : St} {H : Hp} {A B : Hp → Prop} (h : A H) : tYes σ H (fun b H3 => if b = true then A H3 else B H3) := (iteT h : if true = true then A H else B H)
end L2
namespace Ts
open PySem L2
theorem up_lt {k : Nat} : ∀ {xs : List Nat}, (∀ x ∈ xs, x < 2 ^ k) → ∀ x ∈ up xs, x < 2 ^ (2 * k + 1)
  | [], _, x, h => by cases h
  | [_], _, x, h => by cases h
  | a :: b :: r, hx, x, h => by
    rcases List.mem_cons.mp h with e | e
    · rw [e]
      exact pair_lt (hx a (by simp)) (hx b (by simp))
    · exact up_lt (xs := r) (fun y hy => hx y (by simp [hy])) x e
def bitsAt : Nat → Nat → Nat
  | k, 0 => k
  | k, j + 1 => 2 * bitsAt k j + 1
theorem ups_lt {k : Nat} {xs : List Nat} (h : ∀ x ∈ xs, x < 2 ^ k) : ∀ j, ∀ x ∈ ups j xs, x < 2 ^ bitsAt k j
  | 0 => h
  | j + 1 => by
    rw [ups_succ]
    exact up_lt (ups_lt h j)
theorem bits_le {j : Nat} (h : j ≤ 8) : bitsAt 67 j ≤ 17407 := by
  rcases (by omega : j = 0 ∨ j = 1 ∨ j = 2 ∨ j = 3 ∨ j = 4 ∨ j = 5 ∨ j = 6 ∨ j = 7 ∨ j = 8) with e | e | e | e | e | e | e | e | e <;> subst e <;> decide
theorem fold_lt {B : Nat} : ∀ (rows : List Row) (xs : List Nat), (∀ x ∈ xs, x < B) → (∀ r ∈ rows, r.2 + 1 < B) → ∀ x ∈ rows.foldl (fun xs r => xs.set r.1 (r.2 + 1)) xs, x < B
  | [], xs, h, _ => h
  | r :: rs, xs, h, hr => by
    refine fold_lt rs (xs.set r.1 (r.2 + 1)) (fun x hx => ?_) fun q hq => hr q (List.mem_cons_of_mem _ hq)
    rcases List.mem_or_eq_of_mem_set hx with e | e
    · exact h x e
    · rw [e]; exact hr r List.mem_cons_self
theorem leaves_lt {B c : Nat} {rows : List Row} (hB : 0 < B) (h : ∀ r ∈ rows, r.2 + 1 < B) : ∀ x ∈ leaves c rows, x < B :=
  fold_lt rows _ (fun x hx => by rw [(List.mem_replicate.mp hx).2]; exact hB) h
theorem down_lt {k : Nat} : ∀ {xs : List Nat}, (∀ x ∈ xs, x < 2 ^ k) → ∀ x ∈ down xs, x < 2 ^ k
  | [], _, x, h => by cases h
  | a :: r, hx, x, h => by
    have h' : x ∈ oneN a :: twoN a :: down r := h
    have ha := hx a (by simp)
    rcases List.mem_cons.mp h' with e | e
    · rw [e]; exact Nat.lt_of_le_of_lt (one_le_self a) ha
    · rcases List.mem_cons.mp e with e | e
      · rw [e]; exact Nat.lt_of_le_of_lt (two_le_self a) ha
      · exact down_lt (xs := r) (fun y hy => hx y (by simp [hy])) x e
theorem downs_lt {k : Nat} {xs : List Nat} (h : ∀ x ∈ xs, x < 2 ^ k) : ∀ j, ∀ x ∈ downs j xs, x < 2 ^ k
  | 0 => h
  | j + 1 => by
    rw [downs_succ]
    exact down_lt (downs_lt h j)
theorem getD_mem {xs : List Nat} {i : Nat} (h : i < xs.length) : xs[i]? = some (xs.getD i 0) ∧ xs.getD i 0 ∈ xs := by
  have e : xs[i]? = some xs[i] := List.getElem?_eq_getElem h
  have g : xs.getD i 0 = xs[i] := by rw [List.getD_eq_getElem?_getD, e]; rfl
  rw [g]
  exact ⟨e, List.getElem_mem h⟩
theorem rowsOf_snoc (xs : List Nat) (n : Nat) : rowsOf (xs ++ [n]) = if 0 < n then rowsOf xs ++ [(xs.length, n - 1)] else rowsOf xs := by
  unfold rowsOf
  rw [rowsFrom_append, Nat.zero_add]
  show rowsFrom 0 xs ++ (if 0 < n then (xs.length, n - 1) :: [] else []) = _
  split
  · rfl
  · rw [List.append_nil]
inductive spPaired (K : PySem.W.Frag) (vs : List V) (H : Hp) (Q : VK) (E_ : XK) : Prop where
  | mk (l : Addr) (xs : List Nat) (f0 : vs = [.ref l]) (f1 : SqL K H l (vn xs)) (f2 : xs.length ≤ 256) (f3 : xs.length % 2 = 0) (f4 : (∀ x ∈ xs, x < 2 ^ bb)) (f5 : ∀ p H', Same H H' → H p = none → H' p = some (.lst (vn (up xs))) → Q (.ref p) H') : spPaired K vs H Q E_
inductive spTop (K : PySem.W.Frag) (vs : List V) (H : Hp) (Q : VK) (E_ : XK) : Prop where
  | mk (d : Nat) (l : Addr) (rs : List RowN) (f0 : vs = [.int (d : Int), .ref l]) (f1 : d ≤ 8) (f2 : SqL K H l (refsN rs)) (f3 : RowsN H rs) (f4 : RowsOk (2 ^ d) (bare rs)) (f5 : rs.length ≤ 1000) (f6 : (∀ r ∈ bare rs, r.2 + 1 < 2 ^ 67)) (f7 : ∀ (n : Nat) H', n = topN d (leaves (2 ^ d) (bare rs)) → Same H H' → Q (.int (n : Int)) H') : spTop K vs H Q E_
inductive spParted (K : PySem.W.Frag) (vs : List V) (H : Hp) (Q : VK) (E_ : XK) : Prop where
  | mk (l : Addr) (xs : List Nat) (f0 : vs = [.ref l]) (f1 : SqL K H l (vn xs)) (f2 : xs.length ≤ 256) (f3 : (∀ x ∈ xs, x < 2 ^ pl)) (f4 : ∀ p H', Same H H' → H p = none → H' p = some (.lst (vn (down xs))) → Q (.ref p) H') : spParted K vs H Q E_
inductive spRows (K : PySem.W.Frag) (vs : List V) (H : Hp) (Q : VK) (E_ : XK) : Prop where
  | mk (d n : Nat) (f0 : vs = [.int (d : Int), .int (n : Int)]) (f1 : d ≤ 8) (f2 : n < 2 ^ pl) (f3 : ∀ p rs H', Same H H' → H p = none → H' p = some (.lst (refsN rs)) → RowsN H' rs → bare rs = rowsOf (downs d [n]) → Q (.ref p) H') : spRows K vs H Q E_
inductive spValBy (vs : List V) (H : Hp) (Q : VK) (E_ : XK) : Prop where
  | mk (n : Nat) (f0 : vs = [.int (n : Int)]) (f1 : (n = 0 → Q .non H)) (f2 : ∀ v : Nat, n = v + 1 → Q (.int (v : Int)) H) : spValBy  vs H Q E_
section
variable {P : Program} {w : World} {K : PySem.W.Frag} {mg : Str → Option Value} {base : Heap} {f : Addr} {fd : FuncData}
theorem scPaired : FnScope ["numbers"] ["numbers"] (defScope sPaired) := ⟨rfl, rfl, rfl, by decide +kernel, rfl, by decide +kernel, by decide +kernel⟩
theorem two_even {n : Nat} (h : n % 2 = 0) : (n + 1) / 2 = n / 2 := by omega
theorem ok_paired (F : Fun K "paired" "paired" sPaired f fd) (mR : mg "range" = none) (mL : mg "len" = none) (C : Has P w K mg base "pair_of" 2 ["one", "two"] spPair) : FnOk P w K mg base CX0 3 f fd ["numbers"] (spPaired K) := by
  refine F.ok scPaired (fun vs H Q E h => ?_) (fun cdv A outer s H vs Q E hr h => ?_)
  · obtain ⟨l, xs, rfl, _⟩ := h
    rfl
  obtain ⟨l, xs, rfl, hl, h256, hev, hb, q⟩ := h
  refine ⟨_, pss_one (ps_ret (pe_comp (cl := [("numbers", s.heap.objs.size + 1)]) (N := ["left", "numbers"]) (fr := [none, some 0]) rfl
    (block_one rfl (by decide +kernel) (by decide +kernel) (by show ∀ p ∈ relS _ (defScope sPaired), _; decide +kernel) rfl) rfl ⟨⟨rfl, rfl, .inl rfl⟩, trivial⟩
    (pi_range3 rfl mR (pa_cons pe_int (pa_cons (pe_callB call_len_seq rfl mL PySem.boot_len (pa_cons (pv 0) pa_nil)) (pa_cons pe_int pa_nil))))
    (fun _ _ _ _ _ => pg_name (i := 0) (show (["left", "numbers"] : List Str).Nodup by decide) rfl (Or.inl rfl)) (fun _ _ _ _ _ => pifs_nil)
    (fun _ _ _ _ _ => pe_has C hr (pa_cons (pe_ix ix_listK (pv 1) (pv 0) (fun _ _ => rfl)) (pa_cons (pe_ix ix_listK (pv 1) (pe_op n_add (pv 0) pe_int) (fun _ _ => rfl)) pa_nil))))), ?_⟩
  obtain ⟨sm1, sm2⟩ := small_two (n := (vn xs).length) (by rw [len_vn]; omega)
  rw [len_vn, two_even hev] at sm2
  have hlv := len_vn xs
  refine ⟨_, rfl, l, _, rfl, .inl hl, 0, _, 2, xs.length / 2, rfl, by decide, ⟨by omega, by omega⟩, sm1, by rw [len_vn]; exact sm2, by decide, ?_⟩
  refine comp_on (xs.length / 2) (by omega) (fun i ys τ H' => ∃ t0 : Option V, τ = [t0, some (.ref l)] ∧ H' = H ∧ ys = vn ((up xs).take i)) ⟨_, rfl, rfl, rfl⟩ ?_ ?_ ?_
  · rintro i ys τ H' ⟨_, _, _, rfl⟩
    rw [len_vn, List.length_take]; omega
  · rintro i ys τ H' hi ⟨t0, rfl, rfl, rfl⟩
    refine ⟨hi, fun x H' y => ?_⟩
    obtain ⟨e1, e2⟩ := y
    subst e1 e2
    rw [show (0 + (i : Int) * 2) = ((2 * i : Nat) : Int) by omega]
    obtain ⟨g1, m1⟩ := getD_mem (xs := xs) (i := 2 * i) (by omega)
    obtain ⟨g2, m2⟩ := getD_mem (xs := xs) (i := 2 * i + 1) (by omega)
    unfold gName
    show tYes ([t0, some (V.ref l)].set 0 (some (V.int ((2 * i : Nat) : Int)))) H' _
    refine tYes_if ?_
    refine ⟨_, rfl, _, rfl, l, _, _, _, rfl, rfl, hl, atI_nat (vn_get g1), _, rfl, _, rfl, 2 * i, 1, 2 * i + 1, rfl, rfl, trivial, rfl, l, _, _, _, rfl, rfl, hl, atI_nat (vn_get g2), _, _, rfl, hb _ m1, hb _ m2, _, rfl, rfl, ?_⟩
    rw [take_one (up_get xs i (by omega)), ← vn_app]
    rfl
  · rintro ys τ H' ⟨t0, rfl, rfl, rfl⟩
    refine ⟨Nat.le_refl _, fun p hp => ?_⟩
    rw [List.take_of_length_le (by rw [len_up]; omega)]
    exact q p _ (Same.upd hp) hp upd_same
end
end Ts
namespace Ts
open PySem L2
section
variable {P : Program} {w : World} {K : PySem.W.Frag} {mg : Str → Option Value} {base : Heap} {f : Addr} {fd : FuncData}
theorem scTop : FnScope ["depth", "rows", "numbers"] ["depth", "rows"] (defScope sTop) := ⟨rfl, rfl, rfl, by decide +kernel, rfl, by decide +kernel, by decide +kernel⟩
theorem ok_top (F : Fun K "top_of" "top_of" sTop f fd) (mL : mg "len" = none) (D : Has P w K mg base "check_depth" 1 ["depth"] spDepth) (R : Has P w K mg base "check_rows" 4 ["depth", "rows"] (spCRows K)) (L : Has P w K mg base "place_numbers" 2 ["depth", "rows"] (spPlace K)) (U : Has P w K mg base "paired" 3 ["numbers"] (spPaired K)) :
    FnOk P w K mg base CX0 5 f fd ["depth", "rows"] (spTop K) := by
  refine F.ok scTop (fun vs H Q E h => ?_) (fun cdv A outer s H vs Q E hr h => ?_)
  · obtain ⟨d, l, rs, rfl, _⟩ := h
    rfl
  obtain ⟨d, l, rs, rfl, hd, hl, hR, ok, h1000, h67, q⟩ := h
  have hr1 : Room 1 _ := hr.mono (by decide)
  have hr2 : Room 2 _ := hr.mono (by decide)
  have hr3 : Room 3 _ := hr.mono (by decide)
  refine ⟨_, pss_cons (ps_expr (pe_has D hr1 (pa_cons (pv 0) pa_nil)))
    (pss_cons (ps_expr (pe_has R hr (pa_cons (pv 0) (pa_cons (pv 1) pa_nil))))
    (pss_cons (ps_set (i := 2) scTop.nd rfl (Or.inl rfl) (pe_has L hr2 (pa_cons (pv 0) (pa_cons (pv 1) pa_nil))))
    (pss_cons (ps_while PassesOwn.never (pt_cmpR op_gt (pe_callB call_len_seq rfl mL PySem.boot_len (pa_cons (pv 2) pa_nil)) pe_int (nomark _))
      (pss_one (ps_set (i := 2) scTop.nd rfl (Or.inl rfl) (pe_has U hr3 (pa_cons (pv 2) pa_nil)))))
    (pss_one (ps_ret (pe_ix ix_list (pv 2) pe_int (fun _ _ => rfl))))))), ?_⟩
  refine ⟨_, rfl, d, rfl, hd, ?_⟩
  refine ⟨_, rfl, _, rfl, d, l, rs, rfl, hd, hl, hR, ok, h1000, fun H1 hS1 => ?_⟩
  refine ⟨_, rfl, _, rfl, d, l, rs, rfl, hd, hS1.seq hl, hR.same hS1, ok, fun p H2 hS2 hp hp2 => ?_⟩
  have hLl : (leaves (2 ^ d) (bare rs)).length = 2 ^ d := len_leaves _ _
  have hLb := leaves_lt (c := 2 ^ d) (show 0 < 2 ^ 67 by decide) h67
  generalize leaves (2 ^ d) (bare rs) = ls at hLl hLb hp2 q
  refine while_on (fun m σ H' => m ≤ d ∧ ∃ a, σ = [some (.int (d : Int)), some (.ref l), some (.ref a)] ∧ Same H H' ∧ H' a = some (.lst (vn (ups (d - m) ls)))) d ⟨Nat.le_refl _, p, rfl, hS1.trans hS2, by rw [Nat.sub_self]; exact hp2⟩ ?_
  rintro m σ H' ⟨hm, a, rfl, hS, ha⟩
  have hlen : (ups (d - m) ls).length = 2 ^ m := by
    rw [len_ups, hLl, Nat.pow_div (Nat.sub_le _ _) (by decide)]
    congr 1
    omega
  refine ⟨_, rfl, a, _, rfl, .inl (SqL.of ha), _, _, rfl, rfl, _, rfl, ite3 (fun c => ?_) (fun c => ?_)⟩
  · rw [len_vn, hlen] at c
    obtain ⟨m', rfl⟩ : ∃ m', m = m' + 1 := by
      cases m with
      | zero => exact absurd c (by decide)
      | succ m' => exact ⟨m', rfl⟩
    have h256 : 2 ^ (m' + 1) ≤ 2 ^ 8 := Nat.pow_le_pow_right (by decide) (by omega)
    refine ⟨_, fun _ _ z => z, _, rfl, a, _, rfl, SqL.of ha, by rw [hlen]; exact h256, by rw [hlen, Nat.pow_succ]; omega, fun x hx => lt_pow_mono (ups_lt hLb _ x hx) (Nat.le_trans (bits_le (by omega)) (by decide)), fun p' H3 hS3 _ hp3 => ?_⟩
    refine ⟨m', Nat.lt_succ_self _, by omega, p', rfl, hS.trans hS3, ?_⟩
    rw [show d - m' = (d - (m' + 1)) + 1 by omega, ups_succ]
    exact hp3
  · rw [len_vn, hlen] at c
    have hm0 : m = 0 := by
      cases m with
      | zero => rfl
      | succ m' =>
        exfalso
        refine c ?_
        have : 0 < 2 ^ m' := Nat.two_pow_pos m'
        rw [Nat.pow_succ]; omega
    subst hm0
    rw [Nat.sub_zero, ups_one hLl] at ha
    exact ⟨_, rfl, a, _, _, _, rfl, rfl, SqL.of ha, atI_nat (j := 0) rfl, q _ H' rfl hS⟩
end
end Ts
namespace Ts
open PySem L2
section
variable {P : Program} {w : World} {K : PySem.W.Frag} {mg : Str → Option Value} {base : Heap} {f : Addr} {fd : FuncData}
theorem scValBy : FnScope ["number"] ["number"] (defScope sValBy) := ⟨rfl, rfl, rfl, by decide +kernel, rfl, by decide +kernel, by decide +kernel⟩
theorem ok_valby (F : Fun K "value_by" "value_by" sValBy f fd) : FnOk P w K mg base CX0 1 f fd ["number"] spValBy := by
  refine F.ok scValBy (fun vs H Q E h => ?_) (fun cdv A outer s H vs Q E hr h => ?_)
  · obtain ⟨n, rfl, _⟩ := h
    rfl
  obtain ⟨n, rfl, q0, q1⟩ := h
  refine ⟨_, pss_one (ps_ret (pe_ifExp (pt_cmpR op_eq (pv 0) pe_int (nomark _)) pe_non (pe_op n_sub (pv 0) pe_int))), ?_⟩
  refine ⟨_, rfl, rfl, _, rfl, ite3 (fun c => ?_) (fun c => ?_)⟩
  · have e : n = 0 := by
      have z : (n : Int) = 0 := V.int.inj c
      omega
    exact q0 e
  · have e : n ≠ 0 := fun z => c (by rw [z]; rfl)
    exact ⟨_, rfl, n, 1, n - 1, rfl, rfl, (by show 1 ≤ n; omega), rfl, q1 (n - 1) (by omega)⟩
theorem scCTop : FnScope ["top"] ["top"] (defScope sCTop) := ⟨rfl, rfl, rfl, by decide +kernel, rfl, by decide +kernel, by decide +kernel⟩
theorem ok_ctop (F : Fun K "check_top" "check_top" sCTop f fd) : FnOk P w K mg base CX0 1 f fd ["top"] spCVal := by
  refine F.ok scCTop (fun vs H Q E h => ?_) (fun cdv A outer s H vs Q E hr h => ?_)
  · obtain ⟨v, rfl, _⟩ := h
    rfl
  obtain ⟨v, rfl, q⟩ := h
  refine ⟨_, pss_one (ps_if (pt_cmpR op_lt (pv 0) pe_int (nomark _)) pss_never pss_nil), ?_⟩
  exact ⟨_, rfl, _, _, rfl, rfl, _, rfl, iteN (by omega) q⟩
end
end Ts
namespace Ts
open PySem L2
section
variable {P : Program} {w : World} {K : PySem.W.Frag} {mg : Str → Option Value} {base : Heap} {f : Addr} {fd : FuncData}
theorem scParted : FnScope ["numbers", "parts", "number"] ["numbers"] (defScope sParted) := ⟨rfl, rfl, rfl, by decide +kernel, rfl, by decide +kernel, by decide +kernel⟩
theorem ok_parted (F : Fun K "parted" "parted" sParted f fd) (C : Has P w K mg base "parts_of" 18 ["number"] spParts) : FnOk P w K mg base CX0 19 f fd ["numbers"] (spParted K) := by
  refine F.ok scParted (fun vs H Q E h => ?_) (fun cdv A outer s H vs Q E hr h => ?_)
  · obtain ⟨l, xs, rfl, _⟩ := h
    rfl
  obtain ⟨l, xs, rfl, hl, h256, hb, q⟩ := h
  refine ⟨_, pss_cons (ps_set (i := 1) scParted.nd rfl (Or.inl rfl) (pe_lst pa_nil))
    (pss_cons (ps_for PassesOwn.never rfl (pi_list (pv 0)) (pg_name (i := 2) scParted.nd rfl (Or.inl rfl))
      (pss_one (ps_expr (pe_bm PySem.F.plainAttrs_list PySem.F.slot_list_extend PySem.F.type_list_extend mt_extT (pv 1) (pa_cons (pe_has C hr (pa_cons (pv 2) pa_nil)) pa_nil)))))
    (pss_one (ps_ret (pv 1)))), ?_⟩
  refine ⟨by show 0 ≤ sizeLine; decide, fun p hp => ?_⟩
  have hS0 : Same H (upd H p (.lst [])) := Same.upd hp
  refine ⟨_, rfl, l, rfl, ⟨_, hS0.seq hl⟩, ?_⟩
  refine for_list (xs := vn xs) (fun i σ H' => ∃ t2 : Option V, σ = [some (.ref l), some (.ref p), t2] ∧ Same H H' ∧ H' p = some (.lst (vn (down (xs.take i))))) ⟨_, rfl, hS0, upd_same⟩ ?_ ?_ ?_
  · rintro i σ H' _ ⟨_, _, hS, _⟩
    exact hS.seq hl
  · rintro i x σ H' hx ⟨t2, rfl, hS, hp'⟩
    have hi : i < xs.length := by
      have := (List.getElem?_eq_some_iff.mp hx).1
      rw [len_vn] at this; exact this
    obtain ⟨g, gm⟩ := getD_mem hi
    rw [vn_get g] at hx
    cases hx
    generalize xs.getD i 0 = n at g gm
    refine ⟨_, rfl, .inl ⟨rfl, _, SqL.of hp'⟩, _, rfl, n, _, _, rfl, hb n gm, rfl, rfl, fun t ht => ?_⟩
    have ht2 : (upd H' t (.tup [.int (oneN n : Int), .int (twoN n : Int)])) p = some (.lst (vn (down (xs.take i)))) := by rw [upd_ne (ne_of_none hp' ht)]; exact hp'
    refine ⟨p, t, _, _, rfl, rfl, ht2, SqT.of upd_same, ?_, _, rfl, ((hS.new (hS.free ht))).new hp, ?_⟩
    · rw [len_vn, len_down, List.length_take]
      exact Nat.le_of_lt (small1000 (by show _ + 2 ≤ 1000; omega))
    · rw [upd_same, take_one g, down_append, ← vn_app]
      rfl
  · rintro σ H' ⟨t2, rfl, hS, hp'⟩
    rw [len_vn, List.take_length] at hp'
    exact ⟨_, rfl, q p H' hS hp hp'⟩
theorem scRows : FnScope ["depth", "top", "numbers"] ["depth", "top"] (defScope sRows) := ⟨rfl, rfl, rfl, by decide +kernel, rfl, by decide +kernel, by decide +kernel⟩
theorem ok_rows (F : Fun K "rows_of" "rows_of" sRows f fd) (mL : mg "len" = none) (mE : mg "enumerate" = none) (D : Has P w K mg base "check_depth" 1 ["depth"] spDepth) (C : Has P w K mg base "count_of_places" 1 ["depth"] spCount) (U : Has P w K mg base "parted" 19 ["numbers"] (spParted K)) (W : Has P w K mg base "check_top" 1 ["top"] spCVal) (B : Has P w K mg base "value_by" 1 ["number"] spValBy) :
    FnOk P w K mg base CX0 20 f fd ["depth", "top"] (spRows K) := by
  refine F.ok scRows (fun vs H Q E h => ?_) (fun cdv A outer s H vs Q E hr h => ?_)
  · obtain ⟨d, n, rfl, _⟩ := h
    rfl
  obtain ⟨d, n, rfl, hd, hn, q⟩ := h
  have hr1 : Room 1 _ := hr.mono (by decide)
  refine ⟨_, pss_cons (ps_expr (pe_has D hr1 (pa_cons (pv 0) pa_nil)))
    (pss_cons (ps_expr (pe_has W hr1 (pa_cons (pv 1) pa_nil)))
    (pss_cons (ps_set (i := 2) scRows.nd rfl (Or.inl rfl) (pe_lst (pa_cons (pv 1) pa_nil)))
    (pss_cons (ps_while PassesOwn.never (pt_cmpR op_lt (pe_callB call_len_seq rfl mL PySem.boot_len (pa_cons (pv 2) pa_nil)) (pe_has C hr1 (pa_cons (pv 0) pa_nil)) (nomark _))
      (pss_one (ps_set (i := 2) scRows.nd rfl (Or.inl rfl) (pe_has U hr (pa_cons (pv 2) pa_nil)))))
    (pss_one (ps_ret (pe_comp (cl := []) (N := ["key", "number"]) (fr := [none, none]) rfl
      (block_none rfl (by decide +kernel) (by decide +kernel) (by show ∀ p ∈ relS _ (defScope sRows), _; decide +kernel)) rfl trivial
      (pi_enum rfl mE (pa_cons (pv 2) pa_nil))
      (fun _ _ _ _ _ => pg_tupK (n := 2) rfl (pgs_cons (pg_name (i := 0) (show (["key", "number"] : List Str).Nodup by decide) rfl (Or.inl rfl)) (pgs_cons (pg_name (i := 1) (show (["key", "number"] : List Str).Nodup by decide) rfl (Or.inl rfl)) pgs_nil)))
      (fun _ _ _ _ _ => pifs_one (pt_cmpR op_gt (pv 1) pe_int (nomark _)))
      (fun _ _ _ _ _ => pe_tup (pa_cons (pv 0) (pa_cons (pe_has B hr1 (pa_cons (pv 1) pa_nil)) pa_nil))))))))), ?_⟩
  refine ⟨_, rfl, d, rfl, hd, ?_⟩
  refine ⟨_, rfl, n, rfl, ?_⟩
  refine ⟨_, rfl, by show 1 ≤ sizeLine; decide, fun p0 hp0 => ?_⟩
  refine while_on (fun m σ H' => m ≤ d ∧ ∃ a, σ = [some (.int (d : Int)), some (.int (n : Int)), some (.ref a)] ∧ Same H H' ∧ H' a = some (.lst (vn (downs (d - m) [n])))) d ⟨Nat.le_refl _, p0, rfl, Same.upd hp0, by rw [Nat.sub_self, upd_same]; rfl⟩ ?_
  rintro m σ H' ⟨hm, a, rfl, hS, ha⟩
  have hlen : (downs (d - m) [n]).length = 2 ^ (d - m) := by rw [len_downs]; exact Nat.mul_one _
  have hb1 : ∀ x ∈ [n], x < 2 ^ pl := fun x hx => by rw [List.mem_singleton.mp hx]; exact hn
  obtain ⟨c0, hc0⟩ : ∃ c0, c0 = 2 ^ d := ⟨_, rfl⟩
  refine ⟨_, rfl, a, _, rfl, .inl (SqL.of ha), _, rfl, d, c0, rfl, hd, hc0, _, _, rfl, rfl, _, rfl, ite3 (fun c => ?_) (fun c => ?_)⟩
  · have c' : 2 ^ (d - m) < 2 ^ d := by rw [len_vn, hlen, hc0] at c; exact Int.ofNat_lt.mp c
    have hlt : d - m < d := by
      refine Nat.lt_of_not_le fun z => ?_
      have := Nat.pow_le_pow_right (n := 2) (by decide) z
      omega
    obtain ⟨m', rfl⟩ : ∃ m', m = m' + 1 := ⟨m - 1, by omega⟩
    have h256 : 2 ^ (d - (m' + 1)) ≤ 2 ^ 8 := Nat.pow_le_pow_right (by decide) (by omega)
    refine ⟨_, fun _ _ z => z, _, rfl, a, _, rfl, SqL.of ha, by rw [hlen]; exact h256, downs_lt hb1 _, fun p' H3 hS3 _ hp3 => ?_⟩
    refine ⟨m', Nat.lt_succ_self _, by omega, p', rfl, hS.trans hS3, ?_⟩
    rw [show d - m' = (d - (m' + 1)) + 1 by omega, downs_succ]
    exact hp3
  · have c' : ¬ 2 ^ (d - m) < 2 ^ d := fun z => by
      rw [len_vn, hlen, hc0] at c
      exact c (Int.ofNat_lt.mpr z)
    have hm0 : m = 0 := by
      refine Nat.eq_zero_of_not_pos fun z => c' ?_
      exact Nat.pow_lt_pow_right (by decide) (by omega)
    subst hm0
    rw [Nat.sub_zero] at ha hlen
    generalize downs d [n] = xs at ha hlen q
    have h256 : 2 ^ d ≤ 2 ^ 8 := Nat.pow_le_pow_right (by decide) hd
    rw [← hlen] at h256
    refine ⟨_, rfl, a, rfl, ⟨_, SqL.of ha⟩, ?_⟩
    refine comp_on xs.length (by omega) (fun i ys τ H2 => ∃ (t0 t1 : Option V) (rs : List RowN), τ = [t0, t1] ∧ Same H' H2 ∧ RowsN H2 rs ∧ bare rs = rowsOf (xs.take i) ∧ rs.length ≤ i ∧ ys = refsN rs) ⟨_, _, [], rfl, Same.refl _, fun r hr => (nomatch hr), rfl, Nat.le_refl _, rfl⟩ ?_ ?_ ?_
    · rintro i ys τ H2 ⟨_, _, rs, _, _, _, _, h1, rfl⟩
      rw [len_refs]; exact h1
    · rintro i ys τ H2 hi ⟨t0, t1, rs, rfl, hS2, hR, hB, hz, rfl⟩
      obtain ⟨g, gm⟩ := getD_mem hi
      generalize xs.getD i 0 = v at g gm
      refine ⟨⟨_, _, SqL.of (hS2 _ _ ha), vn_get g⟩, fun x H3 y => ?_⟩
      obtain ⟨x0, t, y1, y2, y3, y4⟩ := y
      have e0 : x0 = .int (v : Int) := by
        have := y1 _ (SqL.of (hS2 _ _ ha))
        rw [vn_get g] at this
        exact (Option.some.inj this).symm
      subst e0 y3 y4
      have hS3 : Same H' (upd H2 t (.tup [.int (i : Int), .int (v : Int)])) := hS2.trans (Same.upd y2)
      have hR3 : RowsN (upd H2 t (.tup [.int (i : Int), .int (v : Int)])) rs := hR.same (Same.upd y2)
      refine ⟨t, _, rfl, SqT.of upd_same, rfl, _, _, rfl, _, _, rfl, rfl, ?_⟩
      generalize upd H2 t (.tup [.int (i : Int), .int (v : Int)]) = H3 at hS3 hR3
      refine ⟨_, rfl, _, _, rfl, rfl, _, rfl, ?_⟩
      have hlt : (xs.take i).length = i := by rw [List.length_take]; omega
      refine ite3 (fun c => ?_) (fun c => ?_)
      · have hv : 0 < v := by omega
        refine ⟨_, rfl, _, rfl, v, rfl, fun z => absurd z (by omega), fun v' hv' => ⟨by show 2 ≤ sizeLine; decide, fun t2 ht2 => ?_⟩⟩
        obtain rfl : v' = v - 1 := by omega
        refine ⟨_, _, rs ++ [(t2, i, v - 1)], rfl, hS3.trans (Same.upd ht2), fun r hr => ?_, ?_, ?_, ?_⟩
        · rcases List.mem_append.mp hr with z | z
          · exact (hR3.same (Same.upd ht2)) r z
          · rw [List.mem_singleton.mp z]; exact upd_same
        · rw [take_one g, rowsOf_snoc, if_pos hv, hlt, ← hB]
          unfold bare
          rw [List.map_append]; rfl
        · rw [List.length_append]; show _ + 1 ≤ _; omega
        · unfold refsN
          rw [List.map_append]; rfl
      · have hv : ¬ 0 < v := by omega
        refine ⟨_, _, rs, rfl, hS3, hR3, ?_, by omega, rfl⟩
        rw [take_one g, rowsOf_snoc, if_neg hv]
        exact hB
    · rintro ys τ H2 ⟨t0, t1, rs, rfl, hS2, hR, hB, hz, rfl⟩
      refine ⟨⟨_, SqL.of (hS2 _ _ ha), by rw [len_vn]; exact Nat.le_refl _⟩, fun p hp => ?_⟩
      rw [List.take_length] at hB
      exact q p rs _ ((hS.trans hS2).trans (Same.upd hp)) ((hS.trans hS2).free hp) upd_same (hR.same (Same.upd hp)) hB
end
end Ts
namespace Ts
open PySem L2
def sib (k : Nat) : Nat := if k % 2 = 0 then k + 1 else k - 1
def at2 (k a b : Nat) : Nat := if k % 2 = 0 then pairN a b else pairN b a
def climb : Nat → Nat → List Nat → Nat
  | _, n, [] => n
  | k, n, b :: bs => climb (k / 2) (at2 k n b) bs
def slipN : Nat → Nat → List Nat → List Nat
  | 0, _, _ => []
  | d + 1, k, xs => xs.getD (sib k) 0 :: slipN d (k / 2) (up xs)
theorem len_slip : ∀ (d k : Nat) (xs : List Nat), (slipN d k xs).length = d
  | 0, _, _ => rfl
  | d + 1, k, xs => by
    show (slipN d (k / 2) (up xs)).length + 1 = d + 1
    rw [len_slip d]
theorem half_in {k d : Nat} (h : k < 2 ^ (d + 1)) : 2 * (k / 2) + 1 < 2 ^ (d + 1) := by
  rw [Nat.pow_succ] at h ⊢; omega
theorem le_tri (s : Nat) : s ≤ tri s := by
  have h := two_tri s
  have : 2 * s ≤ s * (s + 1) := by
    cases s with
    | zero => exact Nat.le_refl _
    | succ t =>
      have := Nat.mul_le_mul_left (t + 1) (show 2 ≤ t + 1 + 1 by omega)
      omega
  omega
theorem le_pair (a b : Nat) : a ≤ pairN a b ∧ b ≤ pairN a b := by
  have := le_tri (a + b)
  unfold pairN
  omega
theorem le_at2 (k a b : Nat) : a ≤ at2 k a b ∧ b ≤ at2 k a b := by
  unfold at2
  split
  · exact le_pair a b
  · exact (le_pair b a).symm
theorem le_climb : ∀ (bs : List Nat) (k n : Nat), n ≤ climb k n bs
  | [], _, n => Nat.le_refl n
  | b :: r, k, n => Nat.le_trans (le_at2 k n b).1 (le_climb r (k / 2) _)
theorem mem_climb : ∀ (bs : List Nat) (k n b : Nat), b ∈ bs → b ≤ climb k n bs
  | [], _, _, _, h => by cases h
  | x :: r, k, n, b, h => by
    rcases List.mem_cons.mp h with e | e
    · rw [e]; exact Nat.le_trans (le_at2 k n x).2 (le_climb r (k / 2) _)
    · exact mem_climb r (k / 2) _ b e
theorem climb_app : ∀ (bs cs : List Nat) (k n : Nat), climb k n (bs ++ cs) = climb (k / 2 ^ bs.length) (climb k n bs) cs
  | [], _, k, n => by
    show climb k n _ = climb (k / 1) n _
    rw [Nat.div_one]; rfl
  | b :: r, cs, k, n => by
    show climb (k / 2) (at2 k n b) (r ++ cs) = _
    rw [climb_app r cs, Nat.div_div_eq_div_mul]
    show _ = climb (k / 2 ^ (r.length + 1)) (climb (k / 2) (at2 k n b) r) cs
    rw [Nat.pow_succ, Nat.mul_comm]
theorem climb_take {bs : List Nat} {i b : Nat} (k n : Nat) (h : bs[i]? = some b) : climb k n (bs.take (i + 1)) = at2 (k / 2 ^ i) (climb k n (bs.take i)) b := by
  have hl : (bs.take i).length = i := by
    have := (List.getElem?_eq_some_iff.mp h).1
    rw [List.length_take]; omega
  rw [List.take_add_one, h, climb_app, hl]
  rfl
theorem climb_mono {bs : List Nat} (i k n : Nat) : climb k n (bs.take i) ≤ climb k n bs := by
  have e := climb_app (bs.take i) (bs.drop i) k n
  rw [List.take_append_drop] at e
  rw [e]
  exact le_climb _ _ _
theorem slip_get : ∀ (d k i : Nat) (xs : List Nat), i < d → (slipN d k xs)[i]? = some ((ups i xs).getD (sib (k / 2 ^ i)) 0)
  | d + 1, k, 0, xs, _ => by
    show some (xs.getD (sib k) 0) = some (xs.getD (sib (k / 1)) 0)
    rw [Nat.div_one]
  | d + 1, k, i + 1, xs, h => by
    show (slipN d (k / 2) (up xs))[i]? = some ((ups i (up xs)).getD (sib (k / 2 ^ (i + 1))) 0)
    rw [slip_get d (k / 2) i (up xs) (by omega), Nat.div_div_eq_div_mul, Nat.pow_succ, Nat.mul_comm]
theorem sib_lt {k d : Nat} (h : k < 2 ^ (d + 1)) : sib k < 2 ^ (d + 1) := by
  have := half_in h
  unfold sib
  split <;> omega
theorem div_lt2 {k d i : Nat} (h : k < 2 ^ d) (hi : i < d) : k / 2 ^ i < 2 ^ (d - i - 1 + 1) := by
  rw [show d - i - 1 + 1 = d - i by omega]
  rw [Nat.div_lt_iff_lt_mul (Nat.two_pow_pos i), ← Nat.pow_add, show d - i + i = d by omega]
  exact h
theorem div_half (k i : Nat) : k / 2 ^ i / 2 = k / 2 ^ (i + 1) := by rw [Nat.div_div_eq_div_mul, Nat.pow_succ]
end Ts
namespace L2
open PySem PySem.Spec PyProof.Rows
theorem xor_one : ∀ k : Nat, k < 256 → Builtin.bitXor (k : Int) 1 = ((Ts.sib k : Nat) : Int) := by decide +kernel
theorem n_xor1 {X : Cx} : OpR X (binaryOp .BitXor) (fun x y H Q => ∃ k : Nat, x = .int (k : Int) ∧ y = .int 1 ∧ k < 256 ∧ Q (.int ((Ts.sib k : Nat) : Int)) H) :=
  op_xor.imp fun x y H Q ⟨k, e1, e2, h, q⟩ => ⟨_, _, e1, e2, by
    show Q (.int (Builtin.bitXor (k : Int) 1)) H
    rw [xor_one k h]; exact q⟩
end L2
namespace Ts
open PySem L2
theorem dec_iff {i j : Int} : (decide (V.int i = V.int j) = true) ↔ i = j := by
  rw [decide_eq_true_iff]
  exact ⟨fun h => V.int.inj h, fun h => by rw [h]⟩
theorem false_iff' {p : Prop} (h : ¬ p) : (false = true) ↔ p := ⟨fun z => (nomatch z), fun z => absurd z h⟩
inductive spCValN (vs : List V) (H : Hp) (Q : VK) (E_ : XK) : Prop where
  | mk (x : V) (n : Nat) (f0 : vs = [x]) (f1 : NumOf x n) (f2 : Q .non H) : spCValN  vs H Q E_
inductive spCNums (K : PySem.W.Frag) (vs : List V) (H : Hp) (Q : VK) (E_ : XK) : Prop where
  | mk (l : Addr) (xs : List Nat) (f0 : vs = [.ref l]) (f1 : SqL K H l (vn xs)) (f2 : Q .non H) : spCNums K vs H Q E_
inductive spPairAt (vs : List V) (H : Hp) (Q : VK) (E_ : XK) : Prop where
  | mk (k a b : Nat) (f0 : vs = [.int (k : Int), .int (a : Int), .int (b : Int)]) (f1 : a < 2 ^ bb) (f2 : b < 2 ^ bb) (f3 : Q (.int ((at2 k a b : Nat) : Int)) H) : spPairAt  vs H Q E_
inductive spLeads (K : PySem.W.Frag) (vs : List V) (H : Hp) (Q : VK) (E_ : XK) : Prop where
  | mk (t : Int) (k n : Nat) (x : V) (l : Addr) (bs : List Nat) (f0 : vs = [.int t, .int (k : Int), x, .ref l]) (f1 : NumOf x n) (f2 : SqL K H l (vn bs)) (f3 : t < ((2 ^ bb : Nat) : Int)) (f4 : ∀ b : Bool, (b = true ↔ ((climb k n bs : Nat) : Int) = t) → Q (.bl b) H) : spLeads K vs H Q E_
inductive spTaken (K : PySem.W.Frag) (vs : List V) (H : Hp) (Q : VK) (E_ : XK) : Prop where
  | mk (d : Nat) (t : Int) (k n : Nat) (x : V) (l : Addr) (bs : List Nat) (f0 : vs = [.int (d : Int), .int t, .int (k : Int), x, .ref l]) (f1 : d ≤ 8) (f2 : k < 2 ^ d) (f3 : NumOf x n) (f4 : SqL K H l (vn bs)) (f5 : t < ((2 ^ bb : Nat) : Int)) (f6 : ∀ b : Bool, (b = true ↔ bs.length = d ∧ ((climb k n bs : Nat) : Int) = t) → Q (.bl b) H) : spTaken K vs H Q E_
inductive spSlip (K : PySem.W.Frag) (vs : List V) (H : Hp) (Q : VK) (E_ : XK) : Prop where
  | mk (d k : Nat) (l : Addr) (rs : List RowN) (f0 : vs = [.int (d : Int), .ref l, .int (k : Int)]) (f1 : d ≤ 8) (f2 : k < 2 ^ d) (f3 : SqL K H l (refsN rs)) (f4 : RowsN H rs) (f5 : RowsOk (2 ^ d) (bare rs)) (f6 : rs.length ≤ 1000) (f7 : (∀ r ∈ bare rs, r.2 + 1 < 2 ^ 67)) (f8 : ∀ p H', Same H H' → H p = none → H' p = some (.lst (vn (slipN d k (leaves (2 ^ d) (bare rs))))) → Q (.ref p) H') : spSlip K vs H Q E_
section
variable {P : Program} {w : World} {K : PySem.W.Frag} {mg : Str → Option Value} {base : Heap} {f : Addr} {fd : FuncData}
theorem scCValN : FnScope ["value"] ["value"] (defScope sCValN) := ⟨rfl, rfl, rfl, by decide +kernel, rfl, by decide +kernel, by decide +kernel⟩
theorem ok_cvaln (F : Fun K "check_value_or_none" "check_value_or_none" sCValN f fd) (C : Has P w K mg base "check_value" 1 ["value"] spCVal) : FnOk P w K mg base CX0 2 f fd ["value"] spCValN := by
  refine F.ok scCValN (fun vs H Q E h => ?_) (fun cdv A outer s H vs Q E hr h => ?_)
  · obtain ⟨x, n, rfl, _⟩ := h
    rfl
  obtain ⟨x, n, rfl, hx, q⟩ := h
  refine ⟨_, pss_one (ps_if (pt_cmp (pc_notN (pv 0))) (pss_one (ps_expr (pe_has C hr (pa_cons (pv 0) pa_nil)))) pss_nil), ?_⟩
  cases hx with
  | non => exact ⟨_, rfl, _, rfl, iteNS rfl q⟩
  | int v => exact ⟨_, rfl, _, rfl, iteB1 rfl ⟨_, rfl, v, rfl, q⟩⟩
theorem scCNums : FnScope ["numbers", "number"] ["numbers"] (defScope sCNums) := ⟨rfl, rfl, rfl, by decide +kernel, rfl, by decide +kernel, by decide +kernel⟩
theorem vn_at {xs : List Nat} {i : Nat} {x : V} (h : (vn xs)[i]? = some x) : ∃ n, xs[i]? = some n ∧ x = .int (n : Int) := by
  unfold vn at h
  rw [List.getElem?_map] at h
  cases e : xs[i]? with
  | none => rw [e] at h; cases h
  | some n => rw [e] at h; cases h; exact ⟨n, rfl, rfl⟩
theorem ok_cnums (F : Fun K "check_numbers" "check_numbers" sCNums f fd) : FnOk P w K mg base CX0 1 f fd ["numbers"] (spCNums K) := by
  refine F.ok scCNums (fun vs H Q E h => ?_) (fun cdv A outer s H vs Q E hr h => ?_)
  · obtain ⟨l, xs, rfl, _⟩ := h
    rfl
  obtain ⟨l, xs, rfl, hl, q⟩ := h
  refine ⟨_, pss_one (ps_for PassesOwn.never rfl (pi_list (pv 0)) (pg_name (i := 1) scCNums.nd rfl (Or.inl rfl))
    (pss_one (ps_if (pt_cmpR op_lt (pv 1) pe_int (nomark _)) pss_never pss_nil))), ?_⟩
  refine ⟨_, rfl, l, rfl, ⟨_, hl⟩, ?_⟩
  refine for_list (xs := vn xs) (fun i σ H' => H' = H ∧ ∃ t1 : Option V, σ = [some (.ref l), t1]) ⟨rfl, _, rfl⟩ ?_ ?_ ?_
  · rintro i σ H' _ ⟨rfl, _⟩
    exact hl
  · rintro i x σ H' hx ⟨rfl, t1, rfl⟩
    obtain ⟨n, _, rfl⟩ := vn_at hx
    exact ⟨_, rfl, _, _, rfl, rfl, _, rfl, iteN (by omega) ⟨rfl, _, rfl⟩⟩
  · rintro σ H' ⟨rfl, _⟩
    exact q
theorem scPairAt : FnScope ["place", "number", "beside"] ["place", "number", "beside"] (defScope sPairAt) := ⟨rfl, rfl, rfl, by decide +kernel, rfl, by decide +kernel, by decide +kernel⟩
theorem ok_pairat (F : Fun K "pair_at" "pair_at" sPairAt f fd) (C : Has P w K mg base "pair_of" 2 ["one", "two"] spPair) : FnOk P w K mg base CX0 3 f fd ["place", "number", "beside"] spPairAt := by
  refine F.ok scPairAt (fun vs H Q E h => ?_) (fun cdv A outer s H vs Q E hr h => ?_)
  · obtain ⟨k, a, b, rfl, _⟩ := h
    rfl
  obtain ⟨k, a, b, rfl, ha, hb, q⟩ := h
  refine ⟨_, pss_cons (ps_if (pt_cmpR op_eq (pe_op n_mod (pv 0) pe_int) pe_int (nomark _)) (pss_one (ps_ret (pe_has C hr (pa_cons (pv 1) (pa_cons (pv 2) pa_nil))))) pss_nil)
    (pss_one (ps_ret (pe_has C hr (pa_cons (pv 2) (pa_cons (pv 1) pa_nil))))), ?_⟩
  refine ⟨_, rfl, k, 2, k % 2, rfl, rfl, Nat.zero_lt_two, rfl, rfl, _, rfl, ite3 (fun c => ?_) (fun c => ?_)⟩
  · have e : k % 2 = 0 := by
      have z : ((k % 2 : Nat) : Int) = 0 := V.int.inj c
      omega
    refine ⟨_, rfl, _, rfl, a, b, rfl, ha, hb, ?_⟩
    unfold at2 at q
    rw [if_pos e] at q
    exact q
  · have e : ¬ k % 2 = 0 := fun z => c (by rw [z]; rfl)
    refine ⟨_, rfl, _, rfl, b, a, rfl, hb, ha, ?_⟩
    unfold at2 at q
    rw [if_neg e] at q
    exact q
theorem scLeads : FnScope ["top", "key", "value", "slip", "number", "place", "beside"] ["top", "key", "value", "slip"] (defScope sLeads) := ⟨rfl, rfl, rfl, by decide +kernel, rfl, by decide +kernel, by decide +kernel⟩
theorem ok_leads (F : Fun K "leads_to" "leads_to" sLeads f fd) (N : Has P w K mg base "number_by" 1 ["value"] spNumBy) (C : Has P w K mg base "pair_at" 3 ["place", "number", "beside"] spPairAt) : FnOk P w K mg base CX0 4 f fd ["top", "key", "value", "slip"] (spLeads K) := by
  refine F.ok scLeads (fun vs H Q E h => ?_) (fun cdv A outer s H vs Q E hr h => ?_)
  · obtain ⟨t, k, n, x, l, bs, rfl, _⟩ := h
    rfl
  obtain ⟨t, k, n, x, l, bs, rfl, hx, hl, ht, q⟩ := h
  have hr1 : Room 1 _ := hr.mono (by decide)
  refine ⟨_, pss_cons (ps_set (i := 4) scLeads.nd rfl (Or.inl rfl) (pe_has N hr1 (pa_cons (pv 2) pa_nil)))
    (pss_cons (ps_set (i := 5) scLeads.nd rfl (Or.inl rfl) (pv 1))
    (pss_cons (ps_for PassesOwn.never rfl (pi_list (pv 3)) (pg_name (i := 6) scLeads.nd rfl (Or.inl rfl))
      (pss_cons (ps_if (PW.pt (pw_or (pt_cmpR op_gt (pv 4) (pv 0) (nomark _)) (pw_or1 (pt_cmpR op_gt (pv 6) (pv 0) (nomark _))))) (pss_one (ps_ret pe_bl)) pss_nil)
      (pss_cons (ps_set (i := 4) scLeads.nd rfl (Or.inl rfl) (pe_has C hr (pa_cons (pv 5) (pa_cons (pv 4) (pa_cons (pv 6) pa_nil)))))
      (pss_one (ps_set (i := 5) scLeads.nd rfl (Or.inl rfl) (pe_op n_div (pv 5) pe_int))))))
    (pss_one (ps_ret (pe_cmpR op_eq (pv 4) (pv 0) (nomark _)))))), ?_⟩
  refine ⟨_, rfl, x, n, rfl, hx, ?_⟩
  refine ⟨_, rfl, ?_⟩
  refine ⟨_, rfl, l, rfl, ⟨_, hl⟩, ?_⟩
  refine for_list (xs := vn bs) (fun i σ H' => H' = H ∧ ∃ t6 : Option V, σ = [some (.int t), some (.int (k : Int)), some x, some (.ref l), some (.int ((climb k n (bs.take i) : Nat) : Int)), some (.int ((k / 2 ^ i : Nat) : Int)), t6]) ⟨rfl, _, by rw [Nat.pow_zero, Nat.div_one]; rfl⟩ ?_ ?_ ?_
  · rintro i σ H' _ ⟨rfl, _⟩
    exact hl
  · rintro i y σ H' hy ⟨rfl, t6, rfl⟩
    obtain ⟨b, hb, rfl⟩ := vn_at hy
    have m1 := climb_mono (bs := bs) i k n
    have m2 := mem_climb bs k n b (List.mem_of_getElem? hb)
    refine ⟨_, rfl, _, rfl, _, _, rfl, rfl, _, rfl, ite3 (fun c => ?_) (fun c => ?_)⟩
    · exact iteT (q false (false_iff' (by omega)))
    refine ⟨_, rfl, _, rfl, _, _, rfl, rfl, _, rfl, ite3 (fun c2 => ?_) (fun c2 => ?_)⟩
    · exact q false (false_iff' (by omega))
    have hc1 : climb k n (bs.take i) < 2 ^ bb := by omega
    have hc2 : b < 2 ^ bb := by omega
    refine ⟨_, rfl, _, rfl, _, rfl, k / 2 ^ i, climb k n (bs.take i), b, rfl, hc1, hc2, ?_⟩
    refine ⟨_, rfl, k / 2 ^ i, 2, k / 2 ^ (i + 1), rfl, rfl, ⟨by decide, two_dl⟩, (div_half k i).symm, rfl, some (.int (b : Int)), ?_⟩
    rw [climb_take k n hb]
    rfl
  · rintro σ H' ⟨rfl, t6, rfl⟩
    rw [len_vn, List.take_length]
    exact ⟨_, rfl, _, rfl, rfl, q _ dec_iff⟩
theorem scTaken : FnScope ["depth", "top", "key", "value", "slip"] ["depth", "top", "key", "value", "slip"] (defScope sTaken) := ⟨rfl, rfl, rfl, by decide +kernel, rfl, by decide +kernel, by decide +kernel⟩
theorem ok_taken (F : Fun K "is_taken" "is_taken" sTaken f fd) (mL : mg "len" = none) (D : Has P w K mg base "check_depth" 1 ["depth"] spDepth) (CK : Has P w K mg base "check_key" 2 ["depth", "key"] spCKey) (CV : Has P w K mg base "check_value_or_none" 2 ["value"] spCValN) (CN : Has P w K mg base "check_numbers" 1 ["numbers"] (spCNums K))
    (L : Has P w K mg base "leads_to_slips" 4 ["top", "key", "value", "slip"] (spLeads K)) : FnOk P w K mg base CX0 5 f fd ["depth", "top", "key", "value", "slip"] (spTaken K) := by
  refine F.ok scTaken (fun vs H Q E h => ?_) (fun cdv A outer s H vs Q E hr h => ?_)
  · obtain ⟨d, t, k, n, x, l, bs, rfl, _⟩ := h
    rfl
  obtain ⟨d, t, k, n, x, l, bs, rfl, hd, hk, hx, hl, ht, q⟩ := h
  have hr1 : Room 1 _ := hr.mono (by decide)
  have hr2 : Room 2 _ := hr.mono (by decide)
  refine ⟨_, pss_cons (ps_expr (pe_has D hr1 (pa_cons (pv 0) pa_nil)))
    (pss_cons (ps_expr (pe_has CK hr2 (pa_cons (pv 0) (pa_cons (pv 2) pa_nil))))
    (pss_cons (ps_expr (pe_has CV hr2 (pa_cons (pv 3) pa_nil)))
    (pss_cons (ps_expr (pe_has CN hr1 (pa_cons (pv 4) pa_nil)))
    (pss_one (ps_ret (pe_and (pe_cmpR op_eq (pe_callB call_len_seq rfl mL PySem.boot_len (pa_cons (pv 4) pa_nil)) (pv 0) (nomark _))
      (pe_one (pe_has L hr (pa_cons (pv 1) (pa_cons (pv 2) (pa_cons (pv 3) (pa_cons (pv 4) pa_nil)))))))))))), ?_⟩
  refine ⟨_, rfl, d, rfl, hd, ?_⟩
  refine ⟨_, rfl, _, rfl, d, k, rfl, hd, hk, ?_⟩
  refine ⟨_, rfl, x, n, rfl, hx, ?_⟩
  refine ⟨_, rfl, l, bs, rfl, hl, ?_⟩
  refine ⟨_, rfl, l, _, rfl, .inl hl, _, rfl, rfl, _, rfl, ?_⟩
  have hlen := len_vn bs
  refine ite3 (fun c => ?_) (fun c => ?_)
  · have e : bs.length = d := by
      have z : ((vn bs).length : Int) = (d : Int) := V.int.inj c
      omega
    exact ⟨_, rfl, _, rfl, _, rfl, _, rfl, t, k, n, x, l, bs, rfl, hx, hl, ht, fun b hb => q b (hb.trans ⟨fun z => ⟨e, z⟩, fun z => z.2⟩)⟩
  · refine q false (false_iff' fun z => c ?_)
    rw [hlen, z.1]
theorem scSlip : FnScope ["depth", "rows", "key", "slip", "place", "numbers"] ["depth", "rows", "key"] (defScope sSlip) := ⟨rfl, rfl, rfl, by decide +kernel, rfl, by decide +kernel, by decide +kernel⟩
theorem ok_slip (F : Fun K "slip_for" "slip_for" sSlip f fd) (mL : mg "len" = none) (D : Has P w K mg base "check_depth" 1 ["depth"] spDepth) (R : Has P w K mg base "check_rows" 4 ["depth", "rows"] (spCRows K)) (CK : Has P w K mg base "check_key" 2 ["depth", "key"] spCKey) (L : Has P w K mg base "place_numbers" 2 ["depth", "rows"] (spPlace K))
    (U : Has P w K mg base "paired" 3 ["numbers"] (spPaired K)) : FnOk P w K mg base CX0 5 f fd ["depth", "rows", "key"] (spSlip K) := by
  refine F.ok scSlip (fun vs H Q E h => ?_) (fun cdv A outer s H vs Q E hr h => ?_)
  · obtain ⟨d, k, l, rs, rfl, _⟩ := h
    rfl
  obtain ⟨d, k, l, rs, rfl, hd, hk, hl, hR, ok, h1000, h67, q⟩ := h
  have hr1 : Room 1 _ := hr.mono (by decide)
  have hr2 : Room 2 _ := hr.mono (by decide)
  have hr3 : Room 3 _ := hr.mono (by decide)
  refine ⟨_, pss_cons (ps_expr (pe_has D hr1 (pa_cons (pv 0) pa_nil)))
    (pss_cons (ps_expr (pe_has R hr (pa_cons (pv 0) (pa_cons (pv 1) pa_nil))))
    (pss_cons (ps_expr (pe_has CK hr2 (pa_cons (pv 0) (pa_cons (pv 2) pa_nil))))
    (pss_cons (ps_set (i := 3) scSlip.nd rfl (Or.inl rfl) (pe_lst pa_nil))
    (pss_cons (ps_set (i := 4) scSlip.nd rfl (Or.inl rfl) (pv 2))
    (pss_cons (ps_set (i := 5) scSlip.nd rfl (Or.inl rfl) (pe_has L hr2 (pa_cons (pv 0) (pa_cons (pv 1) pa_nil))))
    (pss_cons (ps_while PassesOwn.never (pt_cmpR op_gt (pe_callB call_len_seq rfl mL PySem.boot_len (pa_cons (pv 5) pa_nil)) pe_int (nomark _))
      (pss_cons (ps_expr (pe_bm PySem.F.plainAttrs_list PySem.F.slot_list_append PySem.F.type_list_append mt_append (pv 3) (pa_cons (pe_ix ix_list (pv 5) (pe_op n_xor1 (pv 4) pe_int) (fun _ _ => rfl)) pa_nil)))
      (pss_cons (ps_set (i := 5) scSlip.nd rfl (Or.inl rfl) (pe_has U hr3 (pa_cons (pv 5) pa_nil)))
      (pss_one (ps_set (i := 4) scSlip.nd rfl (Or.inl rfl) (pe_op n_div (pv 4) pe_int))))))
    (pss_one (ps_ret (pv 3))))))))), ?_⟩
  refine ⟨_, rfl, d, rfl, hd, ?_⟩
  refine ⟨_, rfl, _, rfl, d, l, rs, rfl, hd, hl, hR, ok, h1000, fun H1 hS1 => ?_⟩
  refine ⟨_, rfl, _, rfl, d, k, rfl, hd, hk, ?_⟩
  refine ⟨by show 0 ≤ sizeLine; decide, fun g hg1 => ?_⟩
  have hg0 : H g = none := hS1.free hg1
  refine ⟨_, rfl, ?_⟩
  have hSa : Same H (upd H1 g (.lst [])) := hS1.new hg0
  refine ⟨_, rfl, _, rfl, d, l, rs, rfl, hd, hSa.seq hl, hR.same hSa, ok, fun p H2 hS2 hp hp2 => ?_⟩
  have hLl : (leaves (2 ^ d) (bare rs)).length = 2 ^ d := len_leaves _ _
  have hLb := leaves_lt (c := 2 ^ d) (show 0 < 2 ^ 67 by decide) h67
  generalize leaves (2 ^ d) (bare rs) = ls at hLl hLb hp2 q
  have hg2 : H2 g = some (.lst []) := hS2 _ _ upd_same
  have hgp : g ≠ p := ne_of_none (H := upd H1 g (.lst [])) upd_same hp
  refine while_on (fun m σ H' => m ≤ d ∧ ∃ a, σ = [some (.int (d : Int)), some (.ref l), some (.int (k : Int)), some (.ref g), some (.int ((k / 2 ^ (d - m) : Nat) : Int)), some (.ref a)] ∧ g ≠ a ∧ Same H H' ∧ H' g = some (.lst (vn ((slipN d k ls).take (d - m)))) ∧ H' a = some (.lst (vn (ups (d - m) ls)))) d
    ⟨Nat.le_refl _, p, by rw [Nat.sub_self, Nat.pow_zero, Nat.div_one]; rfl, hgp, hSa.trans hS2, by rw [Nat.sub_self]; exact hg2, by rw [Nat.sub_self]; exact hp2⟩ ?_
  rintro m σ H' ⟨hm, a, rfl, hga, hS, hg', ha⟩
  have hlen : (ups (d - m) ls).length = 2 ^ m := by
    rw [len_ups, hLl, Nat.pow_div (Nat.sub_le _ _) (by decide)]
    congr 1
    omega
  refine ⟨_, rfl, a, _, rfl, .inl (SqL.of ha), _, _, rfl, rfl, _, rfl, ite3 (fun c => ?_) (fun c => ?_)⟩
  · rw [len_vn, hlen] at c
    obtain ⟨m', rfl⟩ : ∃ m', m = m' + 1 := by
      cases m with
      | zero => exact absurd c (by decide)
      | succ m' => exact ⟨m', rfl⟩
    have h256 : 2 ^ (m' + 1) ≤ 2 ^ 8 := Nat.pow_le_pow_right (by decide) (by omega)
    have hi : d - (m' + 1) < d := by omega
    have hkk : k / 2 ^ (d - (m' + 1)) < 2 ^ (m' + 1) := by
      have := div_lt2 hk hi
      rw [show d - (d - (m' + 1)) - 1 + 1 = m' + 1 by omega] at this
      exact this
    have hk256 : k / 2 ^ (d - (m' + 1)) < 256 := Nat.lt_of_lt_of_le hkk h256
    have hsib : sib (k / 2 ^ (d - (m' + 1))) < (ups (d - (m' + 1)) ls).length := by rw [hlen]; exact sib_lt hkk
    obtain ⟨g1, _⟩ := getD_mem hsib
    have hsg := slip_get d k (d - (m' + 1)) ls hi
    refine ⟨_, fun _ _ z => z, ?_⟩
    refine ⟨_, rfl, .inl ⟨rfl, _, SqL.of hg'⟩, _, rfl, _, rfl, k / 2 ^ (d - (m' + 1)), rfl, rfl, hk256, a, _, _, _, rfl, rfl, SqL.of ha, atI_nat (vn_get g1), ?_⟩
    have hlt : (vn ((slipN d k ls).take (d - (m' + 1)))).length < sizeLine := by
      rw [len_vn, List.length_take]
      exact small1000 (by omega)
    refine ⟨g, _, _, rfl, rfl, hg', hlt, ?_⟩
    have hg3 : (upd H' g (.lst (vn ((slipN d k ls).take (d - (m' + 1))) ++ [V.int (((ups (d - (m' + 1)) ls).getD (sib (k / 2 ^ (d - (m' + 1)))) 0 : Nat) : Int)]))) g = some (.lst (vn ((slipN d k ls).take (d - m')))) := by
      rw [upd_same, show d - m' = d - (m' + 1) + 1 by omega, take_one hsg, ← vn_app]
      rfl
    have ha3 : (upd H' g (.lst (vn ((slipN d k ls).take (d - (m' + 1))) ++ [V.int (((ups (d - (m' + 1)) ls).getD (sib (k / 2 ^ (d - (m' + 1)))) 0 : Nat) : Int)]))) a = some (.lst (vn (ups (d - (m' + 1)) ls))) := by
      rw [upd_ne (Ne.symm hga)]; exact ha
    have hS3 : Same H (upd H' g (.lst (vn ((slipN d k ls).take (d - (m' + 1))) ++ [V.int (((ups (d - (m' + 1)) ls).getD (sib (k / 2 ^ (d - (m' + 1)))) 0 : Nat) : Int)]))) := hS.new hg0
    generalize upd H' g (.lst (vn ((slipN d k ls).take (d - (m' + 1))) ++ [V.int (((ups (d - (m' + 1)) ls).getD (sib (k / 2 ^ (d - (m' + 1)))) 0 : Nat) : Int)])) = H3 at hg3 ha3 hS3 ⊢
    refine ⟨_, rfl, a, _, rfl, SqL.of ha3, by rw [hlen]; exact h256, by rw [hlen, Nat.pow_succ]; omega, fun x hx => lt_pow_mono (ups_lt hLb _ x hx) (Nat.le_trans (bits_le (by omega)) (by decide)), fun p' H4 hS4 hp4 hp4' => ?_⟩
    refine ⟨_, rfl, k / 2 ^ (d - (m' + 1)), 2, k / 2 ^ (d - m'), rfl, rfl, ⟨by decide, two_dl⟩, by show k / 2 ^ (d - m') = k / 2 ^ (d - (m' + 1)) / 2; rw [div_half, show d - (m' + 1) + 1 = d - m' by omega], ?_⟩
    refine ⟨m', Nat.lt_succ_self _, by omega, p', rfl, ne_of_none hg3 hp4, hS3.trans hS4, hS4 _ _ hg3, ?_⟩
    rw [show d - m' = (d - (m' + 1)) + 1 by omega, ups_succ]
    exact hp4'
  · rw [len_vn, hlen] at c
    have hm0 : m = 0 := by
      cases m with
      | zero => rfl
      | succ m' =>
        exfalso
        refine c ?_
        have : 0 < 2 ^ m' := Nat.two_pow_pos m'
        rw [Nat.pow_succ]; omega
    subst hm0
    rw [Nat.sub_zero, List.take_of_length_le (by rw [len_slip]; exact Nat.le_refl _)] at hg'
    exact ⟨_, rfl, q g H' hS hg0 hg'⟩
end
end Ts
namespace Ts
open PySem L2
abbrev Prt := Nat × Nat
def preP : Nat → Nat → List Prt
  | 0, _ => []
  | i + 1, f => (if f / 2 ^ i % 2 = 1 then [(i, f / 2 ^ i - 1)] else []) ++ preP i f
def sufP : Nat → Nat → List Prt
  | 0, _ => []
  | i + 1, l => sufP i l ++ (if l / 2 ^ i % 2 = 0 then [(i, l / 2 ^ i + 1)] else [])
def partsP (d f l : Nat) : List Prt := preP d f ++ sufP d l
def numAt (xs : List Nat) (p : Prt) : Nat := (ups p.1 xs).getD p.2 0
theorem mem_preP : ∀ {d f : Nat} {p : Prt}, p ∈ preP d f ↔ ∃ i, i < d ∧ f / 2 ^ i % 2 = 1 ∧ p = (i, f / 2 ^ i - 1)
  | 0, f, p => ⟨fun h => (nomatch h), fun ⟨i, h, _⟩ => absurd h (Nat.not_lt_zero i)⟩
  | d + 1, f, p => by
    have ih := mem_preP (d := d) (f := f) (p := p)
    unfold preP
    rw [List.mem_append, ih]
    constructor
    · rintro (h | ⟨i, h1, h2⟩)
      · split at h
        · rename_i hb
          exact ⟨d, Nat.lt_succ_self _, hb, List.mem_singleton.mp h⟩
        · cases h
      · exact ⟨i, Nat.lt_succ_of_lt h1, h2⟩
    · rintro ⟨i, h1, h2, h3⟩
      by_cases e : i = d
      · subst e
        rw [if_pos h2, h3]
        exact .inl List.mem_cons_self
      · exact .inr ⟨i, by omega, h2, h3⟩
theorem mem_sufP : ∀ {d l : Nat} {p : Prt}, p ∈ sufP d l ↔ ∃ i, i < d ∧ l / 2 ^ i % 2 = 0 ∧ p = (i, l / 2 ^ i + 1)
  | 0, l, p => ⟨fun h => (nomatch h), fun ⟨i, h, _⟩ => absurd h (Nat.not_lt_zero i)⟩
  | d + 1, l, p => by
    have ih := mem_sufP (d := d) (l := l) (p := p)
    unfold sufP
    rw [List.mem_append, ih]
    constructor
    · rintro (⟨i, h1, h2⟩ | h)
      · exact ⟨i, Nat.lt_succ_of_lt h1, h2⟩
      · split at h
        · rename_i hb
          exact ⟨d, Nat.lt_succ_self _, hb, List.mem_singleton.mp h⟩
        · cases h
    · rintro ⟨i, h1, h2, h3⟩
      by_cases e : i = d
      · subst e
        rw [if_pos h2, h3]
        exact .inr List.mem_cons_self
      · exact .inl ⟨i, by omega, h2, h3⟩
theorem len_preP : ∀ (d f : Nat), (preP d f).length ≤ d
  | 0, _ => Nat.le_refl _
  | d + 1, f => by
    have := len_preP d f
    unfold preP
    rw [List.length_append]
    split <;> simp only [List.length_singleton, List.length_nil] <;> omega
theorem len_sufP : ∀ (d l : Nat), (sufP d l).length ≤ d
  | 0, _ => Nat.le_refl _
  | d + 1, l => by
    have := len_sufP d l
    unfold sufP
    rw [List.length_append]
    split <;> simp only [List.length_singleton, List.length_nil] <;> omega
theorem nd_preP : ∀ (d f : Nat), (preP d f).Nodup
  | 0, _ => List.nodup_nil
  | d + 1, f => by
    unfold preP
    rw [List.nodup_append]
    refine ⟨by split <;> simp, nd_preP d f, fun x hx y hy e => ?_⟩
    split at hx
    · obtain ⟨i, h1, _, h3⟩ := mem_preP.mp hy
      have := List.mem_singleton.mp hx
      rw [this, h3] at e
      have := (Prod.mk.inj e).1
      omega
    · cases hx
theorem nd_sufP : ∀ (d l : Nat), (sufP d l).Nodup
  | 0, _ => List.nodup_nil
  | d + 1, l => by
    unfold sufP
    rw [List.nodup_append]
    refine ⟨nd_sufP d l, by split <;> simp, fun x hx y hy e => ?_⟩
    split at hy
    · obtain ⟨i, h1, _, h3⟩ := mem_sufP.mp hx
      have := List.mem_singleton.mp hy
      rw [this, h3] at e
      have := (Prod.mk.inj e).1
      omega
    · cases hy
theorem nd_parts {d f l : Nat} (h : f ≤ l) : (partsP d f l).Nodup := by
  unfold partsP
  rw [List.nodup_append]
  refine ⟨nd_preP d f, nd_sufP d l, fun x hx y hy e => ?_⟩
  obtain ⟨i, _, b1, h3⟩ := mem_preP.mp hx
  obtain ⟨j, _, b2, h4⟩ := mem_sufP.mp hy
  rw [h3, h4] at e
  obtain ⟨e1, e2⟩ := Prod.mk.inj e
  subst e1
  have : f / 2 ^ i ≤ l / 2 ^ i := Nat.div_le_div_right h
  omega
theorem part_lv {d f l : Nat} {p : Prt} (h : p ∈ partsP d f l) : p.1 < d := by
  rcases List.mem_append.mp h with z | z
  · obtain ⟨i, h1, _, h3⟩ := mem_preP.mp z
    rw [h3]; exact h1
  · obtain ⟨i, h1, _, h3⟩ := mem_sufP.mp z
    rw [h3]; exact h1
theorem even_up {m k : Nat} (h : m < 2 ^ (k + 1)) (e : m % 2 = 0) : m + 1 < 2 ^ (k + 1) := by
  rw [Nat.pow_succ] at h ⊢
  omega
theorem part_in {d f l : Nat} {p : Prt} (hf : f < 2 ^ d) (hl : l < 2 ^ d) (h : p ∈ partsP d f l) : p.2 < 2 ^ (d - p.1) := by
  have dv : ∀ {x i : Nat}, x < 2 ^ d → i < d → x / 2 ^ i < 2 ^ (d - i - 1 + 1) := fun hx hi => by
    rw [show ∀ a b : Nat, b < a → a - b - 1 + 1 = a - b from fun a b h => by omega]
    · rw [Nat.div_lt_iff_lt_mul (Nat.two_pow_pos _), ← Nat.pow_add, Nat.sub_add_cancel (Nat.le_of_lt hi)]
      exact hx
    · exact hi
  rcases List.mem_append.mp h with z | z
  · obtain ⟨i, h1, h2, h3⟩ := mem_preP.mp z
    have := dv hf h1
    rw [h3]
    show f / 2 ^ i - 1 < 2 ^ (d - i)
    rw [show d - i - 1 + 1 = d - i by omega] at this
    exact Nat.lt_of_le_of_lt (Nat.sub_le _ _) this
  · obtain ⟨i, h1, h2, h3⟩ := mem_sufP.mp z
    have := even_up (dv hl h1) h2
    rw [h3]
    show l / 2 ^ i + 1 < 2 ^ (d - i)
    rw [show d - i - 1 + 1 = d - i by omega] at this
    exact this
end Ts
namespace Ts
open PySem L2
def sl (xs : List Nat) (f l : Nat) : List Nat := (xs.drop f).take (l + 1 - f)
def ext (out : Prt → Nat) (i lo hi : Nat) (ws : List Nat) : List Nat := (if lo % 2 = 1 then [out (i, lo - 1)] else []) ++ ws ++ (if hi % 2 = 0 then [out (i, hi + 1)] else [])
def upW (out : Prt → Nat) (f l : Nat) (ws : List Nat) : Nat → List Nat
  | 0 => ws
  | i + 1 => up (ext out i (f / 2 ^ i) (l / 2 ^ i) (upW out f l ws i))
theorem div_shift (x i : Nat) : x / 2 / 2 ^ i = x / 2 ^ (i + 1) := by rw [Nat.div_div_eq_div_mul, Nat.pow_succ, Nat.mul_comm]
theorem upW_shift (out : Prt → Nat) (f l : Nat) (ws : List Nat) : ∀ i, upW out f l ws (i + 1) = upW (fun p => out (p.1 + 1, p.2)) (f / 2) (l / 2) (up (ext out 0 f l ws)) i
  | 0 => by
    show up (ext out 0 (f / 2 ^ 0) (l / 2 ^ 0) ws) = _
    rw [Nat.pow_zero, Nat.div_one, Nat.div_one]
    rfl
  | i + 1 => by
    have ih := upW_shift out f l ws i
    show up (ext out (i + 1) (f / 2 ^ (i + 1)) (l / 2 ^ (i + 1)) (upW out f l ws (i + 1))) = up (ext _ i (f / 2 / 2 ^ i) (l / 2 / 2 ^ i) _)
    rw [ih, div_shift, div_shift]
    rfl
theorem len_sl {xs : List Nat} {f l : Nat} (h : l < xs.length) (hf : f ≤ l) : (sl xs f l).length = l + 1 - f := by
  unfold sl
  rw [List.length_take, List.length_drop]
  omega
theorem len_ext {out : Prt → Nat} {i lo hi : Nat} {ws : List Nat} (h : ws.length = hi + 1 - lo) (hl : lo ≤ hi) : (ext out i lo hi ws).length = 2 * (hi / 2 + 1 - lo / 2) := by
  unfold ext
  rw [List.length_append, List.length_append, h]
  split <;> split <;> simp only [List.length_singleton, List.length_nil] <;> omega
theorem len_upW {out : Prt → Nat} {f l : Nat} {ws : List Nat} (hfl : f ≤ l) (hw : ws.length = l + 1 - f) : ∀ i, (upW out f l ws i).length = l / 2 ^ i + 1 - f / 2 ^ i
  | 0 => by
    rw [Nat.pow_zero, Nat.div_one, Nat.div_one]
    exact hw
  | i + 1 => by
    have ih := len_upW (out := out) hfl hw i
    have hle : f / 2 ^ i ≤ l / 2 ^ i := Nat.div_le_div_right hfl
    show (up (ext out i _ _ _)).length = _
    have dv : ∀ x, x / 2 ^ (i + 1) = x / 2 ^ i / 2 := fun x => by rw [Nat.div_div_eq_div_mul, Nat.pow_succ]
    rw [len_up, len_ext ih hle, dv, dv]
    generalize f / 2 ^ i / 2 = a
    generalize l / 2 ^ i / 2 = b
    omega
theorem le_pair' (a b : Nat) : a ≤ pairN a b ∧ b ≤ pairN a b := by
  have h := two_tri (a + b)
  have : 2 * (a + b) ≤ (a + b) * (a + b + 1) := by
    cases hs : a + b with
    | zero => exact Nat.le_refl _
    | succ t =>
      have := Nat.mul_le_mul_left (t + 1) (show 2 ≤ t + 1 + 1 by omega)
      omega
  unfold pairN
  omega
theorem up_ge : ∀ {ys : List Nat} {x : Nat}, ys.length % 2 = 0 → x ∈ ys → ∃ y ∈ up ys, x ≤ y
  | [], x, _, h => by cases h
  | [_], x, h, _ => by simp at h
  | a :: b :: r, x, h, m => by
    rcases List.mem_cons.mp m with e | m
    · exact ⟨_, List.mem_cons_self, by rw [e]; exact (le_pair' a b).1⟩
    · rcases List.mem_cons.mp m with e | m
      · exact ⟨_, List.mem_cons_self, by rw [e]; exact (le_pair' a b).2⟩
      · obtain ⟨y, h1, h2⟩ := up_ge (ys := r) (by simp only [List.length_cons] at h; omega) m
        exact ⟨y, List.mem_cons_of_mem _ h1, h2⟩
theorem upW_ge {out : Prt → Nat} {f l : Nat} {ws : List Nat} (hfl : f ≤ l) (hw : ws.length = l + 1 - f) {i x : Nat} (hx : x ∈ ext out i (f / 2 ^ i) (l / 2 ^ i) (upW out f l ws i)) : ∀ j, i < j → ∃ y ∈ upW out f l ws j, x ≤ y := by
  intro j hj
  induction hj with
  | refl =>
    refine up_ge ?_ hx
    rw [len_ext (len_upW hfl hw i) (Nat.div_le_div_right hfl)]
    omega
  | @step j hj ih =>
    obtain ⟨y, h1, h2⟩ := ih
    have : y ∈ ext out j (f / 2 ^ j) (l / 2 ^ j) (upW out f l ws j) := by
      unfold ext
      exact List.mem_append.mpr (.inl (List.mem_append.mpr (.inr h1)))
    obtain ⟨z, h3, h4⟩ := up_ge (by rw [len_ext (len_upW hfl hw j) (Nat.div_le_div_right hfl)]; omega) this
    exact ⟨z, h3, Nat.le_trans h2 h4⟩
end Ts
namespace L2
open PySem PySem.Spec PyProof.Rows
end L2
namespace Ts
open PySem L2
structure Blt (mg : Str → Option Value) : Prop where
  len : mg "len" = none
  range : mg "range" = none
  min : mg "min" = none
  isi : mg "isinstance" = none
  int : mg "int" = none
  bool : mg "bool" = none
  tuple : mg "tuple" = none
  list : mg "list" = none
  str : mg "str" = none
inductive spAt (K : PySem.W.Frag) (vs : List V) (H : Hp) (Q : VK) (E_ : XK) : Prop where
  | mk (a : Addr) (ns : List Int) (k : Nat) (f0 : vs = [.ref a, .int (k : Int)]) (f1 : SqL K H a (ns.map V.int)) (f2 : Q (.int (ns.getD k 0)) H) : spAt K vs H Q E_
theorem RowsN.lst {H : Hp} {rs : List RowN} {a : Addr} {xs : List V} {o : HO} (h : RowsN H rs) (ha : H a = some (.lst xs)) : RowsN (upd H a o) rs := fun r hr => by
  rw [upd_ne (ne_of (h r hr) ha (by intro z; cases z))]; exact h r hr
section
variable {P : Program} {w : World} {K : PySem.W.Frag} {mg : Str → Option Value} {base : Heap} {f : Addr} {fd : FuncData}
theorem scAt : FnScope ["_law_script", "_law_k"] ["_law_script", "_law_k"] (defScope sAt) := ⟨rfl, rfl, rfl, by decide +kernel, rfl, by decide +kernel, by decide +kernel⟩
theorem ok_at (F : Fun K "_law_at" "_law_at" sAt f fd) (T : Blt mg) : FnOk P w K mg base CX0 1 f fd ["_law_script", "_law_k"] (spAt K) := by
  refine F.ok scAt (fun vs H Q E h => ?_) (fun cdv A outer s H vs Q E hr h => ?_)
  · obtain ⟨a, ns, k, rfl, _⟩ := h
    rfl
  obtain ⟨a, ns, k, rfl, hS, q⟩ := h
  refine ⟨_, pss_cons (ps_if (pt_cmpR op_lt (pv 1) (pe_callB call_len_seq rfl T.len PySem.boot_len (pa_cons (pv 0) pa_nil)) (nomark _)) (pss_one (ps_ret (pe_ix ix_list (pv 0) (pv 1) (fun _ _ => rfl)))) pss_nil)
    (pss_one (ps_ret pe_int)), ?_⟩
  have hl : (ns.map V.int).length = ns.length := List.length_map _
  refine ⟨_, rfl, _, rfl, a, _, rfl, .inl hS, _, _, rfl, rfl, _, rfl, ite3 (fun c => ?_) (fun c => ?_)⟩
  · rw [hl] at c
    have hk : k < ns.length := by omega
    refine ⟨_, rfl, _, rfl, a, _, _, _, rfl, rfl, hS, atI_nat (v := .int (ns.getD k 0)) ?_, q⟩
    rw [List.getElem?_map, List.getD_eq_getElem?_getD, List.getElem?_eq_getElem hk]
    rfl
  · rw [hl] at c
    have e : ns.getD k 0 = 0 := by rw [List.getD_eq_getElem?_getD, List.getElem?_eq_none (by omega)]; rfl
    rw [e] at q
    exact q
end
end Ts
namespace Ts
open PySem L2
inductive spCSpan (vs : List V) (H : Hp) (Q : VK) (E_ : XK) : Prop where
  | mk (d f l : Nat) (f0 : vs = [.int (d : Int), .int (f : Int), .int (l : Int)]) (f1 : d ≤ 8) (f2 : f ≤ l) (f3 : l < 2 ^ d) (f4 : Q .non H) : spCSpan  vs H Q E_
inductive spWithin (K : PySem.W.Frag) (vs : List V) (H : Hp) (Q : VK) (E_ : XK) : Prop where
  | mk (f l : Nat) (a : Addr) (rs : List RowN) (f0 : vs = [.ref a, .int (f : Int), .int (l : Int)]) (f1 : SqL K H a (refsN rs)) (f2 : RowsN H rs) (f3 : ∀ b : Bool, (b = true ↔ ∀ r ∈ bare rs, f ≤ r.1 ∧ r.1 ≤ l) → Q (.bl b) H) : spWithin K vs H Q E_
inductive spLevOf (K : PySem.W.Frag) (vs : List V) (H : Hp) (Q : VK) (E_ : XK) : Prop where
  | mk (d : Nat) (a : Addr) (rs : List RowN) (f0 : vs = [.int (d : Int), .ref a]) (f1 : d ≤ 8) (f2 : SqL K H a (refsN rs)) (f3 : RowsN H rs) (f4 : RowsOk (2 ^ d) (bare rs)) (f5 : (∀ r ∈ bare rs, r.2 + 1 < 2 ^ 67)) (f6 : ∀ (p : Addr) (as : List Addr) (H' : Hp), Same H H' → H p = none → H' p = some (.lst (as.map V.ref)) → (∀ j, j < d → ∃ b, as[j]? = some b ∧ H' b = some (.lst (vn (ups j (leaves (2 ^ d) (bare rs)))))) → Q (.ref p) H') : spLevOf K vs H Q E_
inductive spOutside (K : PySem.W.Frag) (vs : List V) (H : Hp) (Q : VK) (E_ : XK) : Prop where
  | mk (d f l : Nat) (f0 : vs = [.int (d : Int), .int (f : Int), .int (l : Int)]) (f1 : d ≤ 8) (f2 : f < 2 ^ d) (f3 : l < 2 ^ d) (f4 : ∀ p ps H', Same H H' → H p = none → H' p = some (.lst (refsN ps)) → RowsN H' ps → bare ps = partsP d f l → Q (.ref p) H') : spOutside K vs H Q E_
theorem refs_app (rs qs : List RowN) : refsN rs ++ refsN qs = refsN (rs ++ qs) := by unfold refsN; rw [List.map_append]
theorem bare_app (rs qs : List RowN) : bare (rs ++ qs) = bare rs ++ bare qs := by unfold bare; rw [List.map_append]
theorem len_bare' (rs : List RowN) : (bare rs).length = rs.length := by unfold bare; rw [List.length_map]
section
variable {P : Program} {w : World} {K : PySem.W.Frag} {mg : Str → Option Value} {base : Heap} {f : Addr} {fd : FuncData}
theorem scCSpan : FnScope ["depth", "first", "last"] ["depth", "first", "last"] (defScope sCSpan) := ⟨rfl, rfl, rfl, by decide +kernel, rfl, by decide +kernel, by decide +kernel⟩
theorem ok_cspan (F : Fun K "check_span" "check_span" sCSpan f fd) (C : Has P w K mg base "check_key" 2 ["depth", "key"] spCKey) : FnOk P w K mg base CX0 3 f fd ["depth", "first", "last"] spCSpan := by
  refine F.ok scCSpan (fun vs H Q E h => ?_) (fun cdv A outer s H vs Q E hr h => ?_)
  · obtain ⟨d, f, l, rfl, _⟩ := h
    rfl
  obtain ⟨d, f, l, rfl, hd, hfl, hl, q⟩ := h
  refine ⟨_, pss_cons (ps_expr (pe_has C hr (pa_cons (pv 0) (pa_cons (pv 1) pa_nil))))
    (pss_cons (ps_expr (pe_has C hr (pa_cons (pv 0) (pa_cons (pv 2) pa_nil))))
    (pss_one (ps_if (pt_cmpR op_lt (pv 2) (pv 1) (nomark _)) pss_never pss_nil))), ?_⟩
  refine ⟨_, rfl, _, rfl, d, f, rfl, hd, Nat.lt_of_le_of_lt hfl hl, ?_⟩
  refine ⟨_, rfl, _, rfl, d, l, rfl, hd, hl, ?_⟩
  exact ⟨_, rfl, _, rfl, _, _, rfl, rfl, _, rfl, iteN (by omega) q⟩
theorem scWithin : FnScope ["rows", "first", "last", "row"] ["rows", "first", "last"] (defScope sWithin) := ⟨rfl, rfl, rfl, by decide +kernel, rfl, by decide +kernel, by decide +kernel⟩
theorem ok_within (F : Fun K "all_within" "all_within" sWithin f fd) : FnOk P w K mg base CX0 1 f fd ["rows", "first", "last"] (spWithin K) := by
  refine F.ok scWithin (fun vs H Q E h => ?_) (fun cdv A outer s H vs Q E hr h => ?_)
  · obtain ⟨f, l, a, rs, rfl, _⟩ := h
    rfl
  obtain ⟨f, l, a, rs, rfl, ha, hR, q⟩ := h
  refine ⟨_, pss_cons (ps_for PassesOwn.never rfl (pi_list (pv 0)) (pg_name (i := 3) scWithin.nd rfl (Or.inl rfl))
      (pss_one (ps_if (PW.pt (pw_or (pt_cmpR op_lt (pe_ix ix_tup (pv 3) pe_int (fun _ _ => rfl)) (pv 1) (nomark _)) (pw_or1 (pt_cmpR op_gt (pe_ix ix_tup (pv 3) pe_int (fun _ _ => rfl)) (pv 2) (nomark _))))) (pss_one (ps_ret pe_bl)) pss_nil)))
    (pss_one (ps_ret pe_bl)), ?_⟩
  refine ⟨_, rfl, a, rfl, ⟨_, ha⟩, ?_⟩
  refine for_list (xs := refsN rs) (fun i σ H' => H' = H ∧ (∀ r ∈ rs.take i, f ≤ r.2.1 ∧ r.2.1 ≤ l) ∧ ∃ t3 : Option V, σ = [some (.ref a), some (.int (f : Int)), some (.int (l : Int)), t3]) ⟨rfl, fun r hr => (nomatch hr), _, rfl⟩ ?_ ?_ ?_
  · rintro i σ H' _ ⟨rfl, _⟩
    exact ha
  · rintro i x σ H' hx ⟨rfl, hin, t3, rfl⟩
    obtain ⟨r, hr', rfl, hmem⟩ := refs_get hx
    have no : ¬ (f ≤ r.2.1 ∧ r.2.1 ≤ l) → Q (.bl false) H' := fun z => q false (false_iff' fun y => z (y r.2 (List.mem_map.mpr ⟨r, hmem, rfl⟩)))
    refine ⟨_, rfl, r.1, _, _, _, rfl, rfl, SqT.of (hR r hmem), atI_nat (j := 0) rfl, _, rfl, _, _, rfl, rfl, _, rfl, ite3 (fun c => ?_) (fun c => ?_)⟩
    · exact iteT (no (by omega))
    refine ⟨_, rfl, r.1, _, _, _, rfl, rfl, SqT.of (hR r hmem), atI_nat (j := 0) rfl, _, rfl, _, _, rfl, rfl, _, rfl, ite3 (fun c2 => ?_) (fun c2 => ?_)⟩
    · exact no (by omega)
    refine ⟨rfl, fun x hx => ?_, _, rfl⟩
    rw [take_one hr'] at hx
    rcases List.mem_append.mp hx with z | z
    · exact hin x z
    · rw [List.mem_singleton.mp z]
      omega
  · rintro σ H' ⟨rfl, hin, t3, rfl⟩
    rw [len_refs, List.take_length] at hin
    refine q true ⟨fun _ r hr => ?_, fun _ => rfl⟩
    obtain ⟨z, hz, e⟩ := List.mem_map.mp hr
    rw [← e]
    exact hin z hz
theorem scLevOf : FnScope ["depth", "rows", "levels"] ["depth", "rows"] (defScope sLevelsOf) := ⟨rfl, rfl, rfl, by decide +kernel, rfl, by decide +kernel, by decide +kernel⟩
theorem ok_levof (F : Fun K "levels_of" "levels_of" sLevelsOf f fd) (mL : mg "len" = none) (L : Has P w K mg base "place_numbers" 2 ["depth", "rows"] (spPlace K)) (U : Has P w K mg base "paired" 3 ["numbers"] (spPaired K)) : FnOk P w K mg base CX0 4 f fd ["depth", "rows"] (spLevOf K) := by
  refine F.ok scLevOf (fun vs H Q E h => ?_) (fun cdv A outer s H vs Q E hr h => ?_)
  · obtain ⟨d, a, rs, rfl, _⟩ := h
    rfl
  obtain ⟨d, a, rs, rfl, hd, ha, hR, ok, h67, q⟩ := h
  have hr2 : Room 2 _ := hr.mono (by decide)
  refine ⟨_, pss_cons (ps_set (i := 2) scLevOf.nd rfl (Or.inl rfl) (pe_lst (pa_cons (pe_has L hr2 (pa_cons (pv 0) (pa_cons (pv 1) pa_nil))) pa_nil)))
    (pss_cons (ps_while PassesOwn.never (pt_cmpR op_lt (pe_callB call_len_seq rfl mL PySem.boot_len (pa_cons (pv 2) pa_nil)) (pv 0) (nomark _))
      (pss_one (ps_expr (pe_bm PySem.F.plainAttrs_list PySem.F.slot_list_append PySem.F.type_list_append mt_append (pv 2) (pa_cons (pe_has U hr (pa_cons (pe_ix ix_list (pv 2) (pe_un un_neg pe_int) (fun _ _ => rfl)) pa_nil)) pa_nil)))))
    (pss_one (ps_ret (pv 2)))), ?_⟩
  refine ⟨_, rfl, _, rfl, d, a, rs, rfl, hd, ha, hR, ok, fun b0 H1 hS1 hb0 hb1 => ?_⟩
  have hLl : (leaves (2 ^ d) (bare rs)).length = 2 ^ d := len_leaves _ _
  have hLb := leaves_lt (c := 2 ^ d) (show 0 < 2 ^ 67 by decide) h67
  generalize leaves (2 ^ d) (bare rs) = ls at hLl hLb hb1 q
  refine ⟨by show 1 ≤ sizeLine; decide, fun p hp1 => ?_⟩
  have hp : H p = none := hS1.free hp1
  have hbp : b0 ≠ p := ne_of_none hb1 hp1
  have S1 := Same.upd (o := .lst [.ref b0]) hp1
  refine while_on (fun m σ H' => ∃ (as : List Addr), m = d - as.length ∧ σ = [some (.int (d : Int)), some (.ref a), some (.ref p)] ∧ Same H H' ∧ H' p = some (.lst (as.map V.ref)) ∧ 0 < as.length ∧ as.length ≤ d + 1 ∧ (∀ x ∈ as, x ≠ p) ∧ ∀ j, j < as.length → ∃ b, as[j]? = some b ∧ H' b = some (.lst (vn (ups j ls)))) (d - 1)
    ⟨[b0], rfl, rfl, hS1.trans S1, upd_same, Nat.one_pos, by show 1 ≤ d + 1; omega, fun x hx => by rw [List.mem_singleton.mp hx]; exact hbp, fun j hj => by
      have ej : j = 0 := by
        have : j < 1 := hj
        omega
      subst ej
      exact ⟨b0, rfl, S1 _ _ hb1⟩⟩ ?_
  rintro m σ H' ⟨as, rfl, rfl, hS, hp', h0, hle, hne, hA⟩
  refine ⟨_, rfl, p, _, rfl, .inl (SqL.of hp'), _, rfl, _, _, rfl, rfl, _, rfl, ite3 (fun c => ?_) (fun c => ?_)⟩
  · rw [List.length_map] at c
    have hlt : as.length < d := by omega
    obtain ⟨n, hn⟩ : ∃ n, as.length = n + 1 := ⟨as.length - 1, by omega⟩
    obtain ⟨b, hb, hbl⟩ := hA n (by omega)
    have hlast : atI (as.map V.ref) (-1) = some (.ref b) := by
      rcases List.eq_nil_or_concat as with e | ⟨ys, y, e⟩
      · rw [e] at h0; cases h0
      · rw [List.concat_eq_append] at e
        subst e
        have hy : ys.length = n := by rw [List.length_append] at hn; exact Nat.succ.inj hn
        rw [List.getElem?_append_right (by omega), hy, Nat.sub_self] at hb
        have e2 : y = b := by simpa using hb
        rw [List.map_append, e2]
        exact atI_last _ _
    have hlen : (ups n ls).length = 2 ^ (d - n) := by rw [len_ups, hLl, Nat.pow_div (by omega) (by decide)]
    have h256 : 2 ^ (d - n) ≤ 2 ^ 8 := Nat.pow_le_pow_right (by decide) (by omega)
    refine ⟨_, fun _ _ z => z, _, rfl, .inl ⟨rfl, _, SqL.of hp'⟩, _, rfl, _, rfl, p, _, _, _, rfl, rfl, SqL.of hp', hlast, b, _, rfl, SqL.of hbl, by rw [hlen]; exact h256, by rw [hlen, show d - n = d - n - 1 + 1 by omega, Nat.pow_succ]; omega, fun x hx => lt_pow_mono (ups_lt hLb _ x hx) (Nat.le_trans (bits_le (by omega)) (by decide)), fun c2 H2 hS2 hc2 hc3 => ?_⟩
    have hp2 := hS2 _ _ hp'
    refine ⟨p, _, _, rfl, rfl, hp2, by rw [List.length_map]; exact small1000 (by omega), d - (as ++ [c2]).length, by rw [List.length_append]; show d - (as.length + 1) < d - as.length; omega, as ++ [c2], rfl, rfl, (hS.trans hS2).new hp, by rw [upd_same, List.map_append]; rfl, by rw [List.length_append]; omega, by rw [List.length_append]; show as.length + 1 ≤ d + 1; omega, fun x hx => ?_, fun j hj => ?_⟩
    · rcases List.mem_append.mp hx with z | z
      · exact hne x z
      · rw [List.mem_singleton.mp z]; exact Ne.symm (ne_of_none hp' hc2)
    · rw [List.length_append] at hj
      have hj' : j < as.length + 1 := hj
      by_cases hjl : j < as.length
      · obtain ⟨x, x1, x2⟩ := hA j hjl
        refine ⟨x, by rw [List.getElem?_append_left hjl]; exact x1, ?_⟩
        rw [upd_ne (hne x (List.mem_of_getElem? x1))]
        exact hS2 _ _ x2
      · have ej : j = n + 1 := by omega
        refine ⟨c2, by rw [List.getElem?_append_right (by omega), show j - as.length = 0 by omega]; rfl, ?_⟩
        rw [upd_ne (Ne.symm (ne_of_none hp' hc2)), hc3, ej, ups_succ]
  · rw [List.length_map] at c
    exact ⟨_, rfl, q p as H' hS hp hp' fun j hj => hA j (by omega)⟩
theorem scOutside : FnScope ["depth", "first", "last", "before", "behind", "low", "high", "level"] ["depth", "first", "last"] (defScope sOutside) := ⟨rfl, rfl, rfl, by decide +kernel, rfl, by decide +kernel, by decide +kernel⟩
def bodyOf : Stmt → List Stmt
  | .For _ _ b _ _ => b
  | .While _ b _ _ => b
  | _ => []
theorem ok_outside (F : Fun K "parts_outside" "parts_outside" sOutside f fd) (mR : mg "range" = none) : FnOk P w K mg base CX0 1 f fd ["depth", "first", "last"] (spOutside K) := by
  refine F.ok scOutside (fun vs H Q E h => ?_) (fun cdv A outer s H vs Q E hr h => ?_)
  · obtain ⟨d, fi, l, rfl, _⟩ := h
    rfl
  obtain ⟨d, fi, l, rfl, hd, hf, hl, q⟩ := h
  have two2 : (2 : Nat) ≤ sizeLine := by decide
  -- from the second test on
  obtain ⟨t1, p1, r1⟩ : ∃ t, PSs (cxOf CX0 P w K mg base ["depth", "first", "last", "before", "behind", "low", "high", "level"] "parts_outside" (defScope sOutside) f cdv A outer s H E).nox ((bodyOf ((defBody sOutside).getD 4 (.Pass ⟨0, 0, 0, 0⟩))).drop 1) t ∧
      ∀ (D : Ends) (i : Nat) (bf bh : Addr) (cs : List RowN) (H1 : Hp), H1 bh = some (.lst (refsN cs)) → cs.length ≤ 100 →
        (∀ cs' H2, (l / 2 ^ i % 2 = 1 → H2 = H1 ∧ cs' = cs) → (l / 2 ^ i % 2 = 0 → ∃ t, H1 t = none ∧ cs' = cs ++ [(t, i, l / 2 ^ i + 1)] ∧ H2 = upd (upd H1 t (.tup [.int (i : Int), .int ((l / 2 ^ i + 1 : Nat) : Int)])) bh (.lst (refsN cs'))) → D.nx [some (.int (d : Int)), some (.int (fi : Int)), some (.int (l : Int)), some (.ref bf), some (.ref bh), some (.int ((fi / 2 ^ (i + 1) : Nat) : Int)), some (.int ((l / 2 ^ (i + 1) : Nat) : Int)), some (.int (i : Int))] H2) →
        t D [some (.int (d : Int)), some (.int (fi : Int)), some (.int (l : Int)), some (.ref bf), some (.ref bh), some (.int ((fi / 2 ^ i : Nat) : Int)), some (.int ((l / 2 ^ i : Nat) : Int)), some (.int (i : Int))] H1 := by
    refine ⟨_, pss_cons (ps_if (pt_cmpR op_eq (pe_op n_mod (pv 6) pe_int) pe_int (nomark _))
        (pss_one (ps_expr (pe_bm PySem.F.plainAttrs_list PySem.F.slot_list_append PySem.F.type_list_append mt_append (pv 4) (pa_cons (pe_tup (pa_cons (pv 7) (pa_cons (pe_op n_add (pv 6) pe_int) pa_nil))) pa_nil)))) pss_nil)
      (pss_cons (ps_set (i := 5) scOutside.nd rfl (Or.inl rfl) (pe_op n_div (pv 5) pe_int))
      (pss_one (ps_set (i := 6) scOutside.nd rfl (Or.inl rfl) (pe_op n_div (pv 6) pe_int)))), ?_⟩
    intro D i bf bh cs H1 hbh hc go
    refine ⟨_, rfl, l / 2 ^ i, 2, l / 2 ^ i % 2, rfl, rfl, Nat.zero_lt_two, rfl, rfl, _, rfl, ite3 (fun e => ?_) (fun e => ?_)⟩
    · have e0 : l / 2 ^ i % 2 = 0 := by
        have z : ((l / 2 ^ i % 2 : Nat) : Int) = 0 := V.int.inj e
        omega
      refine ⟨_, rfl, .inl ⟨rfl, _, SqL.of hbh⟩, _, rfl, _, rfl, l / 2 ^ i, 1, l / 2 ^ i + 1, rfl, rfl, trivial, rfl, two2, fun t ht => ?_⟩
      refine ⟨bh, _, _, rfl, rfl, (Same.upd ht) _ _ hbh, by rw [len_refs]; exact small1000 (by omega), ?_⟩
      refine ⟨_, rfl, fi / 2 ^ i, 2, fi / 2 ^ (i + 1), rfl, rfl, ⟨by decide, two_dl⟩, (div_half fi i).symm, ?_⟩
      refine ⟨_, rfl, l / 2 ^ i, 2, l / 2 ^ (i + 1), rfl, rfl, ⟨by decide, two_dl⟩, (div_half l i).symm, ?_⟩
      refine go (cs ++ [(t, i, l / 2 ^ i + 1)]) _ (fun z => by omega) (fun _ => ⟨t, ht, rfl, ?_⟩)
      rw [← refs_app]
      rfl
    · have e0 : ¬ l / 2 ^ i % 2 = 0 := fun z => e (by rw [z]; rfl)
      refine ⟨_, rfl, fi / 2 ^ i, 2, fi / 2 ^ (i + 1), rfl, rfl, ⟨by decide, two_dl⟩, (div_half fi i).symm, ?_⟩
      refine ⟨_, rfl, l / 2 ^ i, 2, l / 2 ^ (i + 1), rfl, rfl, ⟨by decide, two_dl⟩, (div_half l i).symm, ?_⟩
      exact go cs H1 (fun _ => ⟨rfl, rfl⟩) (fun z => absurd z e0)
  refine ⟨_, pss_cons (ps_set (i := 3) scOutside.nd rfl (Or.inl rfl) (pe_lst pa_nil))
    (pss_cons (ps_set (i := 4) scOutside.nd rfl (Or.inl rfl) (pe_lst pa_nil))
    (pss_cons (ps_set (i := 5) scOutside.nd rfl (Or.inl rfl) (pv 1))
    (pss_cons (ps_set (i := 6) scOutside.nd rfl (Or.inl rfl) (pv 2))
    (pss_cons (ps_for PassesOwn.never rfl (pi_range1 rfl mR (pa_cons (pv 0) pa_nil)) (pg_name (i := 7) scOutside.nd rfl (Or.inl rfl))
      (pss_cons (ps_if (pt_cmpR op_eq (pe_op n_mod (pv 5) pe_int) pe_int (nomark _))
        (pss_one (ps_expr (pe_bm PySem.F.plainAttrs_list PySem.F.slot_list_insert PySem.F.type_list_insert mt_ins0 (pv 3) (pa_cons pe_int (pa_cons (pe_tup (pa_cons (pv 7) (pa_cons (pe_op n_sub (pv 5) pe_int) pa_nil))) pa_nil))))) pss_nil) p1))
    (pss_one (ps_ret (pe_op op_cat (pv 3) (pv 4)))))))), ?_⟩
  refine ⟨by show 0 ≤ sizeLine; decide, fun bf hbf => ?_⟩
  refine ⟨by show 0 ≤ sizeLine; decide, fun bh hbh => ?_⟩
  have hbh0 : H bh = none := (Same.upd hbf).free hbh
  have hne : bf ≠ bh := ne_of_none (H := upd H bf (.lst [])) upd_same hbh
  have hS0 : Same H (upd (upd H bf (.lst [])) bh (.lst [])) := (Same.upd hbf).new hbh0
  refine ⟨_, rfl, ?_⟩
  refine ⟨_, rfl, ?_⟩
  refine ⟨_, rfl, _, rfl, by omega, by omega, ?_⟩
  rw [Int.toNat_natCast]
  refine for_range (n := d) (fun i σ H' => ∃ (t7 : Option V) (bs cs : List RowN), σ = [some (.int (d : Int)), some (.int (fi : Int)), some (.int (l : Int)), some (.ref bf), some (.ref bh), some (.int ((fi / 2 ^ i : Nat) : Int)), some (.int ((l / 2 ^ i : Nat) : Int)), t7] ∧
    Same H H' ∧ H' bf = some (.lst (refsN bs)) ∧ H' bh = some (.lst (refsN cs)) ∧ RowsN H' bs ∧ RowsN H' cs ∧ bare bs = preP i fi ∧ bare cs = sufP i l)
    ⟨_, [], [], by rw [Nat.pow_zero, Nat.div_one, Nat.div_one]; rfl, hS0, by rw [upd_ne hne, upd_same]; rfl, upd_same, fun r hr => (nomatch hr), fun r hr => (nomatch hr), rfl, rfl⟩ ?_ ?_
  · rintro i σ H' hi ⟨t7, bs, cs, rfl, hS, h1, h2, R1, R2, B1, B2⟩
    rw [show (0 : Int) + (i : Int) = ((i : Nat) : Int) by omega]
    have lb : bs.length ≤ d := by
      have := len_preP i fi
      rw [← B1, len_bare'] at this
      omega
    have lc : cs.length ≤ d := by
      have := len_sufP i l
      rw [← B2, len_bare'] at this
      omega
    -- the rest of the turn
    have rest : ∀ (bs' : List RowN) (H1 : Hp), Same H H1 → H1 bf = some (.lst (refsN bs')) → H1 bh = some (.lst (refsN cs)) → RowsN H1 bs' → RowsN H1 cs → bare bs' = preP (i + 1) fi → ∀ cs' H2, (l / 2 ^ i % 2 = 1 → H2 = H1 ∧ cs' = cs) → (l / 2 ^ i % 2 = 0 → ∃ t, H1 t = none ∧ cs' = cs ++ [(t, i, l / 2 ^ i + 1)] ∧ H2 = upd (upd H1 t (.tup [.int (i : Int), .int ((l / 2 ^ i + 1 : Nat) : Int)])) bh (.lst (refsN cs'))) →
        Same H H2 ∧ H2 bf = some (.lst (refsN bs')) ∧ H2 bh = some (.lst (refsN cs')) ∧ RowsN H2 bs' ∧ RowsN H2 cs' ∧ bare bs' = preP (i + 1) fi ∧ bare cs' = sufP (i + 1) l := by
      intro bs' H1 a1 a2 a3 a4 a5 a6 cs' H2 b1 b2
      have es : sufP (i + 1) l = sufP i l ++ (if l / 2 ^ i % 2 = 0 then [(i, l / 2 ^ i + 1)] else []) := rfl
      rcases (by omega : l / 2 ^ i % 2 = 0 ∨ l / 2 ^ i % 2 = 1) with e | e
      · obtain ⟨t, ht, rfl, rfl⟩ := b2 e
        have St := Same.upd (o := .tup [.int (i : Int), .int ((l / 2 ^ i + 1 : Nat) : Int)]) ht
        have g3 := St _ _ a3
        refine ⟨(a1.trans St).new hbh0, by rw [upd_ne hne]; exact St _ _ a2, upd_same, (a4.same St).lst g3, ?_, a6, ?_⟩
        · refine RowsN.lst (fun x hx => ?_) g3
          rcases List.mem_append.mp hx with z | z
          · exact St _ _ (a5 x z)
          · rw [List.mem_singleton.mp z]; exact upd_same
        · rw [es, if_pos e, bare_app, B2]; rfl
      · obtain ⟨rfl, rfl⟩ := b1 e
        exact ⟨a1, a2, a3, a4, a5, a6, by rw [es, if_neg (by omega), List.append_nil]; exact B2⟩
    have ep : preP (i + 1) fi = (if fi / 2 ^ i % 2 = 1 then [(i, fi / 2 ^ i - 1)] else []) ++ preP i fi := rfl
    refine ⟨_, rfl, fi / 2 ^ i, 2, fi / 2 ^ i % 2, rfl, rfl, Nat.zero_lt_two, rfl, rfl, _, rfl, ite3 (fun e => ?_) (fun e => ?_)⟩
    · have e1 : fi / 2 ^ i % 2 = 1 := by
        have z : ((fi / 2 ^ i % 2 : Nat) : Int) = 1 := V.int.inj e
        omega
      have hpos : 1 ≤ fi / 2 ^ i := Nat.pos_of_ne_zero fun z => by rw [z] at e1; cases e1
      refine ⟨_, rfl, .inl ⟨rfl, _, SqL.of h1⟩, _, rfl, _, rfl, fi / 2 ^ i, 1, fi / 2 ^ i - 1, rfl, rfl, hpos, rfl, two2, fun t ht => ?_⟩
      have St := Same.upd (o := .tup [.int (i : Int), .int ((fi / 2 ^ i - 1 : Nat) : Int)]) ht
      have g1 := St _ _ h1
      refine ⟨bf, _, _, rfl, rfl, g1, by rw [len_refs]; exact small1000 (by omega), ?_⟩
      have eR : refsN ((t, i, fi / 2 ^ i - 1) :: bs) = V.ref t :: refsN bs := rfl
      have k1 : Same H (upd (upd H' t (.tup [.int (i : Int), .int ((fi / 2 ^ i - 1 : Nat) : Int)])) bf (.lst (V.ref t :: refsN bs))) := (hS.trans St).new hbf
      have k2 : (upd (upd H' t (.tup [.int (i : Int), .int ((fi / 2 ^ i - 1 : Nat) : Int)])) bf (.lst (V.ref t :: refsN bs))) bf = some (.lst (refsN ((t, i, fi / 2 ^ i - 1) :: bs))) := upd_same
      have k3 : (upd (upd H' t (.tup [.int (i : Int), .int ((fi / 2 ^ i - 1 : Nat) : Int)])) bf (.lst (V.ref t :: refsN bs))) bh = some (.lst (refsN cs)) := by rw [upd_ne (Ne.symm hne)]; exact St _ _ h2
      have k4 : RowsN (upd (upd H' t (.tup [.int (i : Int), .int ((fi / 2 ^ i - 1 : Nat) : Int)])) bf (.lst (V.ref t :: refsN bs))) ((t, i, fi / 2 ^ i - 1) :: bs) := RowsN.lst (fun x hx => by
        rcases List.mem_cons.mp hx with z | z
        · rw [z]; exact upd_same
        · exact St _ _ (R1 x z)) g1
      have k5 : RowsN (upd (upd H' t (.tup [.int (i : Int), .int ((fi / 2 ^ i - 1 : Nat) : Int)])) bf (.lst (V.ref t :: refsN bs))) cs := (R2.same St).lst g1
      generalize upd (upd H' t (.tup [.int (i : Int), .int ((fi / 2 ^ i - 1 : Nat) : Int)])) bf (.lst (V.ref t :: refsN bs)) = H1 at k1 k2 k3 k4 k5 ⊢
      have k6 : bare ((t, i, fi / 2 ^ i - 1) :: bs) = preP (i + 1) fi := by
        rw [ep, if_pos e1, ← B1]; rfl
      exact r1 _ i bf bh cs H1 k3 (by omega) fun cs' H2 b1 b2 => ⟨_, _, cs', rfl, rest _ H1 k1 k2 k3 k4 k5 k6 cs' H2 b1 b2⟩
    · have e1 : ¬ fi / 2 ^ i % 2 = 1 := fun z => e (by rw [z]; rfl)
      have k6 : bare bs = preP (i + 1) fi := by rw [ep, if_neg e1]; exact B1
      exact r1 _ i bf bh cs H' h2 (by omega) fun cs' H2 b1 b2 => ⟨_, bs, cs', rfl, rest bs H' hS h1 h2 R1 R2 k6 cs' H2 b1 b2⟩
  · rintro σ H' ⟨t7, bs, cs, rfl, hS, h1, h2, R1, R2, B1, B2⟩
    have lb : bs.length ≤ d := by
      have := len_preP d fi
      rw [← B1, len_bare'] at this
      exact this
    have lc : cs.length ≤ d := by
      have := len_sufP d l
      rw [← B2, len_bare'] at this
      exact this
    refine ⟨_, rfl, _, rfl, bf, bh, _, _, rfl, rfl, h1, h2, by rw [len_refs, len_refs]; exact Nat.le_of_lt (small1000 (by omega)), fun p hp => ?_⟩
    rw [refs_app]
    have Sp := Same.upd (o := .lst (refsN (bs ++ cs))) hp
    refine q p (bs ++ cs) _ (hS.trans Sp) (hS.free hp) upd_same (fun x hx => ?_) (by rw [bare_app, B1, B2]; rfl)
    rcases List.mem_append.mp hx with z | z
    · exact Sp _ _ (R1 x z)
    · exact Sp _ _ (R2 x z)
end
end Ts
namespace Ts
open PySem L2
def keyP (p : Prt) : List Key := [Sum.inl (p.1 : Int), Sum.inl (p.2 : Int)]
theorem keyP_inj {p q : Prt} (h : keyP p = keyP q) : p = q := by
  obtain ⟨h1, h2⟩ := List.cons.inj h
  have h3 := (List.cons.inj h2).1
  have a1 : (p.1 : Int) = (q.1 : Int) := Sum.inl.inj h1
  have a2 : (p.2 : Int) = (q.2 : Int) := Sum.inl.inj h3
  exact Prod.ext (by omega) (by omega)
theorem val_zip : ∀ {ps : List Prt} {bs : List Nat}, ps.Nodup → ∀ (j : Nat) (p : Prt) (b : Nat), ps[j]? = some p → bs[j]? = some b → valV ((ps.map keyP).zip (vn bs)) (keyP p) = some (.int (b : Int))
  | [], _, _, j, p, b, h, _ => by simp at h
  | _ :: _, [], _, j, p, b, _, h => by simp at h
  | x :: ps, y :: bs, nd, 0, p, b, h1, h2 => by
    have e1 : x = p := by simpa using h1
    have e2 : y = b := by simpa using h2
    subst e1 e2
    exact valV_pos rfl
  | x :: ps, y :: bs, nd, j + 1, p, b, h1, h2 => by
    obtain ⟨n1, n2⟩ := List.nodup_cons.mp nd
    have g1 : ps[j]? = some p := by simpa using h1
    have g2 : bs[j]? = some b := by simpa using h2
    have ne : ¬ keyP x = keyP p := fun z => n1 (by rw [keyP_inj z]; exact List.mem_of_getElem? g1)
    show valV ((keyP x, V.int (y : Int)) :: (ps.map keyP).zip (vn bs)) (keyP p) = _
    rw [valV_neg ne]
    exact val_zip n2 j p b g1 g2
def outV (kvs : List (List Key × V)) (p : Prt) : Nat := match valV kvs (keyP p) with
  | some (.int n) => n.toNat
  | _ => 0
theorem outV_of {kvs : List (List Key × V)} {p : Prt} {b : Nat} (h : valV kvs (keyP p) = some (.int (b : Int))) : outV kvs p = b := by
  unfold outV
  rw [h]
  exact Int.toNat_natCast b
inductive spLeads6 (K : PySem.W.Frag) (vs : List V) (H : Hp) (Q : VK) (E_ : XK) : Prop where
  | mk (d : Nat) (t : Int) (fi l : Nat) (wa oa : Addr) (ws : List Nat) (kvs : List (List Key × V)) (out : Prt → Nat) (f0 : vs = [.int (d : Int), .int t, .int (fi : Int), .int (l : Int), .ref wa, .ref oa]) (f1 : d ≤ 8) (f2 : fi ≤ l) (f3 : l < 2 ^ d) (f4 : H wa = some (.lst (vn ws))) (f5 : H oa = some (.dT kvs)) (f6 : ws.length = l + 1 - fi) (f7 : (∀ p ∈ partsP d fi l, valV kvs (keyP p) = some (.int (out p : Int)))) (f8 : t < ((2 ^ bb : Nat) : Int)) (f9 : ∀ (b : Bool) (H' : Hp), Same H H' → (b = true ↔ ∃ n : Nat, upW out fi l ws d = [n] ∧ (n : Int) = t) → Q (.bl b) H') : spLeads6 K vs H Q E_
inductive spSpan (K : PySem.W.Frag) (vs : List V) (H : Hp) (Q : VK) (E_ : XK) : Prop where
  | mk (d fi l : Nat) (a : Addr) (rs : List RowN) (f0 : vs = [.int (d : Int), .ref a, .int (fi : Int), .int (l : Int)]) (f1 : d ≤ 8) (f2 : fi ≤ l) (f3 : l < 2 ^ d) (f4 : SqL K H a (refsN rs)) (f5 : RowsN H rs) (f6 : RowsOk (2 ^ d) (bare rs)) (f7 : rs.length ≤ 1000) (f8 : (∀ r ∈ bare rs, r.2 + 1 < 2 ^ 67)) (f9 : ∀ p H', Same H H' → H p = none → H' p = some (.lst (vn ((partsP d fi l).map (numAt (leaves (2 ^ d) (bare rs)))))) → Q (.ref p) H') : spSpan K vs H Q E_
theorem vn_ints (ys : List Nat) : vn ys = (ys.map fun n : Nat => (n : Int)).map V.int := by unfold vn; rw [List.map_map]; rfl
section
variable {P : Program} {w : World} {K : PySem.W.Frag} {mg : Str → Option Value} {base : Heap} {f : Addr} {fd : FuncData}
abbrev nLeads6 : List Str := ["depth", "top", "first", "last", "within", "outside", "numbers", "low", "high", "level"]
theorem scLeads6 : FnScope nLeads6 ["depth", "top", "first", "last", "within", "outside"] (defScope sLeads6) := ⟨rfl, rfl, rfl, by decide +kernel, rfl, by decide +kernel, by decide +kernel⟩
theorem ok_leads6 (F : Fun K "leads_to" "leads_to" sLeads6 f fd) (mR : mg "range" = none) (mX : mg "max" = none) (U : Has P w K mg base "paired" 3 ["numbers"] (spPaired K)) : FnOk P w K mg base CX0 4 f fd ["depth", "top", "first", "last", "within", "outside"] (spLeads6 K) := by
  refine F.ok scLeads6 (fun vs H Q E h => ?_) (fun cdv A outer s H vs Q E hr h => ?_)
  · obtain ⟨d, t, fi, l, wa, oa, ws, kvs, out, rfl, _⟩ := h
    rfl
  obtain ⟨d, t, fi, l, wa, oa, ws, kvs, out, rfl, hd, hfl, hl, hw, ho, hwl, hv, ht, q⟩ := h
  have two2 : (2 : Nat) ≤ sizeLine := by decide
  have one1 : (1 : Nat) ≤ sizeLine := by decide
  have hu1 : _ + 1 < cLine := hu_of hr
  have lenW := len_upW (out := out) hfl hwl
  have l256 : l < 256 := Nat.lt_of_lt_of_le hl (Nat.pow_le_pow_right (n := 2) (by decide) hd)
  have hi256 : ∀ i, l / 2 ^ i < 256 := fun i => Nat.lt_of_le_of_lt (Nat.div_le_self _ _) l256
  have lohi : ∀ i, fi / 2 ^ i ≤ l / 2 ^ i := fun i => Nat.div_le_div_right hfl
  have b256 : ∀ a b : Nat, b < 256 → 2 * (b / 2 + 1 - a / 2) ≤ 256 := fun a b h => by omega
  have b300 : ∀ a b : Nat, b < 256 → b + 1 - a ≤ 256 := fun a b h => by omega
  -- from the third row of the turn on
  obtain ⟨t2, p2, r2⟩ : ∃ tt, PSs (cxOf CX0 P w K mg base nLeads6 "leads_to" (defScope sLeads6) f cdv A outer s H E).nox ((bodyOf ((defBody sLeads6).getD 3 (.Pass ⟨0, 0, 0, 0⟩))).drop 2) tt ∧
      ∀ (D : Ends) (i : Nat) (nm : Addr) (H1 : Hp), i < d → Same H H1 → H1 nm = some (.lst (vn (ext out i (fi / 2 ^ i) (l / 2 ^ i) (upW out fi l ws i)))) → D.rt = Q →
        (∀ nm2 H2, Same H H2 → H2 nm2 = some (.lst (vn (upW out fi l ws (i + 1)))) → D.nx [some (.int (d : Int)), some (.int t), some (.int (fi : Int)), some (.int (l : Int)), some (.ref wa), some (.ref oa), some (.ref nm2), some (.int ((fi / 2 ^ (i + 1) : Nat) : Int)), some (.int ((l / 2 ^ (i + 1) : Nat) : Int)), some (.int (i : Int))] H2) →
        tt D [some (.int (d : Int)), some (.int t), some (.int (fi : Int)), some (.int (l : Int)), some (.ref wa), some (.ref oa), some (.ref nm), some (.int ((fi / 2 ^ i : Nat) : Int)), some (.int ((l / 2 ^ i : Nat) : Int)), some (.int (i : Int))] H1 := by
    refine ⟨_, pss_cons (ps_if (pt_cmpR op_gt (pe_callB (call_maxL rfl) rfl mX PyProof.Rows.boot_max (pa_cons (pv 6) pa_nil)) (pv 1) (nomark _)) (pss_one (ps_ret pe_bl)) pss_nil)
      (pss_cons (ps_set (i := 6) scLeads6.nd rfl (Or.inl rfl) (pe_has U hr (pa_cons (pv 6) pa_nil)))
      (pss_cons (ps_set (i := 7) scLeads6.nd rfl (Or.inl rfl) (pe_op n_div (pv 7) pe_int))
      (pss_one (ps_set (i := 8) scLeads6.nd rfl (Or.inl rfl) (pe_op n_div (pv 8) pe_int))))), ?_⟩
    intro D i nm H1 hi hS hnm hD go
    have le := len_ext (out := out) (i := i) (lenW i) (lohi i)
    have h8 := hi256 i
    have hge : ∀ x ∈ ext out i (fi / 2 ^ i) (l / 2 ^ i) (upW out fi l ws i), ∀ n, upW out fi l ws d = [n] → x ≤ n := fun x hx n hn => by
      obtain ⟨y, y1, y2⟩ := upW_ge hfl hwl hx d hi
      rw [hn] at y1
      rw [List.mem_singleton.mp y1] at y2
      exact y2
    have eup : upW out fi l ws (i + 1) = up (ext out i (fi / 2 ^ i) (l / 2 ^ i) (upW out fi l ws i)) := rfl
    have lh := lohi i
    generalize ext out i (fi / 2 ^ i) (l / 2 ^ i) (upW out fi l ws i) = ys at hnm le hge eup
    have hpos : 0 < ys.length := by rw [le]; omega
    refine ⟨_, rfl, nm, ys.map (fun n : Nat => (n : Int)), rfl, by rw [← vn_ints]; exact SqL.of hnm, by rw [List.length_map]; exact hpos, fun M hM1 hM2 => ?_⟩
    obtain ⟨x, hx, rfl⟩ := List.mem_map.mp hM1
    refine ⟨_, rfl, _, _, rfl, rfl, _, rfl, ite3 (fun c => ?_) (fun c => ?_)⟩
    · show D.rt (.bl false) H1
      rw [hD]
      refine q false H1 hS (false_iff' ?_)
      rintro ⟨n, hn, e⟩
      have := hge x hx n hn
      omega
    · have hb : ∀ y ∈ ys, y < 2 ^ bb := fun y hy => by
        have := hM2 (y : Int) (List.mem_map.mpr ⟨y, hy, rfl⟩)
        have z : (y : Int) < ((2 ^ bb : Nat) : Int) := by omega
        exact Int.ofNat_lt.mp z
      refine ⟨_, rfl, nm, ys, rfl, SqL.of hnm, by rw [le]; exact b256 _ _ h8, by rw [le]; exact Nat.mul_mod_right _ _, hb, fun nm2 H2 hS2 _ hn2 => ?_⟩
      refine ⟨_, rfl, fi / 2 ^ i, 2, fi / 2 ^ (i + 1), rfl, rfl, ⟨by decide, two_dl⟩, (div_half fi i).symm, ?_⟩
      refine ⟨_, rfl, l / 2 ^ i, 2, l / 2 ^ (i + 1), rfl, rfl, ⟨by decide, two_dl⟩, (div_half l i).symm, ?_⟩
      exact go nm2 H2 (hS.trans hS2) (by rw [eup]; exact hn2)
  -- from the second row on
  obtain ⟨t1, p1, r1⟩ : ∃ tt, PSs (cxOf CX0 P w K mg base nLeads6 "leads_to" (defScope sLeads6) f cdv A outer s H E).nox ((bodyOf ((defBody sLeads6).getD 3 (.Pass ⟨0, 0, 0, 0⟩))).drop 1) tt ∧
      ∀ (D : Ends) (i : Nat) (nm : Addr) (H1 : Hp), i < d → Same H H1 → H1 nm = some (.lst (vn ((if fi / 2 ^ i % 2 = 1 then [out (i, fi / 2 ^ i - 1)] else []) ++ upW out fi l ws i))) → D.rt = Q →
        (∀ nm2 H2, Same H H2 → H2 nm2 = some (.lst (vn (upW out fi l ws (i + 1)))) → D.nx [some (.int (d : Int)), some (.int t), some (.int (fi : Int)), some (.int (l : Int)), some (.ref wa), some (.ref oa), some (.ref nm2), some (.int ((fi / 2 ^ (i + 1) : Nat) : Int)), some (.int ((l / 2 ^ (i + 1) : Nat) : Int)), some (.int (i : Int))] H2) →
        tt D [some (.int (d : Int)), some (.int t), some (.int (fi : Int)), some (.int (l : Int)), some (.ref wa), some (.ref oa), some (.ref nm), some (.int ((fi / 2 ^ i : Nat) : Int)), some (.int ((l / 2 ^ i : Nat) : Int)), some (.int (i : Int))] H1 := by
    refine ⟨_, pss_cons (ps_if (pt_cmpR op_eq (pe_op n_mod (pv 8) pe_int) pe_int (nomark _))
      (pss_one (ps_set (i := 6) scLeads6.nd rfl (Or.inl rfl) (pe_op op_cat (pv 6) (pe_lst (pa_cons (pe_dget hu1 (pv 5) (pe_tup (pa_cons (pv 9) (pa_cons (pe_op n_add (pv 8) pe_int) pa_nil))) (fun _ _ => rfl)) pa_nil))))) pss_nil) p2, ?_⟩
    intro D i nm H1 hi hS hnm hD go
    have hlen : (vn ((if fi / 2 ^ i % 2 = 1 then [out (i, fi / 2 ^ i - 1)] else []) ++ upW out fi l ws i)).length ≤ 300 := by
      rw [len_vn, List.length_append, lenW i]
      have := b300 (fi / 2 ^ i) _ (hi256 i)
      generalize l / 2 ^ i + 1 - fi / 2 ^ i = z at this ⊢
      split <;> simp only [List.length_singleton, List.length_nil] <;> omega
    refine ⟨_, rfl, l / 2 ^ i, 2, l / 2 ^ i % 2, rfl, rfl, Nat.zero_lt_two, rfl, rfl, _, rfl, ite3 (fun e => ?_) (fun e => ?_)⟩
    · have e0 : l / 2 ^ i % 2 = 0 := by
        have z : ((l / 2 ^ i % 2 : Nat) : Int) = 0 := V.int.inj e
        omega
      have hval := hv (i, l / 2 ^ i + 1) (List.mem_append.mpr (.inr (mem_sufP.mpr ⟨i, hi, e0, rfl⟩)))
      refine ⟨_, rfl, _, rfl, _, rfl, _, rfl, l / 2 ^ i, 1, l / 2 ^ i + 1, rfl, rfl, trivial, rfl, two2, fun tp htp => ?_⟩
      have St := Same.upd (o := .tup [.int (i : Int), .int ((l / 2 ^ i + 1 : Nat) : Int)]) htp
      refine ⟨oa, .int (out (i, l / 2 ^ i + 1) : Int), rfl, by rw [← hval]; exact DGet.t (k := keyP (i, l / 2 ^ i + 1)) (St _ _ (hS _ _ ho)) upd_same, ?_⟩
      refine ⟨one1, fun l1 hl1 => ?_⟩
      have Sl := Same.upd (o := .lst [.int (out (i, l / 2 ^ i + 1) : Int)]) hl1
      refine ⟨nm, l1, _, _, rfl, rfl, Sl _ _ (St _ _ hnm), upd_same, Nat.le_of_lt (small1000 (by show _ + 1 ≤ 1000; omega)), fun nm2 hnm2 => ?_⟩
      refine r2 D i nm2 _ hi (((hS.trans St).trans Sl).trans (Same.upd hnm2)) ?_ hD go
      rw [upd_same]
      unfold ext
      rw [if_pos e0, ← vn_app (_ ++ _)]
      rfl
    · have e0 : ¬ l / 2 ^ i % 2 = 0 := fun z => e (by rw [z]; rfl)
      refine r2 D i nm H1 hi hS ?_ hD go
      unfold ext
      rw [if_neg e0, List.append_nil]
      exact hnm
  refine ⟨_, pss_cons (ps_set (i := 6) scLeads6.nd rfl (Or.inl rfl) (pv 4))
    (pss_cons (ps_set (i := 7) scLeads6.nd rfl (Or.inl rfl) (pv 2))
    (pss_cons (ps_set (i := 8) scLeads6.nd rfl (Or.inl rfl) (pv 3))
    (pss_cons (ps_for PassesOwn.never rfl (pi_range1 rfl mR (pa_cons (pv 0) pa_nil)) (pg_name (i := 9) scLeads6.nd rfl (Or.inl rfl))
      (pss_cons (ps_if (pt_cmpR op_eq (pe_op n_mod (pv 7) pe_int) pe_int (nomark _))
        (pss_one (ps_set (i := 6) scLeads6.nd rfl (Or.inl rfl) (pe_op op_cat (pe_lst (pa_cons (pe_dget hu1 (pv 5) (pe_tup (pa_cons (pv 9) (pa_cons (pe_op n_sub (pv 7) pe_int) pa_nil))) (fun _ _ => rfl)) pa_nil)) (pv 6)))) pss_nil) p1))
    (pss_one (ps_ret (pe_cmpR op_eq (pe_ix ix_list (pv 6) pe_int (fun _ _ => rfl)) (pv 1) (nomark _))))))), ?_⟩
  refine ⟨_, rfl, ?_⟩
  refine ⟨_, rfl, ?_⟩
  refine ⟨_, rfl, ?_⟩
  refine ⟨_, rfl, _, rfl, by omega, by omega, ?_⟩
  rw [Int.toNat_natCast]
  refine for_range (n := d) (fun i σ H' => ∃ (t9 : Option V) (nm : Addr), σ = [some (.int (d : Int)), some (.int t), some (.int (fi : Int)), some (.int (l : Int)), some (.ref wa), some (.ref oa), some (.ref nm), some (.int ((fi / 2 ^ i : Nat) : Int)), some (.int ((l / 2 ^ i : Nat) : Int)), t9] ∧ Same H H' ∧ H' nm = some (.lst (vn (upW out fi l ws i))))
    ⟨_, wa, by rw [Nat.pow_zero, Nat.div_one, Nat.div_one]; rfl, Same.refl _, hw⟩ ?_ ?_
  · rintro i σ H' hi ⟨t9, nm, rfl, hS, hnm⟩
    rw [show (0 : Int) + (i : Int) = ((i : Nat) : Int) by omega]
    have hlen : (vn (upW out fi l ws i)).length ≤ 300 := by
      rw [len_vn, lenW i]
      have := b300 (fi / 2 ^ i) _ (hi256 i)
      generalize l / 2 ^ i + 1 - fi / 2 ^ i = z at this ⊢
      omega
    refine ⟨_, rfl, fi / 2 ^ i, 2, fi / 2 ^ i % 2, rfl, rfl, Nat.zero_lt_two, rfl, rfl, _, rfl, ite3 (fun e => ?_) (fun e => ?_)⟩
    · have e1 : fi / 2 ^ i % 2 = 1 := by
        have z : ((fi / 2 ^ i % 2 : Nat) : Int) = 1 := V.int.inj e
        omega
      have hpos : 1 ≤ fi / 2 ^ i := Nat.pos_of_ne_zero fun z => by rw [z] at e1; cases e1
      have hval := hv (i, fi / 2 ^ i - 1) (List.mem_append.mpr (.inl (mem_preP.mpr ⟨i, hi, e1, rfl⟩)))
      refine ⟨_, rfl, _, rfl, _, rfl, fi / 2 ^ i, 1, fi / 2 ^ i - 1, rfl, rfl, hpos, rfl, two2, fun tp htp => ?_⟩
      have St := Same.upd (o := .tup [.int (i : Int), .int ((fi / 2 ^ i - 1 : Nat) : Int)]) htp
      refine ⟨oa, .int (out (i, fi / 2 ^ i - 1) : Int), rfl, by rw [← hval]; exact DGet.t (k := keyP (i, fi / 2 ^ i - 1)) (St _ _ (hS _ _ ho)) upd_same, ?_⟩
      refine ⟨one1, fun l1 hl1 => ?_⟩
      have Sl := Same.upd (o := .lst [.int (out (i, fi / 2 ^ i - 1) : Int)]) hl1
      refine ⟨_, rfl, l1, nm, _, _, rfl, rfl, upd_same, Sl _ _ (St _ _ hnm), Nat.le_of_lt (small1000 (by show 1 + _ ≤ 1000; omega)), fun nm2 hnm2 => ?_⟩
      refine r1 _ i nm2 _ hi (((hS.trans St).trans Sl).trans (Same.upd hnm2)) ?_ rfl fun nm3 H3 a1 a2 => ⟨_, nm3, rfl, a1, a2⟩
      rw [upd_same, if_pos e1, ← vn_app]
      rfl
    · have e1 : ¬ fi / 2 ^ i % 2 = 1 := fun z => e (by rw [z]; rfl)
      refine r1 _ i nm H' hi hS ?_ rfl fun nm3 H3 a1 a2 => ⟨_, nm3, rfl, a1, a2⟩
      rw [if_neg e1, List.nil_append]
      exact hnm
  · rintro σ H' ⟨t9, nm, rfl, hS, hnm⟩
    have l1 := lenW d
    rw [Nat.div_eq_of_lt hl, Nat.div_eq_of_lt (Nat.lt_of_le_of_lt hfl hl)] at l1
    match hW : upW out fi l ws d, l1 with
    | [n], _ =>
      rw [hW] at hnm q
      refine ⟨_, rfl, nm, _, _, _, rfl, rfl, SqL.of hnm, atI_nat (j := 0) rfl, _, rfl, rfl, q _ H' hS ?_⟩
      rw [dec_iff]
      exact ⟨fun e => ⟨n, rfl, e⟩, fun ⟨m, hm, e⟩ => by rw [(List.cons.inj hm).1]; exact e⟩
end
end Ts
namespace L2
open PySem PySem.Spec PyProof.Rows
theorem gName_go {i : Nat} {v : V} {σ : St} {H : Hp} {Q : St → Hp → Prop} (h : Q (σ.set i (some v)) H) : gName i v σ H Q := h
theorem comp_listV {fr : List (Option Nat)} {K : PySem.W.Frag} {i : Nat} {g : TG} {tt : TT} {te : TE} {Q : VK} {σ : St} {H1 : Hp} {a : Addr} {xs : List V} (hσ : σ[i]? = some (some (.ref a))) (hx : SqL K H1 a xs) (n : Nat) (hn : n < 1000) (Pv : Nat → List V → St → Hp → Prop)
    (h0 : Pv 0 [] (blockSt fr σ) H1) (hz : ∀ i ys τ H, Pv i ys τ H → ys.length ≤ i)
    (go : ∀ i ys τ H, i < n → Pv i ys τ H → (Itl K a).go i H ∧ ∀ x H', (Itl K a).yld i H x H' → g x τ H' fun τ2 H2 => tt τ2 H2 fun b H3 => if b = true then te τ2 H3 fun v H4 => Pv (i + 1) (ys ++ [v]) τ2 H4 else Pv (i + 1) ys τ2 H3)
    (stop : ∀ ys τ H, Pv n ys τ H → (Itl K a).stop n H ∧ ∀ p, H p = none → Q (.ref p) (upd H p (.lst ys))) : tComp fr (iList K (tVar i)) g tt te σ H1 Q :=
  ⟨_, hσ, a, rfl, ⟨_, hx⟩, comp_on n hn Pv h0 hz go stop⟩
end L2
namespace Ts
open PySem L2
theorem refs_at {rs : List RowN} {k : Nat} {r : RowN} (h : rs[k]? = some r) : (refsN rs)[k]? = some (.ref r.1) := by unfold refsN; rw [List.getElem?_map, h]; rfl
end Ts
namespace Ts
open PySem L2
inductive spIsSpan (K : PySem.W.Frag) (vs : List V) (H : Hp) (Q : VK) (E_ : XK) : Prop where
  | mk (d : Nat) (t : Int) (fi l : Nat) (a b : Addr) (rs : List RowN) (bs : List Nat) (f0 : vs = [.int (d : Int), .int t, .int (fi : Int), .int (l : Int), .ref a, .ref b]) (f1 : d ≤ 8) (f2 : fi ≤ l) (f3 : l < 2 ^ d) (f4 : SqL K H a (refsN rs)) (f5 : RowsN H rs) (f6 : RowsOk (2 ^ d) (bare rs)) (f7 : rs.length ≤ 1000) (f8 : SqL K H b (vn bs)) (f9 : t < ((2 ^ bb : Nat) : Int)) (f10 : ∀ (bo : Bool) (H' : Hp), Same H H' → (bo = true ↔ bs.length = (partsP d fi l).length ∧ (∀ r ∈ bare rs, fi ≤ r.1 ∧ r.1 ≤ l) ∧ ∃ out : Prt → Nat, (∀ (j : Nat) (p : Prt) (b : Nat), (partsP d fi l)[j]? = some p → bs[j]? = some b → out p = b) ∧ ∃ n : Nat, upW out fi l (sl (leaves (2 ^ d) (bare rs)) fi l) d = [n] ∧ (n : Int) = t) → Q (.bl bo) H') : spIsSpan K vs H Q E_
theorem upW_ext {d fi l : Nat} {o1 o2 : Prt → Nat} (h : ∀ p ∈ partsP d fi l, o1 p = o2 p) (ws : List Nat) : ∀ i, i ≤ d → upW o1 fi l ws i = upW o2 fi l ws i
  | 0, _ => rfl
  | i + 1, hi => by
    have ih := upW_ext h ws i (by omega)
    show up (ext o1 i _ _ _) = up (ext o2 i _ _ _)
    rw [ih]
    unfold ext
    have e1 : (if fi / 2 ^ i % 2 = 1 then [o1 (i, fi / 2 ^ i - 1)] else []) = (if fi / 2 ^ i % 2 = 1 then [o2 (i, fi / 2 ^ i - 1)] else []) := by
      by_cases z : fi / 2 ^ i % 2 = 1
      · rw [if_pos z, if_pos z, h _ (List.mem_append.mpr (.inl (mem_preP.mpr ⟨i, by omega, z, rfl⟩)))]
      · rw [if_neg z, if_neg z]
    have e2 : (if l / 2 ^ i % 2 = 0 then [o1 (i, l / 2 ^ i + 1)] else []) = (if l / 2 ^ i % 2 = 0 then [o2 (i, l / 2 ^ i + 1)] else []) := by
      by_cases z : l / 2 ^ i % 2 = 0
      · rw [if_pos z, if_pos z, h _ (List.mem_append.mpr (.inr (mem_sufP.mpr ⟨i, by omega, z, rfl⟩)))]
      · rw [if_neg z, if_neg z]
    rw [e1, e2]
theorem cut_sl {xs : List Nat} {fi l : Nat} (h : l < xs.length) : cutV (vn xs) (some (fi : Int)) (some ((l + 1 : Nat) : Int)) = vn (sl xs fi l) := by
  unfold cutV sl
  rw [HT.sIx_nat, HT.sIx_nat, len_vn, show min (l + 1) xs.length = l + 1 by omega]
  by_cases hf : fi ≤ xs.length
  · rw [show min fi xs.length = fi by omega]
    unfold vn
    rw [List.map_take, List.map_drop]
  · rw [show min fi xs.length = xs.length by omega]
    unfold vn
    rw [List.drop_of_length_le (by rw [List.length_map]; omega), List.drop_of_length_le (by omega)]
    simp
section
variable {P : Program} {w : World} {K : PySem.W.Frag} {mg : Str → Option Value} {base : Heap} {f : Addr} {fd : FuncData}
theorem scSpan : FnScope ["depth", "rows", "first", "last", "levels"] ["depth", "rows", "first", "last"] (defScope sSpan) := ⟨rfl, rfl, rfl, by decide +kernel, rfl, by decide +kernel, by decide +kernel⟩
theorem ok_span (F : Fun K "span_for" "span_for" sSpan f fd) (D : Has P w K mg base "check_depth" 1 ["depth"] spDepth) (R : Has P w K mg base "check_rows" 4 ["depth", "rows"] (spCRows K)) (CS : Has P w K mg base "check_span" 3 ["depth", "first", "last"] spCSpan) (LV : Has P w K mg base "levels_of" 4 ["depth", "rows"] (spLevOf K))
    (PO : Has P w K mg base "parts_outside" 1 ["depth", "first", "last"] (spOutside K)) : FnOk P w K mg base CX0 5 f fd ["depth", "rows", "first", "last"] (spSpan K) := by
  refine F.ok scSpan (fun vs H Q E h => ?_) (fun cdv A outer s H vs Q E hr h => ?_)
  · obtain ⟨d, fi, l, a, rs, rfl, _⟩ := h
    rfl
  obtain ⟨d, fi, l, a, rs, rfl, hd, hfl, hl, ha, hR, ok, h1000, h67, q⟩ := h
  have hr1 : Room 1 _ := hr.mono (by decide)
  have hr3 : Room 3 _ := hr.mono (by decide)
  have hf : fi < 2 ^ d := Nat.lt_of_le_of_lt hfl hl
  refine ⟨_, pss_cons (ps_expr (pe_has D hr1 (pa_cons (pv 0) pa_nil)))
    (pss_cons (ps_expr (pe_has R hr (pa_cons (pv 0) (pa_cons (pv 1) pa_nil))))
    (pss_cons (ps_expr (pe_has CS hr3 (pa_cons (pv 0) (pa_cons (pv 2) (pa_cons (pv 3) pa_nil)))))
    (pss_cons (ps_set (i := 4) scSpan.nd rfl (Or.inr rfl) (pe_has LV hr (pa_cons (pv 0) (pa_cons (pv 1) pa_nil))))
    (pss_one (ps_ret (pe_comp (cl := [("levels", s.heap.objs.size + 1)]) (N := ["level", "place", "levels"]) (fr := [none, none, some 4]) rfl
      (block_one rfl (by decide +kernel) (by decide +kernel) (by show ∀ p ∈ relS _ (defScope sSpan), _; decide +kernel) rfl) rfl ⟨⟨rfl, rfl, .inl rfl⟩, trivial⟩
      (pi_list (pe_has PO hr1 (pa_cons (pv 0) (pa_cons (pv 2) (pa_cons (pv 3) pa_nil)))))
      (fun _ _ _ _ _ => pg_tupK (n := 2) rfl (pgs_cons (pg_name (i := 0) (show (["level", "place", "levels"] : List Str).Nodup by decide) rfl (Or.inl rfl)) (pgs_cons (pg_name (i := 1) (show (["level", "place", "levels"] : List Str).Nodup by decide) rfl (Or.inl rfl)) pgs_nil)))
      (fun _ _ _ _ _ => pifs_nil)
      (fun _ _ _ _ _ => pe_ix ix_listK (pe_ix ix_listK (pv 2) (pv 0) (fun _ _ => rfl)) (pv 1) (fun _ _ => rfl)))))))), ?_⟩
  refine ⟨_, rfl, d, rfl, hd, ?_⟩
  refine ⟨_, rfl, _, rfl, d, a, rs, rfl, hd, ha, hR, ok, h1000, fun H1 hS1 => ?_⟩
  refine ⟨_, rfl, _, rfl, _, rfl, d, fi, l, rfl, hd, hfl, hl, ?_⟩
  refine ⟨_, rfl, _, rfl, d, a, rs, rfl, hd, hS1.seq ha, hR.same hS1, ok, h67, fun p as H2 hS2 hp hp2 hA => ?_⟩
  have hLl : (leaves (2 ^ d) (bare rs)).length = 2 ^ d := len_leaves _ _
  generalize leaves (2 ^ d) (bare rs) = xs at hLl hA q
  refine ⟨_, rfl, _, rfl, _, rfl, d, fi, l, rfl, hd, hf, hl, fun g ps H3 hS3 hg hg3 hP hB => ?_⟩
  have hlen : ps.length ≤ 20 := by
    have e := congrArg List.length hB
    rw [len_bare'] at e
    unfold partsP at e
    rw [List.length_append] at e
    have := len_preP d fi
    have := len_sufP d l
    omega
  refine ⟨g, rfl, ⟨_, SqL.of hg3⟩, ?_⟩
  refine comp_on ps.length (by omega) (fun i ys τ H5 => H5 = H3 ∧ ∃ t0 t1 : Option V, τ = [t0, t1, some (.ref p)] ∧ ys = vn ((bare (ps.take i)).map (numAt xs))) ⟨rfl, _, _, rfl, rfl⟩ ?_ ?_ ?_
  · rintro i ys τ H5 ⟨_, _, _, _, rfl⟩
    rw [len_vn, List.length_map, len_bare', List.length_take]
    omega
  · rintro i ys τ H5 hi ⟨rfl, t0, t1, rfl, rfl⟩
    have hei : ps[i]? = some ps[i] := List.getElem?_eq_getElem hi
    have hem : ps[i] ∈ ps := List.getElem_mem hi
    generalize ps[i] = v at hei hem
    refine ⟨⟨_, _, SqL.of hg3, refs_at hei⟩, fun y H6 hy => ?_⟩
    obtain ⟨g1, g2⟩ := hy
    have g3 : y = .ref v.1 := by
      have := g2 _ (SqL.of hg3)
      rw [refs_at hei] at this
      exact (Option.some.inj this).symm
    subst g1 g3
    have hin : v.2 ∈ partsP d fi l := by rw [← hB]; exact List.mem_map.mpr ⟨v, hem, rfl⟩
    have hlv := part_lv hin
    have hpl := part_in hf hl hin
    obtain ⟨b, hb1, hb2⟩ := hA v.2.1 hlv
    have hlb : (ups v.2.1 xs).length = 2 ^ (d - v.2.1) := by rw [len_ups, hLl, Nat.pow_div (by omega) (by decide)]
    obtain ⟨n1, _⟩ := getD_mem (xs := ups v.2.1 xs) (i := v.2.2) (by rw [hlb]; exact hpl)
    refine ⟨v.1, _, rfl, SqT.of (hP v hem), rfl, _, _, rfl, _, _, rfl, rfl, ?_⟩
    refine tYes_if ?_
    have hb3 := hS3 _ _ hb2
    refine ⟨_, rfl, _, rfl, p, _, _, _, rfl, rfl, SqL.of (hS3 _ _ hp2), atI_nat (v := .ref b) (by rw [List.getElem?_map, hb1]; rfl), _, rfl, b, _, _, _, rfl, rfl, SqL.of hb3, atI_nat (vn_get n1), rfl, _, _, rfl, ?_⟩
    rw [take_one hei, bare_app, List.map_append, ← vn_app]
    rfl
  · rintro ys τ H5 ⟨rfl, t0, t1, rfl, rfl⟩
    refine ⟨⟨_, SqL.of hg3, by rw [len_refs]; exact Nat.le_refl _⟩, fun r hr' => ?_⟩
    rw [List.take_length, hB]
    have S := (hS1.trans hS2).trans hS3
    exact q r _ (S.trans (Same.upd hr')) (S.free hr') upd_same
theorem scIsSpan : FnScope ["depth", "top", "first", "last", "rows", "numbers", "parts", "within"] ["depth", "top", "first", "last", "rows", "numbers"] (defScope sIsSpan) := ⟨rfl, rfl, rfl, by decide +kernel, rfl, by decide +kernel, by decide +kernel⟩
theorem ok_isspan (F : Fun K "is_span" "is_span" sIsSpan f fd) (mL : mg "len" = none) (mD : mg "dict" = none) (mZ : mg "zip" = none) (D : Has P w K mg base "check_depth" 1 ["depth"] spDepth) (R : Has P w K mg base "check_rows" 4 ["depth", "rows"] (spCRows K)) (CS : Has P w K mg base "check_span" 3 ["depth", "first", "last"] spCSpan)
    (CN : Has P w K mg base "check_numbers" 1 ["numbers"] (spCNums K)) (PO : Has P w K mg base "parts_outside" 1 ["depth", "first", "last"] (spOutside K)) (AW : Has P w K mg base "all_within" 1 ["rows", "first", "last"] (spWithin K)) (PL : Has P w K mg base "place_numbers" 2 ["depth", "rows"] (spPlace K))
    (LD : Has P w K mg base "leads_to_spans" 4 ["depth", "top", "first", "last", "within", "outside"] (spLeads6 K)) : FnOk P w K mg base CX0 5 f fd ["depth", "top", "first", "last", "rows", "numbers"] (spIsSpan K) := by
  refine F.ok scIsSpan (fun vs H Q E h => ?_) (fun cdv A outer s H vs Q E hr h => ?_)
  · obtain ⟨d, t, fi, l, a, b, rs, bs, rfl, _⟩ := h
    rfl
  obtain ⟨d, t, fi, l, a, b, rs, bs, rfl, hd, hfl, hl, ha, hR, ok, h1000, hb, ht, q⟩ := h
  have hr1 : Room 1 _ := hr.mono (by decide)
  have hr2 : Room 2 _ := hr.mono (by decide)
  have hr3 : Room 3 _ := hr.mono (by decide)
  have hu3 : _ + 3 < cLine := Nat.lt_of_le_of_lt (Nat.add_le_add_left (by decide : 3 ≤ 64) _) hr.units
  have hf : fi < 2 ^ d := Nat.lt_of_le_of_lt hfl hl
  refine ⟨_, pss_cons (ps_expr (pe_has D hr1 (pa_cons (pv 0) pa_nil)))
    (pss_cons (ps_expr (pe_has R hr (pa_cons (pv 0) (pa_cons (pv 4) pa_nil))))
    (pss_cons (ps_expr (pe_has CS hr3 (pa_cons (pv 0) (pa_cons (pv 2) (pa_cons (pv 3) pa_nil)))))
    (pss_cons (ps_expr (pe_has CN hr1 (pa_cons (pv 5) pa_nil)))
    (pss_cons (ps_set (i := 6) scIsSpan.nd rfl (Or.inl rfl) (pe_has PO hr1 (pa_cons (pv 0) (pa_cons (pv 2) (pa_cons (pv 3) pa_nil)))))
    (pss_cons (ps_if (PW.pt (pw_or (pt_cmpR op_ne (pe_callB call_len_seq rfl mL PySem.boot_len (pa_cons (pv 5) pa_nil)) (pe_callB call_len_seq rfl mL PySem.boot_len (pa_cons (pv 6) pa_nil)) (nomark _)) (pw_or1 (pt_not (pt_val (pe_has AW hr1 (pa_cons (pv 4) (pa_cons (pv 2) (pa_cons (pv 3) pa_nil)))))))))
      (pss_one (ps_ret pe_bl)) pss_nil)
    (pss_cons (ps_set (i := 7) scIsSpan.nd rfl (Or.inl rfl) (pe_slice sl_list (pe_has PL hr2 (pa_cons (pv 0) (pa_cons (pv 4) pa_nil))) (po_some (pv 2)) (po_some (pe_op n_add (pv 3) pe_int))))
    (pss_one (ps_ret (pe_has LD hr (pa_cons (pv 0) (pa_cons (pv 1) (pa_cons (pv 2) (pa_cons (pv 3) (pa_cons (pv 7) (pa_cons (pe_dictzip rfl hu3 rfl mD rfl mZ (pa_cons (pv 6) (pa_cons (pv 5) pa_nil))) pa_nil))))))))))))))), ?_⟩
  refine ⟨_, rfl, d, rfl, hd, ?_⟩
  refine ⟨_, rfl, _, rfl, d, a, rs, rfl, hd, ha, hR, ok, h1000, fun H1 hS1 => ?_⟩
  refine ⟨_, rfl, _, rfl, _, rfl, d, fi, l, rfl, hd, hfl, hl, ?_⟩
  refine ⟨_, rfl, b, bs, rfl, hS1.seq hb, ?_⟩
  refine ⟨_, rfl, _, rfl, _, rfl, d, fi, l, rfl, hd, hf, hl, fun g ps H3 hS3 hg hg3 hP hB => ?_⟩
  have S3 := hS1.trans hS3
  have hlb := len_vn bs
  have hlp := len_refs ps
  have hpb : ps.length = (partsP d fi l).length := by rw [← hB, len_bare']
  have hl20 : ps.length ≤ 20 := by
    rw [hpb]
    unfold partsP
    rw [List.length_append]
    have := len_preP d fi
    have := len_sufP d l
    omega
  refine ⟨_, rfl, b, _, rfl, .inl (S3.seq hb), _, rfl, g, _, rfl, .inl (SqL.of hg3), rfl, _, rfl, iteNot (fun e => ?_) (fun e => ?_)⟩
  · refine iteT (q false H3 S3 (false_iff' fun z => e ?_))
    rw [hlb, hlp, hpb, z.1]
  have hbl : bs.length = ps.length := by
    have z : ((vn bs).length : Int) = ((refsN ps).length : Int) := V.int.inj e
    omega
  refine ⟨_, rfl, _, rfl, _, rfl, fi, l, a, rs, rfl, S3.seq ha, hR.same S3, fun bo hbo => ?_⟩
  refine ⟨_, rfl, ?_⟩
  cases bo with
  | false =>
    refine iteB1 rfl (q false H3 S3 (false_iff' fun z => ?_))
    have := hbo.mpr z.2.1
    cases this
  | true =>
    refine iteB rfl ?_
    have hin := hbo.mp rfl
    refine ⟨_, rfl, _, rfl, d, a, rs, rfl, hd, S3.seq ha, hR.same S3, ok, fun p H4 hS4 _ hp4 => ?_⟩
    have hLl : (leaves (2 ^ d) (bare rs)).length = 2 ^ d := len_leaves _ _
    refine ⟨_, rfl, _, rfl, _, rfl, l, 1, l + 1, rfl, rfl, trivial, rfl, _, rfl, p, _, rfl, SqL.of hp4, fun wa hwa => ?_⟩
    rw [cut_sl (by rw [hLl]; exact hl)]
    generalize leaves (2 ^ d) (bare rs) = xs at hLl hp4 q
    have hws := len_sl (xs := xs) (f := fi) (l := l) (by rw [hLl]; exact hl) hfl
    have Sw := Same.upd (o := .lst (vn (sl xs fi l))) hwa
    have S4 := (S3.trans hS4).trans Sw
    have hg4 := (hS4.trans Sw) _ _ hg3
    have hP4 := hP.same (hS4.trans Sw)
    have hw4 : (upd H4 wa (.lst (vn (sl xs fi l)))) wa = some (.lst (vn (sl xs fi l))) := upd_same
    generalize upd H4 wa (.lst (vn (sl xs fi l))) = H5 at S4 hg4 hP4 hw4 ⊢
    have ek : (ps.map fun r => (r.1, keyP r.2)).map (·.2) = (partsP d fi l).map keyP := by
      rw [← hB]
      unfold bare
      rw [List.map_map, List.map_map]
      rfl
    have nd := nd_parts (d := d) hfl
    refine ⟨_, rfl, _, rfl, _, rfl, _, rfl, _, rfl, _, rfl, _, rfl, g, b, ps.map (fun r => (r.1, keyP r.2)), vn bs, rfl, ?_, S4.seq hb, by rw [len_vn, List.length_map]; exact hbl, ?_, ?_, by rw [List.length_map]; omega, fun oa hoa => ?_⟩
    · rw [List.map_map]
      exact SqL.of hg4
    · intro x hx
      obtain ⟨r, hr', rfl⟩ := List.mem_map.mp hx
      exact hP4 r hr'
    · rw [ek]
      rw [List.nodup_iff_pairwise_ne, List.pairwise_map]
      exact (List.nodup_iff_pairwise_ne.mp nd).imp fun {x y} z e => z (keyP_inj e)
    rw [ek]
    have So := Same.upd (o := .dT (((partsP d fi l).map keyP).zip (vn bs))) hoa
    have hval : ∀ p ∈ partsP d fi l, valV (((partsP d fi l).map keyP).zip (vn bs)) (keyP p) = some (.int (outV (((partsP d fi l).map keyP).zip (vn bs)) p : Int)) := fun p hp => by
      obtain ⟨j, hj⟩ := List.getElem?_of_mem hp
      have hjl := (List.getElem?_eq_some_iff.mp hj).1
      have hb' : bs[j]? = some bs[j] := List.getElem?_eq_getElem (by omega)
      have e := val_zip nd j p _ hj hb'
      rw [outV_of e]
      exact e
    refine ⟨d, t, fi, l, wa, oa, sl xs fi l, _, outV (((partsP d fi l).map keyP).zip (vn bs)), rfl, hd, hfl, hl, So _ _ hw4, upd_same, hws, hval, ht, fun bo H6 hS6 hbo' => ?_⟩
    refine q bo H6 ((S4.trans So).trans hS6) (hbo'.trans ⟨fun ⟨n, h1, h2⟩ => ⟨by omega, hin, _, fun j p b' h3 h4 => outV_of (val_zip nd j p b' h3 h4), n, h1, h2⟩, fun ⟨_, _, out, h3, n, h1, h2⟩ => ⟨n, ?_, h2⟩⟩)
    rw [← h1]
    refine upW_ext (fun p hp => ?_) _ d (Nat.le_refl _)
    obtain ⟨j, hj⟩ := List.getElem?_of_mem hp
    have hjl := (List.getElem?_eq_some_iff.mp hj).1
    have hb' : bs[j]? = some bs[j] := List.getElem?_eq_getElem (by omega)
    rw [outV_of (val_zip nd j p _ hj hb'), h3 j p _ hj hb']
end
end Ts
namespace Ts
open PySem L2
abbrev Tri := Nat × Nat × Nat
def diffFrom : Nat → List Nat → List Nat → List Tri
  | i, x :: xs, y :: ys => if x = y then diffFrom (i + 1) xs ys else (i, x, y) :: diffFrom (i + 1) xs ys
  | _, _, _ => []
def halves : List Tri → List Tri
  | [] => []
  | (i, a, b) :: r => (2 * i, oneN a, oneN b) :: (2 * i + 1, twoN a, twoN b) :: halves r
def unlike (ps : List Tri) : List Tri := ps.filter fun p => !decide (p.2.1 = p.2.2)
theorem unlike_cons (p : Tri) (r : List Tri) : unlike (p :: r) = if p.2.1 = p.2.2 then unlike r else p :: unlike r := by
  unfold unlike
  by_cases h : p.2.1 = p.2.2
  · rw [if_pos h]; simp [h]
  · rw [if_neg h]; simp [h]
theorem unlike_snoc (r : List Tri) (p : Tri) : unlike (r ++ [p]) = if p.2.1 = p.2.2 then unlike r else unlike r ++ [p] := by
  unfold unlike
  rw [List.filter_append]
  by_cases h : p.2.1 = p.2.2
  · rw [if_pos h]; simp [h]
  · rw [if_neg h]; simp [h]
theorem halves_app : ∀ ps qs : List Tri, halves (ps ++ qs) = halves ps ++ halves qs
  | [], _ => rfl
  | (i, a, b) :: r, qs => by
    show _ :: _ :: halves (r ++ qs) = _ :: _ :: (halves r ++ halves qs)
    rw [halves_app r qs]
theorem len_halves : ∀ ps : List Tri, (halves ps).length = 2 * ps.length
  | [] => rfl
  | (i, a, b) :: r => by
    show (halves r).length + 1 + 1 = 2 * (r.length + 1)
    rw [len_halves r]; omega
theorem unlike_halves : ∀ (i : Nat) (xs ys : List Nat), unlike (halves (diffFrom i xs ys)) = diffFrom (2 * i) (down xs) (down ys)
  | i, [], ys => by cases ys <;> rfl
  | i, x :: xs, [] => by
    show unlike (halves []) = diffFrom (2 * i) (oneN x :: twoN x :: down xs) []
    rfl
  | i, x :: xs, y :: ys => by
    have ih := unlike_halves (i + 1) xs ys
    rw [show 2 * (i + 1) = 2 * i + 1 + 1 by omega] at ih
    show unlike (halves (if x = y then diffFrom (i + 1) xs ys else (i, x, y) :: diffFrom (i + 1) xs ys)) =
      (if oneN x = oneN y then (if twoN x = twoN y then diffFrom (2 * i + 1 + 1) (down xs) (down ys) else (2 * i + 1, twoN x, twoN y) :: diffFrom (2 * i + 1 + 1) (down xs) (down ys))
      else (2 * i, oneN x, oneN y) :: (if twoN x = twoN y then diffFrom (2 * i + 1 + 1) (down xs) (down ys) else (2 * i + 1, twoN x, twoN y) :: diffFrom (2 * i + 1 + 1) (down xs) (down ys)))
    by_cases h : x = y
    · subst h
      rw [if_pos rfl, if_pos rfl, if_pos rfl]
      exact ih
    · rw [if_neg h]
      show unlike ((2 * i, oneN x, oneN y) :: (2 * i + 1, twoN x, twoN y) :: halves (diffFrom (i + 1) xs ys)) = _
      rw [unlike_cons, unlike_cons, ih]
theorem unlike_one (a b : Nat) : unlike [(0, a, b)] = diffFrom 0 [a] [b] := by
  rw [unlike_cons]
  rfl
theorem diff_len : ∀ (i : Nat) (xs ys : List Nat), (diffFrom i xs ys).length ≤ xs.length
  | i, [], ys => by cases ys <;> exact Nat.le_refl _
  | i, x :: xs, [] => Nat.zero_le _
  | i, x :: xs, y :: ys => by
    have ih := diff_len (i + 1) xs ys
    show (if x = y then diffFrom (i + 1) xs ys else (i, x, y) :: diffFrom (i + 1) xs ys).length ≤ xs.length + 1
    split
    · omega
    · show (diffFrom (i + 1) xs ys).length + 1 ≤ _
      omega
theorem diff_mem : ∀ (i : Nat) (xs ys : List Nat) (t : Tri), t ∈ diffFrom i xs ys → t.2.1 ∈ xs ∧ t.2.2 ∈ ys ∧ t.1 < i + xs.length
  | i, [], ys, t, h => by cases ys <;> cases h
  | i, x :: xs, [], t, h => by cases h
  | i, x :: xs, y :: ys, t, h => by
    have ih := diff_mem (i + 1) xs ys t
    have h' : t ∈ (if x = y then diffFrom (i + 1) xs ys else (i, x, y) :: diffFrom (i + 1) xs ys) := h
    have go : t ∈ diffFrom (i + 1) xs ys → t.2.1 ∈ x :: xs ∧ t.2.2 ∈ y :: ys ∧ t.1 < i + (x :: xs).length := fun m => by
      obtain ⟨a, b, c⟩ := ih m
      exact ⟨List.mem_cons_of_mem _ a, List.mem_cons_of_mem _ b, by simp only [List.length_cons]; omega⟩
    split at h'
    · exact go h'
    · rcases List.mem_cons.mp h' with e | e
      · subst e
        exact ⟨List.mem_cons_self, List.mem_cons_self, by simp only [List.length_cons]; omega⟩
      · exact go e
def openN (a b : Nat) : Nat → Nat
  | 0 => 0
  | i + 1 => openN a b i + (diffFrom 0 (downs i [a]) (downs i [b])).length
def valN : Nat → V
  | 0 => .non
  | v + 1 => .int (v : Int)
end Ts
namespace Ts
open PySem L2
abbrev TriN := Addr × Tri
def TrisN (H : Hp) (ts : List TriN) : Prop := ∀ t ∈ ts, H t.1 = some (.tup [.int (t.2.1 : Int), .int (t.2.2.1 : Int), .int (t.2.2.2 : Int)])
def refsT {α : Type} (ts : List (Addr × α)) : List V := ts.map fun t => V.ref t.1
def bareT {α : Type} (ts : List (Addr × α)) : List α := ts.map (·.2)
theorem len_refsT {α : Type} (ts : List (Addr × α)) : (refsT ts).length = ts.length := by unfold refsT; rw [List.length_map]
theorem len_bareT {α : Type} (ts : List (Addr × α)) : (bareT ts).length = ts.length := by unfold bareT; rw [List.length_map]
theorem refsT_at {α : Type} {ts : List (Addr × α)} {i : Nat} {t : Addr × α} (h : ts[i]? = some t) : (refsT ts)[i]? = some (.ref t.1) := by unfold refsT; rw [List.getElem?_map, h]; rfl
theorem refsT_get {α : Type} {ts : List (Addr × α)} {i : Nat} {x : V} (h : (refsT ts)[i]? = some x) : ∃ t, ts[i]? = some t ∧ x = .ref t.1 ∧ t ∈ ts := by
  unfold refsT at h
  rw [List.getElem?_map] at h
  cases q : ts[i]? with
  | none => rw [q] at h; cases h
  | some r => rw [q] at h; cases h; exact ⟨r, rfl, rfl, List.mem_of_getElem? q⟩
theorem refsT_app {α : Type} (ts us : List (Addr × α)) : refsT (ts ++ us) = refsT ts ++ refsT us := by unfold refsT; rw [List.map_append]
theorem bareT_app {α : Type} (ts us : List (Addr × α)) : bareT (ts ++ us) = bareT ts ++ bareT us := by unfold bareT; rw [List.map_append]
theorem TrisN.same {H H' : Hp} {ts : List TriN} (h : TrisN H ts) (e : Same H H') : TrisN H' ts := fun t ht => e _ _ (h t ht)
theorem TrisN.lst {H : Hp} {ts : List TriN} {a : Addr} {xs : List V} {o : HO} (h : TrisN H ts) (ha : H a = some (.lst xs)) : TrisN (upd H a o) ts := fun r hr => by
  rw [upd_ne (ne_of (h r hr) ha (by intro z; cases z))]; exact h r hr
inductive spUnlike (K : PySem.W.Frag) (vs : List V) (H : Hp) (Q : VK) (E_ : XK) : Prop where
  | mk (l : Addr) (ts : List TriN) (f0 : vs = [.ref l]) (f1 : SqL K H l (refsT ts)) (f2 : TrisN H ts) (f3 : ts.length < 1000) (f4 : ∀ p us H', Same H H' → H p = none → H' p = some (.lst (refsT us)) → TrisN H' us → bareT us = unlike (bareT ts) → Q (.ref p) H') : spUnlike K vs H Q E_
inductive spHalves (K : PySem.W.Frag) (vs : List V) (H : Hp) (Q : VK) (E_ : XK) : Prop where
  | mk (l : Addr) (ts : List TriN) (f0 : vs = [.ref l]) (f1 : SqL K H l (refsT ts)) (f2 : TrisN H ts) (f3 : ts.length ≤ 256) (f4 : (∀ t ∈ bareT ts, t.1 < 2 ^ 20 ∧ t.2.1 < 2 ^ pl ∧ t.2.2 < 2 ^ pl)) (f5 : ∀ p us H', Same H H' → H p = none → H' p = some (.lst (refsT us)) → TrisN H' us → bareT us = halves (bareT ts) → Q (.ref p) H') : spHalves K vs H Q E_
abbrev DifN := Addr × Tri
def DifsN (H : Hp) (ts : List DifN) : Prop := ∀ t ∈ ts, H t.1 = some (.tup [.int (t.2.1 : Int), valN t.2.2.1, valN t.2.2.2])
theorem DifsN.same {H H' : Hp} {ts : List DifN} (h : DifsN H ts) (e : Same H H') : DifsN H' ts := fun t ht => e _ _ (h t ht)
inductive spDiffer (K : PySem.W.Frag) (vs : List V) (H : Hp) (Q : VK) (E_ : XK) : Prop where
  | mk (d a b : Nat) (f0 : vs = [.int (d : Int), .int (a : Int), .int (b : Int)]) (f1 : d ≤ 8) (f2 : a < 2 ^ pl) (f3 : b < 2 ^ pl) (f4 : ∀ p l us H', Same H H' → H' p = some (.tup [.ref l, .int ((openN a b d : Nat) : Int)]) → H' l = some (.lst (refsT us)) → DifsN H' us → bareT us = diffFrom 0 (downs d [a]) (downs d [b]) → Q (.ref p) H') : spDiffer K vs H Q E_
inductive spValN (vs : List V) (H : Hp) (Q : VK) (E_ : XK) : Prop where
  | mk (n : Nat) (f0 : vs = [.int (n : Int)]) (f1 : Q (valN n) H) : spValN  vs H Q E_
section
variable {P : Program} {w : World} {K : PySem.W.Frag} {mg : Str → Option Value} {base : Heap} {f : Addr} {fd : FuncData}
theorem scUnlike : FnScope ["parts"] ["parts"] (defScope sUnlike) := ⟨rfl, rfl, rfl, by decide +kernel, rfl, by decide +kernel, by decide +kernel⟩
theorem ok_unlike (F : Fun K "only_unlike" "only_unlike" sUnlike f fd) : FnOk P w K mg base CX0 1 f fd ["parts"] (spUnlike K) := by
  refine F.ok scUnlike (fun vs H Q E h => ?_) (fun cdv A outer s H vs Q E hr h => ?_)
  · obtain ⟨l, ts, rfl, _⟩ := h
    rfl
  obtain ⟨l, ts, rfl, hl, hT, h1000, q⟩ := h
  refine ⟨_, pss_one (ps_ret (pe_comp (cl := []) (N := ["part"]) (fr := [none]) rfl
    (block_none rfl (by decide +kernel) (by decide +kernel) (by show ∀ p ∈ relS _ (defScope sUnlike), _; decide +kernel)) rfl trivial
    (pi_list (pv 0)) (fun _ _ _ _ _ => pg_name (i := 0) (show (["part"] : List Str).Nodup by decide) rfl (Or.inl rfl))
    (fun _ _ _ _ _ => pifs_one (pt_cmpR op_ne (pe_ix ix_tupK (pv 0) pe_int (fun _ _ => rfl)) (pe_ix ix_tupK (pv 0) pe_int (fun _ _ => rfl)) (nomark _))) (fun _ _ _ _ _ => pv 0))), ?_⟩
  refine comp_listV (a := l) (xs := refsT ts) ?_ hl ts.length h1000 (fun i ys τ H5 => H5 = H ∧ ∃ (t0 : Option V) (us : List TriN), τ = [t0] ∧ ys = refsT us ∧ us.length ≤ i ∧ (∀ u ∈ us, u ∈ ts) ∧ bareT us = unlike (bareT (ts.take i))) ?_ ?_ ?_ ?_
  · rfl
  · exact ⟨rfl, _, [], rfl, rfl, Nat.le_refl _, fun u hu => (nomatch hu), rfl⟩
  · rintro i ys τ H5 ⟨_, _, us, _, rfl, hz, _⟩
    rw [len_refsT]; exact hz
  · rintro i ys τ H5 hi ⟨rfl, t0, us, rfl, rfl, hz, hin, hB⟩
    have hei : ts[i]? = some ts[i] := List.getElem?_eq_getElem hi
    have hem : ts[i] ∈ ts := List.getElem_mem hi
    generalize ts[i] = v at hei hem
    refine ⟨⟨_, _, hl, refsT_at hei⟩, fun y H6 hy => ?_⟩
    obtain ⟨g1, g2⟩ := hy
    have g3 : y = .ref v.1 := by
      have := g2 _ hl
      rw [refsT_at hei] at this
      exact (Option.some.inj this).symm
    subst g1 g3
    have hsn := unlike_snoc (bareT (ts.take i)) v.2
    have ht : bareT (ts.take (i + 1)) = bareT (ts.take i) ++ [v.2] := by rw [take_one hei, bareT_app]; rfl
    refine gName_go ?_
    refine ⟨_, rfl, v.1, _, _, _, rfl, rfl, SqT.of (hT v hem), atI_nat (j := 1) rfl, _, rfl, v.1, _, _, _, rfl, rfl, SqT.of (hT v hem), atI_nat (j := 2) rfl, rfl, _, rfl, iteNot (fun e => ?_) (fun e => ?_)⟩
    · have e' : ¬ v.2.2.1 = v.2.2.2 := fun z => e (by rw [z])
      rw [if_neg e'] at hsn
      refine ⟨_, rfl, rfl, _, us ++ [v], rfl, ?_, ?_, ?_, ?_⟩
      · rw [refsT_app]; rfl
      · rw [List.length_append]; show us.length + 1 ≤ i + 1; omega
      · intro u hu
        rcases List.mem_append.mp hu with z | z
        · exact hin u z
        · rw [List.mem_singleton.mp z]; exact hem
      · rw [ht, hsn, bareT_app, hB]; rfl
    · have e' : v.2.2.1 = v.2.2.2 := by
        have := V.int.inj e
        omega
      rw [if_pos e'] at hsn
      exact ⟨rfl, _, us, rfl, rfl, by omega, hin, by rw [ht, hsn, hB]⟩
  · rintro ys τ H5 ⟨rfl, t0, us, rfl, rfl, hz, hin, hB⟩
    refine ⟨⟨_, hl, by rw [len_refsT]; exact Nat.le_refl _⟩, fun p hp => ?_⟩
    rw [List.take_length] at hB
    exact q p us _ (Same.upd hp) hp upd_same (fun u hu => (Same.upd hp) _ _ (hT u (hin u hu))) hB
theorem scHalves : FnScope ["parts", "halves", "place", "first", "second", "in_first", "in_second"] ["parts"] (defScope sHalves) := ⟨rfl, rfl, rfl, by decide +kernel, rfl, by decide +kernel, by decide +kernel⟩
theorem ok_halves (F : Fun K "halves_of" "halves_of" sHalves f fd) (C : Has P w K mg base "parts_of" 18 ["number"] spParts) : FnOk P w K mg base CX0 19 f fd ["parts"] (spHalves K) := by
  refine F.ok scHalves (fun vs H Q E h => ?_) (fun cdv A outer s H vs Q E hr h => ?_)
  · obtain ⟨l, ts, rfl, _⟩ := h
    rfl
  obtain ⟨l, ts, rfl, hl, hT, h256, hb, q⟩ := h
  have tri3 : (3 : Nat) ≤ sizeLine := by decide
  refine ⟨_, pss_cons (ps_set (i := 1) scHalves.nd rfl (Or.inl rfl) (pe_lst pa_nil))
    (pss_cons (ps_for PassesOwn.never rfl (pi_list (pv 0)) (pg_tup (n := 3) rfl (pgs_cons (pg_name (i := 2) scHalves.nd rfl (Or.inl rfl)) (pgs_cons (pg_name (i := 3) scHalves.nd rfl (Or.inl rfl)) (pgs_cons (pg_name (i := 4) scHalves.nd rfl (Or.inl rfl)) pgs_nil))))
      (pss_cons (ps_set (i := 5) scHalves.nd rfl (Or.inl rfl) (pe_has C hr (pa_cons (pv 3) pa_nil)))
      (pss_cons (ps_set (i := 6) scHalves.nd rfl (Or.inl rfl) (pe_has C hr (pa_cons (pv 4) pa_nil)))
      (pss_cons (ps_expr (pe_bm PySem.F.plainAttrs_list PySem.F.slot_list_append PySem.F.type_list_append mt_append (pv 1) (pa_cons (pe_tup (pa_cons (pe_op n_mul pe_int (pv 2)) (pa_cons (pe_ix ix_tup (pv 5) pe_int (fun _ _ => rfl)) (pa_cons (pe_ix ix_tup (pv 6) pe_int (fun _ _ => rfl)) pa_nil)))) pa_nil)))
      (pss_one (ps_expr (pe_bm PySem.F.plainAttrs_list PySem.F.slot_list_append PySem.F.type_list_append mt_append (pv 1) (pa_cons (pe_tup (pa_cons (pe_op n_add (pe_op n_mul pe_int (pv 2)) pe_int) (pa_cons (pe_ix ix_tup (pv 5) pe_int (fun _ _ => rfl)) (pa_cons (pe_ix ix_tup (pv 6) pe_int (fun _ _ => rfl)) pa_nil)))) pa_nil))))))))
    (pss_one (ps_ret (pv 1)))), ?_⟩
  refine ⟨by show 0 ≤ sizeLine; decide, fun g hg0 => ?_⟩
  have hS0 : Same H (upd H g (.lst [])) := Same.upd hg0
  refine ⟨_, rfl, l, rfl, ⟨_, hS0.seq hl⟩, ?_⟩
  refine for_list (xs := refsT ts) (fun i σ H' => ∃ (t2 t3 t4 t5 t6 : Option V) (us : List TriN), σ = [some (.ref l), some (.ref g), t2, t3, t4, t5, t6] ∧ Same H H' ∧ H' g = some (.lst (refsT us)) ∧ TrisN H' us ∧ bareT us = halves (bareT (ts.take i))) ⟨_, _, _, _, _, [], rfl, hS0, upd_same, fun u hu => (nomatch hu), rfl⟩ ?_ ?_ ?_
  · rintro i σ H' _ ⟨_, _, _, _, _, _, _, hS, _⟩
    exact hS.seq hl
  · rintro i x σ H' hx ⟨t2, t3, t4, t5, t6, us, rfl, hS, hg, hU, hB⟩
    obtain ⟨v, hv, rfl, hmem⟩ := refsT_get hx
    have hi : i < ts.length := (List.getElem?_eq_some_iff.mp hv).1
    obtain ⟨b1, b2, b3⟩ := hb v.2 (List.mem_map.mpr ⟨v, hmem, rfl⟩)
    have ht : bareT (ts.take (i + 1)) = bareT (ts.take i) ++ [v.2] := by rw [take_one hv, bareT_app]; rfl
    have hlen : us.length = 2 * i := by
      have e := congrArg List.length hB
      rw [len_bareT, len_halves, len_bareT, List.length_take] at e
      omega
    refine ⟨v.1, _, rfl, SqT.of (hS _ _ (hT v hmem)), rfl, _, _, rfl, _, _, rfl, _, _, rfl, rfl, ?_⟩
    obtain ⟨va, vp, vx, vy⟩ := v
    simp only at b1 b2 b3 ht hmem ⊢
    refine ⟨_, rfl, vx, oneN vx, twoN vx, rfl, b2, rfl, rfl, fun p1 hp1 => ?_⟩
    have S1 := Same.upd (o := .tup [.int (oneN vx : Int), .int (twoN vx : Int)]) hp1
    refine ⟨_, rfl, vy, oneN vy, twoN vy, rfl, b3, rfl, rfl, fun p2 hp2 => ?_⟩
    have S2 := Same.upd (o := .tup [.int (oneN vy : Int), .int (twoN vy : Int)]) hp2
    have e1 := S2 _ _ (upd_same (H := H') (a := p1) (o := .tup [.int (oneN vx : Int), .int (twoN vx : Int)]))
    have e2 : (upd (upd H' p1 (.tup [.int (oneN vx : Int), .int (twoN vx : Int)])) p2 (.tup [.int (oneN vy : Int), .int (twoN vy : Int)])) p2 = some (.tup [.int (oneN vy : Int), .int (twoN vy : Int)]) := upd_same
    have hS2 := hS.trans (S1.trans S2)
    have hg2 := (S1.trans S2) _ _ hg
    have hU2 := hU.same (S1.trans S2)
    generalize upd (upd H' p1 (.tup [.int (oneN vx : Int), .int (twoN vx : Int)])) p2 (.tup [.int (oneN vy : Int), .int (twoN vy : Int)]) = H2 at e1 e2 hS2 hg2 hU2 ⊢
    have m20 : CMulN 2 vp := ⟨2, 20, by decide, b1, by decide⟩
    refine ⟨_, rfl, .inl ⟨rfl, _, SqL.of hg2⟩, _, rfl, 2, vp, 2 * vp, rfl, rfl, m20, rfl, _, rfl, p1, _, _, _, rfl, rfl, SqT.of e1, atI_nat (j := 0) rfl, _, rfl, p2, _, _, _, rfl, rfl, SqT.of e2, atI_nat (j := 0) rfl, tri3, fun q1 hq1 => ?_⟩
    have S3 := Same.upd (o := .tup [.int ((2 * vp : Nat) : Int), .int (oneN vx : Int), .int (oneN vy : Int)]) hq1
    have hgl : (refsT us).length < sizeLine := by rw [len_refsT]; exact small1000 (by omega)
    have hg3 := S3 _ _ hg2
    refine ⟨g, _, _, rfl, rfl, hg3, hgl, ?_⟩
    have hU3 : TrisN (upd (upd H2 q1 (.tup [.int ((2 * vp : Nat) : Int), .int (oneN vx : Int), .int (oneN vy : Int)])) g (.lst (refsT us ++ [.ref q1]))) (us ++ [(q1, 2 * vp, oneN vx, oneN vy)]) := by
      refine TrisN.lst (fun u hu => ?_) hg3
      rcases List.mem_append.mp hu with z | z
      · exact S3 _ _ (hU2 u z)
      · rw [List.mem_singleton.mp z]; exact upd_same
    have e13 : (upd (upd H2 q1 (.tup [.int ((2 * vp : Nat) : Int), .int (oneN vx : Int), .int (oneN vy : Int)])) g (.lst (refsT us ++ [.ref q1]))) p1 = some (.tup [.int (oneN vx : Int), .int (twoN vx : Int)]) := by
      rw [upd_ne (ne_of (S3 _ _ e1) hg3 (by intro z; cases z))]; exact S3 _ _ e1
    have e23 : (upd (upd H2 q1 (.tup [.int ((2 * vp : Nat) : Int), .int (oneN vx : Int), .int (oneN vy : Int)])) g (.lst (refsT us ++ [.ref q1]))) p2 = some (.tup [.int (oneN vy : Int), .int (twoN vy : Int)]) := by
      rw [upd_ne (ne_of (S3 _ _ e2) hg3 (by intro z; cases z))]; exact S3 _ _ e2
    have hS3 : Same H (upd (upd H2 q1 (.tup [.int ((2 * vp : Nat) : Int), .int (oneN vx : Int), .int (oneN vy : Int)])) g (.lst (refsT us ++ [.ref q1]))) := (hS2.trans S3).new hg0
    have hg4 : (upd (upd H2 q1 (.tup [.int ((2 * vp : Nat) : Int), .int (oneN vx : Int), .int (oneN vy : Int)])) g (.lst (refsT us ++ [.ref q1]))) g = some (.lst (refsT (us ++ [(q1, 2 * vp, oneN vx, oneN vy)]))) := by rw [upd_same, refsT_app]; rfl
    generalize upd (upd H2 q1 (.tup [.int ((2 * vp : Nat) : Int), .int (oneN vx : Int), .int (oneN vy : Int)])) g (.lst (refsT us ++ [.ref q1])) = H4 at hU3 e13 e23 hS3 hg4 ⊢
    refine ⟨_, rfl, .inl ⟨rfl, _, SqL.of hg4⟩, _, rfl, 2, vp, 2 * vp, rfl, rfl, m20, rfl, 2 * vp, 1, 2 * vp + 1, rfl, rfl, trivial, rfl, _, rfl, p1, _, _, _, rfl, rfl, SqT.of e13, atI_nat (j := 1) rfl, _, rfl, p2, _, _, _, rfl, rfl, SqT.of e23, atI_nat (j := 1) rfl, tri3, fun q2 hq2 => ?_⟩
    have S5 := Same.upd (o := .tup [.int ((2 * vp + 1 : Nat) : Int), .int (twoN vx : Int), .int (twoN vy : Int)]) hq2
    have hg5 := S5 _ _ hg4
    have hgl2 : (refsT (us ++ [(q1, 2 * vp, oneN vx, oneN vy)])).length < sizeLine := by rw [len_refsT, List.length_append]; exact small1000 (by show us.length + 1 ≤ 1000; omega)
    refine ⟨g, _, _, rfl, rfl, hg5, hgl2, _, _, _, _, _, us ++ [(q1, 2 * vp, oneN vx, oneN vy)] ++ [(q2, 2 * vp + 1, twoN vx, twoN vy)], rfl, (hS3.trans S5).new hg0, ?_, ?_, ?_⟩
    · rw [upd_same, refsT_app (us ++ _)]; rfl
    · refine TrisN.lst (fun u hu => ?_) hg5
      rcases List.mem_append.mp hu with z | z
      · exact S5 _ _ (hU3 u z)
      · rw [List.mem_singleton.mp z]; exact upd_same
    · rw [ht, halves_app, bareT_app, bareT_app, hB, List.append_assoc]; rfl
  · rintro σ H' ⟨t2, t3, t4, t5, t6, us, rfl, hS, hg, hU, hB⟩
    rw [len_refsT, List.take_length] at hB
    exact ⟨_, rfl, q g us H' hS hg0 hg hU hB⟩
theorem scDiffer : FnScope ["depth", "one", "two", "unlike", "opened", "level"] ["depth", "one", "two"] (defScope sDiffer) := ⟨rfl, rfl, rfl, by decide +kernel, rfl, by decide +kernel, by decide +kernel⟩
theorem has_valN (h : Has P w K mg base "value_by" 1 ["number"] spValBy) : Has P w K mg base "value_by" 1 ["number"] spValN := by
  obtain ⟨g, gd, G, r⟩ := h
  refine ⟨g, gd, G.imp fun vs H Q E z => ?_, r⟩
  obtain ⟨n, rfl, z⟩ := z
  exact ⟨n, rfl, fun e => by rw [e] at z; exact z, fun v e => by rw [e] at z; exact z⟩
theorem ok_differ (F : Fun K "differing" "differing" sDiffer f fd) (mR : mg "range" = none) (mL : mg "len" = none) (D : Has P w K mg base "check_depth" 1 ["depth"] spDepth) (W : Has P w K mg base "check_top" 1 ["top"] spCVal) (U : Has P w K mg base "only_unlike" 1 ["parts"] (spUnlike K)) (HV : Has P w K mg base "halves_of" 19 ["parts"] (spHalves K))
    (B : Has P w K mg base "value_by" 1 ["number"] spValN) : FnOk P w K mg base CX0 20 f fd ["depth", "one", "two"] (spDiffer K) := by
  refine F.ok scDiffer (fun vs H Q E h => ?_) (fun cdv A outer s H vs Q E hr h => ?_)
  · obtain ⟨d, a, b, rfl, _⟩ := h
    rfl
  obtain ⟨d, a, b, rfl, hd, ha, hb, q⟩ := h
  have hr1 : Room 1 _ := hr.mono (by decide)
  have tri3 : (3 : Nat) ≤ sizeLine := by decide
  refine ⟨_, pss_cons (ps_expr (pe_has D hr1 (pa_cons (pv 0) pa_nil)))
    (pss_cons (ps_expr (pe_has W hr1 (pa_cons (pv 1) pa_nil)))
    (pss_cons (ps_expr (pe_has W hr1 (pa_cons (pv 2) pa_nil)))
    (pss_cons (ps_set (i := 3) scDiffer.nd rfl (Or.inl rfl) (pe_has U hr1 (pa_cons (pe_lst (pa_cons (pe_tup (pa_cons pe_int (pa_cons (pv 1) (pa_cons (pv 2) pa_nil)))) pa_nil)) pa_nil)))
    (pss_cons (ps_set (i := 4) scDiffer.nd rfl (Or.inl rfl) pe_int)
    (pss_cons (ps_for PassesOwn.never rfl (pi_range1 rfl mR (pa_cons (pv 0) pa_nil)) (pg_name (i := 5) scDiffer.nd rfl (Or.inl rfl))
      (pss_cons (ps_set (i := 4) scDiffer.nd rfl (Or.inl rfl) (pe_op op_add (pv 4) (pe_callB call_len_seq rfl mL PySem.boot_len (pa_cons (pv 3) pa_nil))))
      (pss_one (ps_set (i := 3) scDiffer.nd rfl (Or.inl rfl) (pe_has U hr1 (pa_cons (pe_has HV hr (pa_cons (pv 3) pa_nil)) pa_nil))))))
    (pss_one (ps_ret (pe_tup (pa_cons (pe_comp (cl := []) (N := ["key", "first", "second"]) (fr := [none, none, none]) rfl
      (block_none rfl (by decide +kernel) (by decide +kernel) (by show ∀ p ∈ relS _ (defScope sDiffer), _; decide +kernel)) rfl trivial
      (pi_list (pv 3))
      (fun _ _ _ _ _ => pg_tupK (n := 3) rfl (pgs_cons (pg_name (i := 0) (show (["key", "first", "second"] : List Str).Nodup by decide) rfl (Or.inl rfl)) (pgs_cons (pg_name (i := 1) (show (["key", "first", "second"] : List Str).Nodup by decide) rfl (Or.inl rfl)) (pgs_cons (pg_name (i := 2) (show (["key", "first", "second"] : List Str).Nodup by decide) rfl (Or.inl rfl)) pgs_nil))))
      (fun _ _ _ _ _ => pifs_nil)
      (fun _ _ _ _ _ => pe_tup (pa_cons (pv 0) (pa_cons (pe_has B hr1 (pa_cons (pv 1) pa_nil)) (pa_cons (pe_has B hr1 (pa_cons (pv 2) pa_nil)) pa_nil))))) (pa_cons (pv 4) pa_nil)))))))))), ?_⟩
  refine ⟨_, rfl, d, rfl, hd, ?_⟩
  refine ⟨_, rfl, a, rfl, ?_⟩
  refine ⟨_, rfl, b, rfl, ?_⟩
  refine ⟨_, rfl, _, rfl, tri3, fun t0 ht0 => ?_⟩
  have S1 := Same.upd (o := .tup [.int 0, .int (a : Int), .int (b : Int)]) ht0
  refine ⟨by show 1 ≤ sizeLine; decide, fun l0 hl0 => ?_⟩
  have S2 := Same.upd (o := .lst [.ref t0]) hl0
  have e1 := S2 _ _ (upd_same (H := H) (a := t0) (o := .tup [.int 0, .int (a : Int), .int (b : Int)]))
  refine ⟨l0, [(t0, 0, a, b)], rfl, SqL.of upd_same, fun u hu => by rw [List.mem_singleton.mp hu]; exact e1, by show 1 < 1000; decide, fun p us H3 hS3 _ hp hU hB => ?_⟩
  have hSz := (S1.trans S2).trans hS3
  have hB0 : bareT us = diffFrom 0 (downs 0 [a]) (downs 0 [b]) := hB.trans (unlike_one a b)
  have bd : ∀ i (us : List TriN), i ≤ 8 → bareT us = diffFrom 0 (downs i [a]) (downs i [b]) → us.length ≤ 256 ∧ ∀ t ∈ bareT us, t.1 < 2 ^ 20 ∧ t.2.1 < 2 ^ pl ∧ t.2.2 < 2 ^ pl := by
    intro i us hi e
    have hl1 : (downs i [a]).length = 2 ^ i := by rw [len_downs]; exact Nat.mul_one _
    have h256 : 2 ^ i ≤ 2 ^ 8 := Nat.pow_le_pow_right (by decide) hi
    have hlen := diff_len 0 (downs i [a]) (downs i [b])
    rw [← e, len_bareT, hl1] at hlen
    refine ⟨by omega, fun t ht => ?_⟩
    rw [e] at ht
    obtain ⟨m1, m2, m3⟩ := diff_mem _ _ _ _ ht
    rw [hl1] at m3
    refine ⟨by omega, downs_lt (k := pl) (fun x hx => by rw [List.mem_singleton.mp hx]; exact ha) i _ m1, downs_lt (k := pl) (fun x hx => by rw [List.mem_singleton.mp hx]; exact hb) i _ m2⟩
  refine ⟨_, rfl, _, rfl, by omega, by omega, ?_⟩
  rw [Int.toNat_natCast]
  refine for_range (n := d) (fun i σ H' => ∃ (t5 : Option V) (p : Addr) (us : List TriN), σ = [some (.int (d : Int)), some (.int (a : Int)), some (.int (b : Int)), some (.ref p), some (.int ((openN a b i : Nat) : Int)), t5] ∧ Same H H' ∧ H' p = some (.lst (refsT us)) ∧ TrisN H' us ∧ bareT us = diffFrom 0 (downs i [a]) (downs i [b])) ⟨_, p, us, rfl, hSz, hp, hU, hB0⟩ ?_ ?_
  · rintro i σ H' hi ⟨t5, p, us, rfl, hS, hp, hU, hB⟩
    obtain ⟨b1, b2⟩ := bd i us (by omega) hB
    refine ⟨_, rfl, _, rfl, p, _, rfl, .inl (SqL.of hp), _, _, rfl, rfl, ?_⟩
    refine ⟨_, rfl, p, us, rfl, SqL.of hp, hU, b1, b2, fun p2 us2 H2 hS2 _ hp2 hU2 hB2 => ?_⟩
    have l2 : us2.length < 1000 := by
      have e := congrArg List.length hB2
      rw [len_bareT, len_halves, len_bareT] at e
      omega
    refine ⟨p2, us2, rfl, SqL.of hp2, hU2, l2, fun p3 us3 H4 hS4 _ hp3 hU3 hB3 => ?_⟩
    refine ⟨some (.int (0 + (i : Int))), p3, us3, ?_, (hS.trans hS2).trans hS4, hp3, hU3, ?_⟩
    · have e : ((openN a b i : Nat) : Int) + ((refsT us).length : Int) = ((openN a b (i + 1) : Nat) : Int) := by
        show _ = ((openN a b i + (diffFrom 0 (downs i [a]) (downs i [b])).length : Nat) : Int)
        rw [← hB, len_bareT, len_refsT]
        omega
      rw [← e]
      rfl
    · rw [hB3, hB2, hB, unlike_halves, downs_succ, downs_succ]
  · rintro σ H' ⟨t5, p, us, rfl, hS, hp, hU, hB⟩
    obtain ⟨b1, b2⟩ := bd d us hd hB
    dsimp only [tRet, tTup, tCons]
    refine comp_listV (a := p) (xs := refsT us) ?_ (SqL.of hp) us.length (by omega) (fun i ys τ H5 => Same H' H5 ∧ ∃ (t0 t1 t2 : Option V) (ws : List DifN), τ = [t0, t1, t2] ∧ ys = refsT ws ∧ ws.length = i ∧ DifsN H5 ws ∧ bareT ws = bareT (us.take i)) ?_ ?_ ?_ ?_
    · rfl
    · exact ⟨Same.refl _, _, _, _, [], rfl, rfl, rfl, fun u hu => (nomatch hu), rfl⟩
    · rintro i ys τ H5 ⟨_, _, _, _, ws, _, rfl, hz, _⟩
      rw [len_refsT]; omega
    · rintro i ys τ H5 hi ⟨hS5, t0, t1, t2, ws, rfl, rfl, hz, hW, hWB⟩
      have hei : us[i]? = some us[i] := List.getElem?_eq_getElem hi
      have hem : us[i] ∈ us := List.getElem_mem hi
      generalize us[i] = v at hei hem
      have hp5 := hS5 _ _ hp
      refine ⟨⟨_, _, SqL.of hp5, refsT_at hei⟩, fun y H6 hy => ?_⟩
      obtain ⟨g1, g2⟩ := hy
      have g3 : y = .ref v.1 := by
        have := g2 _ (SqL.of hp5)
        rw [refsT_at hei] at this
        exact (Option.some.inj this).symm
      subst g1 g3
      refine ⟨v.1, _, rfl, SqT.of (hS5 _ _ (hU v hem)), rfl, _, _, rfl, _, _, rfl, _, _, rfl, rfl, ?_⟩
      refine tYes_if ?_
      refine ⟨_, rfl, _, rfl, v.2.2.1, rfl, ?_⟩
      refine ⟨_, rfl, v.2.2.2, rfl, ?_⟩
      refine ⟨tri3, fun t ht => ?_⟩
      have S6 := Same.upd (o := .tup [.int (v.2.1 : Int), valN v.2.2.1, valN v.2.2.2]) ht
      refine ⟨hS5.trans S6, _, _, _, ws ++ [(t, v.2)], rfl, ?_, ?_, ?_, ?_⟩
      · rw [refsT_app]; rfl
      · rw [List.length_append, hz]; rfl
      · intro u hu
        rcases List.mem_append.mp hu with z | z
        · exact S6 _ _ (hW u z)
        · rw [List.mem_singleton.mp z]; exact upd_same
      · rw [take_one hei, bareT_app, bareT_app, hWB]; rfl
    · rintro ys τ H5 ⟨hS5, t0, t1, t2, ws, rfl, rfl, hz, hW, hWB⟩
      refine ⟨⟨_, SqL.of (hS5 _ _ hp), by rw [len_refsT]; exact Nat.le_refl _⟩, fun l hl => ?_⟩
      rw [List.take_length] at hWB
      have S6 := Same.upd (o := .lst (refsT ws)) hl
      refine ⟨_, rfl, by show 2 ≤ sizeLine; decide, fun t ht => ?_⟩
      have S7 := Same.upd (o := .tup [.ref l, .int ((openN a b d : Nat) : Int)]) ht
      exact q t l ws _ (((hS.trans hS5).trans S6).trans S7) upd_same (S7 _ _ upd_same) (hW.same (S6.trans S7)) (hWB.trans hB)
end
end Ts
namespace L2
open PySem PySem.Spec PyProof.Rows
theorem star_const {c : Const} {j : Nat} {pos : Pos} {es : List Expr} {env : Env} : starEach (.Constant c j pos :: es) env = (false, eval (.Constant c j pos) env) :: starEach es env := by rfl
theorem pa_int {X : Cx} {i : Int} {j : Nat} {pos : Pos} {es : List Expr} {t : TA} (h : PA X es t) : PA X (.Constant (.int i) j pos :: es) (tCons (tC (.int i)) t) := pa_cons pe_int h star_const
end L2
namespace Ts
open PySem L2
theorem cut_all (ns : List Int) (h : ns.length ≤ 63) : cutV (ns.map V.int) none (some 500) = ns.map V.int := by
  unfold cutV
  have e : HT.sIx (ns.map V.int).length (ns.map V.int).length (some (500 : Int)) = (ns.map V.int).length := by
    have := HT.sIx_nat (ns.map V.int).length (ns.map V.int).length 500
    rw [List.length_map] at this ⊢
    have q : ((500 : Nat) : Int) = (500 : Int) := rfl
    rw [q] at this
    rw [this]
    omega
  rw [e, HT.sIx_none, Nat.sub_zero, List.drop_zero, List.take_length]
inductive spLaw (K : PySem.W.Frag) (vs : List V) (H : Hp) (Q : VK) (E_ : XK) : Prop where
  | mk (a : Addr) (ns : List Int) (f0 : vs = [.ref a]) (f1 : SqL K H a (ns.map V.int)) (f2 : ns.length ≤ 63) (f3 : ∀ H', Q (.bl true) H') : spLaw K vs H Q E_
end Ts
namespace Ts
open PySem L2
def HasX (P : Program) (w : World) (K : PySem.W.Frag) (mg : Str → Option Value) (base : Heap) (x : Str) (k : Nat) (ps : List Str) (sp : Sp) : Prop :=
  ∃ g gd, FnOk P w K mg base (CXE P w) k g gd ps sp ∧ Binds K gd ps [] ∧ PySem.W.keepIn K (.ref g) = true ∧ mg x = some (.ref g)
theorem Fun.okX {P : Program} {w : World} {K : PySem.W.Frag} {mg : Str → Option Value} {base : Heap} {CX : CXT} {x qual : Str} {st : Stmt} {f : Addr} {fd : FuncData} {N ps : List Str} {k : Nat} {sp : Sp} (F : Fun K x qual st f fd) (S : FnScope N ps (defScope st)) (len : ∀ vs H Q E, sp vs H Q E → vs.length = ps.length)
    (hbody : ∀ (cdv : Value) (A : Around) (outer : List Env) (s : Shared) (H : Hp) (vs : List V) (Q : VK) (E : XK), Room k (A.deeper (PyProof.Rows.envOfC qual (defScope st) s.heap.objs.size f cdv)) → sp vs H Q E →
      ∃ t, PSs (cxOf CX P w K mg base N qual (defScope st) f cdv A outer s H E) (defBody st) t ∧ t { nx := fun _ H' => Q .non H', rt := Q } (start N vs) H) : FnOk P w K mg base CX (k + 1) f fd ps sp := by
  obtain ⟨oc, od, kV, doc, pm, an, cdv, ct, osl, rfl, lk, hcd⟩ := F.ex
  exact fn_of lk hcd S len fun A outer s H vs Q E hr hsp => hbody cdv A outer s H vs Q E hr hsp
end Ts
namespace Ts
open PySem L2
theorem pe_hasX {X : Cx} {x : Str} {k : Nat} {ps : List Str} {sp : Sp} {e : Expr} {es : List Expr} {t : TA} {p pos : Pos} {E : XK} (h : HasX X.prog X.w X.K X.mg X.base x k ps sp) (hr : Room k X.A) (hx : Passes (CXE X.prog X.w) X E) (ha : PA X (e :: es) t) (hg : Gl X x := by rfl)
    (hdb : (x == ("__debug__" : Str)) = false := by decide) (he : starEach (e :: es) X.env = (false, eval e X.env) :: starEach es X.env := by rfl) (hpl : (backTo pos (starEach es X.env)).any (·.1) = false := by rfl) :
    PE X (.Call (.Name x p) (e :: es) [] pos) (tCall sp [] E t) := by
  obtain ⟨g, gd, G, bG, kG, mG⟩ := h
  exact pe_call G hr hg mG kG bG .nil hx ha hdb he hpl
abbrev RowI := Addr × Int × Int
def refsI (ts : List RowI) : List V := ts.map fun r => V.ref r.1
def RowsI (H : Hp) (ts : List RowI) : Prop := ∀ r ∈ ts, H r.1 = some (.tup [.int r.2.1, .int r.2.2])
theorem RowsI.same {H H' : Hp} {ts : List RowI} (h : RowsI H ts) (e : Same H H') : RowsI H' ts := fun r hr => e _ _ (h r hr)
theorem refsI_get {ts : List RowI} {i : Nat} {x : V} (h : (refsI ts)[i]? = some x) : ∃ r, ts[i]? = some r ∧ x = .ref r.1 ∧ r ∈ ts := by
  unfold refsI at h
  rw [List.getElem?_map] at h
  cases q : ts[i]? with
  | none => rw [q] at h; cases h
  | some r => rw [q] at h; cases h; exact ⟨r, rfl, rfl, List.mem_of_getElem? q⟩
def bareI (ts : List RowI) : List (Int × Int) := ts.map (·.2)
def metI (ts : List RowI) : List (Key × V) := ts.map fun r => (Sum.inl r.2.1, V.bl true)
theorem metI_val {ts : List RowI} {k : Int} : (valV (metI ts) (Sum.inl k)).isSome = true ↔ k ∈ ts.map (·.2.1) := by
  constructor
  · intro h
    obtain ⟨v, q⟩ := Option.isSome_iff_exists.mp h
    have m := valV_in q
    unfold metI at m
    rw [List.map_map] at m
    obtain ⟨r, hr, e⟩ := List.mem_map.mp m
    exact List.mem_map.mpr ⟨r, hr, Sum.inl.inj e⟩
  · intro h
    cases q : valV (metI ts) (Sum.inl k) with
    | some v => rfl
    | none =>
      exfalso
      induction ts with
      | nil => cases h
      | cons r rs ih =>
        by_cases e : r.2.1 = k
        · have : valV (metI (r :: rs)) (Sum.inl k) = some (V.bl true) := by
            rw [← e]
            unfold metI
            rw [List.map_cons]
            simp [valV]
          rw [q] at this; cases this
        · rw [List.map_cons, List.mem_cons] at h
          rcases h with z | z
          · exact e z.symm
          · refine ih z ?_
            have : valV (metI (r :: rs)) (Sum.inl k) = valV (metI rs) (Sum.inl k) := by
              unfold metI
              rw [List.map_cons]
              have ne : (Sum.inl r.2.1 : Key) ≠ Sum.inl k := fun y => e (Sum.inl.inj y)
              simp [valV, ne]
            rw [← this]; exact q
def KeysOk (c : Int) (xs : List (Int × Int)) : Prop := (∀ x ∈ xs, 0 ≤ x.1 ∧ x.1 < c) ∧ (xs.map (·.1)).Nodup
def ValsOk (xs : List (Int × Int)) : Prop := ∀ x ∈ xs, 0 ≤ x.2
def oV : Option Int → V
  | none => .non
  | some i => .int i
inductive spDepthX (C : Addr) (vs : List V) (H : Hp) (Q : VK) (E : XK) : Prop where
  | mk (d : Int) (f0 : vs = [.int d]) (f1 : (0 ≤ d ∧ d ≤ 8 → Q .non H)) (f2 : (¬ (0 ≤ d ∧ d ≤ 8) → E (.ref C) none H)) : spDepthX C vs H Q E
inductive spCKeyX (C : Addr) (vs : List V) (H : Hp) (Q : VK) (E : XK) : Prop where
  | mk (d : Nat) (k : Int) (f0 : vs = [.int (d : Int), .int k]) (f1 : d ≤ 8) (f2 : (0 ≤ k ∧ k < ((2 ^ d : Nat) : Int) → Q .non H)) (f3 : (¬ (0 ≤ k ∧ k < ((2 ^ d : Nat) : Int)) → E (.ref C) none H)) : spCKeyX C vs H Q E
inductive spCValX (C : Addr) (vs : List V) (H : Hp) (Q : VK) (E : XK) : Prop where
  | mk (v : Int) (f0 : vs = [.int v]) (f1 : (0 ≤ v → Q .non H)) (f2 : (v < 0 → E (.ref C) none H)) : spCValX C vs H Q E
inductive spCValNX (C : Addr) (vs : List V) (H : Hp) (Q : VK) (E : XK) : Prop where
  | mk (x : Option Int) (f0 : vs = [oV x]) (f1 : ((∀ i, x = some i → 0 ≤ i) → Q .non H)) (f2 : (∀ i, x = some i → i < 0 → E (.ref C) none H)) : spCValNX C vs H Q E
inductive spCNumsX (K : PySem.W.Frag) (C : Addr) (vs : List V) (H : Hp) (Q : VK) (E : XK) : Prop where
  | mk (l : Addr) (ns : List Int) (f0 : vs = [.ref l]) (f1 : SqL K H l (ns.map V.int)) (f2 : ((∀ n ∈ ns, 0 ≤ n) → Q .non H)) (f3 : (¬ (∀ n ∈ ns, 0 ≤ n) → E (.ref C) none H)) : spCNumsX K C vs H Q E
inductive spCSpanX (CK CS : Addr) (vs : List V) (H : Hp) (Q : VK) (E : XK) : Prop where
  | mk (d : Nat) (fi l : Int) (f0 : vs = [.int (d : Int), .int fi, .int l]) (f1 : d ≤ 8) (f2 : ((0 ≤ fi ∧ fi < ((2 ^ d : Nat) : Int)) ∧ (0 ≤ l ∧ l < ((2 ^ d : Nat) : Int)) ∧ fi ≤ l → Q .non H)) (f3 : (¬ ((0 ≤ fi ∧ fi < ((2 ^ d : Nat) : Int)) ∧ (0 ≤ l ∧ l < ((2 ^ d : Nat) : Int))) → E (.ref CK) none H)) (f4 : ((0 ≤ fi ∧ fi < ((2 ^ d : Nat) : Int)) ∧ (0 ≤ l ∧ l < ((2 ^ d : Nat) : Int)) → l < fi → E (.ref CS) none H)) : spCSpanX CK CS vs H Q E
inductive spCKeysX (K : PySem.W.Frag) (C : Addr) (vs : List V) (H : Hp) (Q : VK) (E : XK) : Prop where
  | mk (d : Nat) (l : Addr) (ts : List RowI) (f0 : vs = [.int (d : Int), .ref l]) (f1 : d ≤ 8) (f2 : SqL K H l (refsI ts)) (f3 : RowsI H ts) (f4 : ts.length ≤ 1000) (f5 : (KeysOk ((2 ^ d : Nat) : Int) (bareI ts) → ∀ H', Same H H' → Q .non H')) (f6 : (¬ KeysOk ((2 ^ d : Nat) : Int) (bareI ts) → ∀ H', Same H H' → E (.ref C) none H')) : spCKeysX K C vs H Q E
inductive spCRowsX (K : PySem.W.Frag) (CK CN : Addr) (vs : List V) (H : Hp) (Q : VK) (E : XK) : Prop where
  | mk (d : Nat) (l : Addr) (ts : List RowI) (f0 : vs = [.int (d : Int), .ref l]) (f1 : d ≤ 8) (f2 : SqL K H l (refsI ts)) (f3 : RowsI H ts) (f4 : ts.length ≤ 1000) (f5 : (KeysOk ((2 ^ d : Nat) : Int) (bareI ts) → ValsOk (bareI ts) → ∀ H', Same H H' → Q .non H')) (f6 : (¬ KeysOk ((2 ^ d : Nat) : Int) (bareI ts) → ∀ H', Same H H' → E (.ref CK) none H')) (f7 : (KeysOk ((2 ^ d : Nat) : Int) (bareI ts) → ¬ ValsOk (bareI ts) → ∀ H', Same H H' → E (.ref CN) none H')) : spCRowsX K CK CN vs H Q E
theorem one_line : (1 : Nat) ≤ sizeLine := by decide
section
variable {P : Program} {w : World} {K : PySem.W.Frag} {mg : Str → Option Value} {base : Heap} {f : Addr} {fd : FuncData} {C : Addr} {bm : List Value} {newId initId Bn : String}
theorem ok_depthX (F : Fun K "check_depth" "check_depth" sDepth f fd) {tk : Tok} (hG : mg "GREATEST_DEPTH" = some (.int 8 tk)) (O : PyProof.Rows.OwnCls "BadDepth" C bm newId mg base) (FB : ExcBaseFacts Bn newId initId bm) : FnOk P w K mg base (CXE P w) 1 f fd ["depth"] (spDepthX C) := by
  refine Fun.okX F scDepth (fun vs H Q E h => ?_) (fun cdv A outer s H vs Q E hr h => ?_)
  · obtain ⟨d, rfl, _⟩ := h
    rfl
  obtain ⟨d, rfl, q1, q2⟩ := h
  refine ⟨_, pss_one (ps_if (PW.pt (pw_or (pt_cmpR op_lt (pv 0) pe_int (nomark _)) (pw_or1 (pt_cmpR op_gt (pv 0) (pe_glob (v := .int 8) rfl hG ⟨tk, rfl⟩) (nomark _))))) (pss_one (ps_raise O FB rfl rfl (pa_cons pe_str pa_nil) rfl rfl rfl (fun _ _ z => z))) pss_nil), ?_⟩
  refine ⟨_, rfl, _, _, rfl, rfl, _, rfl, ite3 (fun e => ⟨one_line, q2 (by omega)⟩) (fun e => ?_)⟩
  exact ⟨_, rfl, _, _, rfl, rfl, _, rfl, ite3 (fun e2 => ⟨one_line, q2 (by omega)⟩) (fun e2 => q1 (by omega))⟩
theorem ok_ckeyX (F : Fun K "check_key" "check_key" sCKey f fd) (CO : Has P w K mg base "count_of_places" 1 ["depth"] spCount) (O : PyProof.Rows.OwnCls "BadKey" C bm newId mg base) (FB : ExcBaseFacts Bn newId initId bm) : FnOk P w K mg base (CXE P w) 2 f fd ["depth", "key"] (spCKeyX C) := by
  refine Fun.okX F scCKey (fun vs H Q E h => ?_) (fun cdv A outer s H vs Q E hr h => ?_)
  · obtain ⟨d, k, rfl, _⟩ := h
    rfl
  obtain ⟨d, k, rfl, hd, q1, q2⟩ := h
  refine ⟨_, pss_one (ps_if (PW.pt (pw_or (pt_cmpR op_lt (pv 1) pe_int (nomark _)) (pw_or1 (pt_cmpR op_ge (pv 1) (pe_has CO hr (pa_cons (pv 0) pa_nil)) (nomark _))))) (pss_one (ps_raise O FB rfl rfl (pa_cons pe_str pa_nil) rfl rfl rfl (fun _ _ z => z))) pss_nil), ?_⟩
  refine ⟨_, rfl, _, _, rfl, rfl, _, rfl, ite3 (fun e => ⟨one_line, q2 (by omega)⟩) (fun e => ?_)⟩
  exact ⟨_, rfl, _, rfl, d, 2 ^ d, rfl, hd, rfl, _, _, rfl, rfl, _, rfl, ite3 (fun e2 => ⟨one_line, q2 (by omega)⟩) (fun e2 => q1 (by omega))⟩
theorem ok_cvalX (F : Fun K "check_value" "check_value" sCVal f fd) (O : PyProof.Rows.OwnCls "BadNumber" C bm newId mg base) (FB : ExcBaseFacts Bn newId initId bm) : FnOk P w K mg base (CXE P w) 1 f fd ["value"] (spCValX C) := by
  refine Fun.okX F scCVal (fun vs H Q E h => ?_) (fun cdv A outer s H vs Q E hr h => ?_)
  · obtain ⟨v, rfl, _⟩ := h
    rfl
  obtain ⟨v, rfl, q1, q2⟩ := h
  refine ⟨_, pss_one (ps_if (pt_cmpR op_lt (pv 0) pe_int (nomark _)) (pss_one (ps_raise O FB rfl rfl (pa_cons pe_str pa_nil) rfl rfl rfl (fun _ _ z => z))) pss_nil), ?_⟩
  exact ⟨_, rfl, _, _, rfl, rfl, _, rfl, ite3 (fun e => ⟨one_line, q2 e⟩) (fun e => q1 (by omega))⟩
theorem ok_ctopX (F : Fun K "check_top" "check_top" sCTop f fd) (O : PyProof.Rows.OwnCls "BadNumber" C bm newId mg base) (FB : ExcBaseFacts Bn newId initId bm) : FnOk P w K mg base (CXE P w) 1 f fd ["top"] (spCValX C) := by
  refine Fun.okX F scCTop (fun vs H Q E h => ?_) (fun cdv A outer s H vs Q E hr h => ?_)
  · obtain ⟨v, rfl, _⟩ := h
    rfl
  obtain ⟨v, rfl, q1, q2⟩ := h
  refine ⟨_, pss_one (ps_if (pt_cmpR op_lt (pv 0) pe_int (nomark _)) (pss_one (ps_raise O FB rfl rfl (pa_cons pe_str pa_nil) rfl rfl rfl (fun _ _ z => z))) pss_nil), ?_⟩
  exact ⟨_, rfl, _, _, rfl, rfl, _, rfl, ite3 (fun e => ⟨one_line, q2 e⟩) (fun e => q1 (by omega))⟩
theorem ok_cvalnX (F : Fun K "check_value_or_none" "check_value_or_none" sCValN f fd) (W : HasX P w K mg base "check_value" 1 ["value"] (spCValX C)) : FnOk P w K mg base (CXE P w) 2 f fd ["value"] (spCValNX C) := by
  refine Fun.okX F scCValN (fun vs H Q E h => ?_) (fun cdv A outer s H vs Q E hr h => ?_)
  · obtain ⟨x, rfl, _⟩ := h
    rfl
  obtain ⟨x, rfl, q1, q2⟩ := h
  refine ⟨_, pss_one (ps_if (pt_cmp (pc_notN (pv 0))) (pss_one (ps_expr (pe_hasX W hr (pass_on rfl rfl rfl (fun _ _ _ z => z) (fun _ _ z => z)) (pa_cons (pv 0) pa_nil)))) pss_nil), ?_⟩
  cases x with
  | none => exact ⟨_, rfl, _, rfl, iteB rfl (q1 fun i z => by cases z)⟩
  | some i => exact ⟨_, rfl, _, rfl, iteB1 rfl ⟨_, rfl, i, rfl, fun e => q1 fun j z => by cases z; exact e, fun e => q2 i rfl e⟩⟩
theorem ok_cnumsX (F : Fun K "check_numbers" "check_numbers" sCNums f fd) (O : PyProof.Rows.OwnCls "BadNumber" C bm newId mg base) (FB : ExcBaseFacts Bn newId initId bm) : FnOk P w K mg base (CXE P w) 1 f fd ["numbers"] (spCNumsX K C) := by
  refine Fun.okX F scCNums (fun vs H Q E h => ?_) (fun cdv A outer s H vs Q E hr h => ?_)
  · obtain ⟨l, ns, rfl, _⟩ := h
    rfl
  obtain ⟨l, ns, rfl, hl, q1, q2⟩ := h
  refine ⟨_, pss_one (ps_for PassesOwn.leaving rfl (pi_list (pv 0)) (pg_name (i := 1) scCNums.nd rfl (Or.inl rfl)) (pss_one (ps_if (pt_cmpR op_lt (pv 1) pe_int (nomark _)) (pss_one (ps_raise O FB rfl rfl (pa_cons pe_str pa_nil) rfl rfl rfl (fun _ _ z => z))) pss_nil))), ?_⟩
  refine ⟨_, rfl, l, rfl, ⟨_, hl⟩, ?_⟩
  refine for_list (xs := ns.map V.int) (fun i σ H' => H' = H ∧ (∀ n ∈ ns.take i, 0 ≤ n) ∧ ∃ t1 : Option V, σ = [some (.ref l), t1]) ⟨rfl, (fun n hn => nomatch hn), _, rfl⟩ ?_ ?_ ?_
  · rintro i σ H' _ ⟨rfl, _⟩
    exact hl
  · rintro i x σ H' hx ⟨rfl, hp, t1, rfl⟩
    rw [List.getElem?_map] at hx
    obtain ⟨n, hn, rfl⟩ := Option.map_eq_some_iff.mp hx
    have hm := List.mem_of_getElem? hn
    refine ⟨_, rfl, _, _, rfl, rfl, _, rfl, ite3 (fun e => ⟨one_line, q2 fun z => ?_⟩) (fun e => ?_)⟩
    · have := z n hm; omega
    · refine ⟨rfl, fun m hm' => ?_, some (.int n), rfl⟩
      rw [take_one hn] at hm'
      rcases List.mem_append.mp hm' with y | y
      · exact hp m y
      · rw [List.mem_singleton.mp y]; omega
  · rintro σ H' ⟨rfl, hp, t1, rfl⟩
    rw [List.length_map, List.take_length] at hp
    exact q1 hp
theorem ok_cspanX {CK CS : Addr} (F : Fun K "check_span" "check_span" sCSpan f fd) (CC : HasX P w K mg base "check_key" 2 ["depth", "key"] (spCKeyX CK)) (O : PyProof.Rows.OwnCls "BadSpan" CS bm newId mg base) (FB : ExcBaseFacts Bn newId initId bm) : FnOk P w K mg base (CXE P w) 3 f fd ["depth", "first", "last"] (spCSpanX CK CS) := by
  refine Fun.okX F scCSpan (fun vs H Q E h => ?_) (fun cdv A outer s H vs Q E hr h => ?_)
  · obtain ⟨d, fi, l, rfl, _⟩ := h
    rfl
  obtain ⟨d, fi, l, rfl, hd, q1, q2, q3⟩ := h
  refine ⟨_, pss_cons (ps_expr (pe_hasX CC hr (pass_on rfl rfl rfl (fun _ _ _ z => z) (fun _ _ z => z)) (pa_cons (pv 0) (pa_cons (pv 1) pa_nil))))
    (pss_cons (ps_expr (pe_hasX CC hr (pass_on rfl rfl rfl (fun _ _ _ z => z) (fun _ _ z => z)) (pa_cons (pv 0) (pa_cons (pv 2) pa_nil))))
    (pss_one (ps_if (pt_cmpR op_lt (pv 2) (pv 1) (nomark _)) (pss_one (ps_raise O FB rfl rfl (pa_cons pe_str pa_nil) rfl rfl rfl (fun _ _ z => z))) pss_nil))), ?_⟩
  refine ⟨_, rfl, _, rfl, d, fi, rfl, hd, fun h1 => ?_, fun h1 => q2 fun z => h1 z.1⟩
  refine ⟨_, rfl, _, rfl, d, l, rfl, hd, fun h2 => ?_, fun h2 => q2 fun z => h2 z.2⟩
  exact ⟨_, rfl, _, rfl, _, _, rfl, rfl, _, rfl, ite3 (fun e => ⟨one_line, q3 ⟨h1, h2⟩ e⟩) (fun e => q1 ⟨h1, h2, by omega⟩)⟩
theorem ok_ckeysX (F : Fun K "check_keys_of_rows" "check_keys_of_rows" sCKeys f fd) (CC : HasX P w K mg base "check_key" 2 ["depth", "key"] (spCKeyX C)) (O : PyProof.Rows.OwnCls "BadKey" C bm newId mg base) (FB : ExcBaseFacts Bn newId initId bm) : FnOk P w K mg base (CXE P w) 3 f fd ["depth", "rows"] (spCKeysX K C) := by
  refine Fun.okX F scCKeys (fun vs H Q E h => ?_) (fun cdv A outer s H vs Q E hr h => ?_)
  · obtain ⟨d, l, ts, rfl, _⟩ := h
    rfl
  obtain ⟨d, l, ts, rfl, hd, hl, hR, h1000, q1, q2⟩ := h
  refine ⟨_, pss_cons (ps_set (i := 2) scCKeys.nd rfl (Or.inl rfl) pe_dnewK)
    (pss_one (ps_for PassesOwn.leaving rfl (pi_list (pv 1)) (pg_name (i := 3) scCKeys.nd rfl (Or.inl rfl))
      (pss_cons (ps_set (i := 4) scCKeys.nd rfl (Or.inl rfl) (pe_ix ix_tup (pv 3) pe_int (fun _ _ => rfl)))
      (pss_cons (ps_expr (pe_hasX CC hr (pass_on rfl rfl rfl (fun _ _ _ z => z) (fun _ _ z => z)) (pa_cons (pv 0) (pa_cons (pv 4) pa_nil))))
      (pss_cons (ps_if (pt_cmp (pc_din (hu_of hr) (pv 4) (pv 2))) (pss_one (ps_raise O FB rfl rfl (pa_cons pe_str pa_nil) rfl rfl rfl (fun _ _ z => z))) pss_nil)
      (pss_one (ps_dput (hu_of hr) (pv 2) (pv 4) pe_bl rfl))))))), ?_⟩
  intro m hm
  have hS0 : Same H (upd H m (.dK [])) := Same.upd hm
  refine ⟨_, rfl, l, rfl, ⟨_, hS0.seq hl⟩, ?_⟩
  refine for_list (xs := refsI ts) (fun i σ H' => ∃ t3 t4 : Option V, σ = [some (.int (d : Int)), some (.ref l), some (.ref m), t3, t4] ∧ Same H H' ∧ H' m = some (.dK (metI (ts.take i))) ∧ KeysOk ((2 ^ d : Nat) : Int) (bareI (ts.take i))) ⟨_, _, rfl, hS0, upd_same, (fun x hx => nomatch hx), List.nodup_nil⟩ ?_ ?_ ?_
  · rintro i σ H' _ ⟨_, _, _, hS, _⟩
    exact hS.seq hl
  · rintro i x σ H' hx ⟨t3, t4, rfl, hS, hm', ok⟩
    obtain ⟨r, hr', rfl, hmem⟩ := refsI_get hx
    have hb : r.2 ∈ bareI ts := List.mem_map.mpr ⟨r, hmem, rfl⟩
    have ht := take_one hr'
    refine ⟨_, rfl, r.1, _, _, _, rfl, rfl, SqT.of (hS _ _ (hR r hmem)), atI_nat (j := 0) rfl, ?_⟩
    refine ⟨_, rfl, _, rfl, d, r.2.1, rfl, hd, fun hk => ?_, fun hk => q2 (fun z => hk (z.1 _ hb)) H' hS⟩
    refine ⟨_, rfl, _, rfl, m, _, rfl, DGet.k (k := Sum.inl r.2.1) hm', _, rfl, ?_⟩
    cases hv : valV (metI (ts.take i)) (Sum.inl r.2.1) with
    | some v =>
      refine iteB1 rfl ⟨one_line, q2 (fun z => ?_) H' hS⟩
      have hin : r.2.1 ∈ (ts.take i).map (·.2.1) := metI_val.mp (by rw [hv]; rfl)
      have nd := z.2
      have e : (bareI ts).map (·.1) = (ts.take i).map (·.2.1) ++ (r.2.1 :: (ts.drop (i + 1)).map (·.2.1)) := by
        have hi := (List.getElem?_eq_some_iff.mp hr').1
        have e1 : ts = ts.take i ++ r :: ts.drop (i + 1) := by
          have := List.take_append_drop i ts
          rw [List.drop_eq_getElem_cons hi, (List.getElem?_eq_some_iff.mp hr').2] at this
          exact this.symm
        unfold bareI
        rw [List.map_map]
        conv => lhs; rw [e1]
        rw [List.map_append, List.map_cons]
        rfl
      rw [e] at nd
      exact (List.nodup_append.mp nd).2.2 _ hin _ List.mem_cons_self rfl
    | none =>
      refine iteF ?_
      have hout : r.2.1 ∉ (ts.take i).map (·.2.1) := fun z => by
        have := metI_val.mpr z
        rw [hv] at this; cases this
      have hlen : (metI (ts.take i)).length < sizeLine := by
        unfold metI
        rw [List.length_map, List.length_take]
        exact small1000 (by omega)
      refine ⟨_, rfl, _, rfl, m, _, rfl, DPut.k (k := Sum.inl r.2.1) hm' hlen, _, _, rfl, hS.new hm, ?_, ?_⟩
      · rw [upd_same, putK_new _ hv, ht]
        unfold metI
        rw [List.map_append]; rfl
      · rw [ht]
        unfold bareI
        rw [List.map_append]
        refine ⟨fun x hx => ?_, ?_⟩
        · rcases List.mem_append.mp hx with y | y
          · exact ok.1 x y
          · rw [List.mem_singleton.mp y]; exact hk
        · rw [List.map_append, List.map_map]
          refine List.nodup_append.mpr ⟨by have := ok.2; unfold bareI at this; rwa [List.map_map] at this, List.nodup_cons.mpr ⟨by simp, List.nodup_nil⟩, fun a ha b hb' => ?_⟩
          have : b = r.2.1 := by simpa using hb'
          rw [this]
          intro z
          exact hout (z ▸ ha)
  · rintro σ H' ⟨_, _, _, hS, _, ok⟩
    unfold refsI at ok
    rw [List.length_map, List.take_length] at ok
    exact q1 ok H' hS
theorem ok_crowsX {CK CN : Addr} (F : Fun K "check_rows" "check_rows" sCRows f fd) (CC : HasX P w K mg base "check_keys_of_rows" 3 ["depth", "rows"] (spCKeysX K CK)) (W : HasX P w K mg base "check_value" 1 ["value"] (spCValX CN)) : FnOk P w K mg base (CXE P w) 4 f fd ["depth", "rows"] (spCRowsX K CK CN) := by
  refine Fun.okX F scCRows (fun vs H Q E h => ?_) (fun cdv A outer s H vs Q E hr h => ?_)
  · obtain ⟨d, l, ts, rfl, _⟩ := h
    rfl
  obtain ⟨d, l, ts, rfl, hd, hl, hR, h1000, q1, q2, q3⟩ := h
  have hr1 : Room 1 _ := hr.mono (by decide)
  refine ⟨_, pss_cons (ps_expr (pe_hasX CC hr (pass_on rfl rfl rfl (fun _ _ _ z => z) (fun _ _ z => z)) (pa_cons (pv 0) (pa_cons (pv 1) pa_nil))))
    (pss_one (ps_for PassesOwn.leaving rfl (pi_list (pv 1)) (pg_name (i := 2) scCRows.nd rfl (Or.inl rfl))
      (pss_one (ps_expr (pe_hasX W hr1 (pass_on rfl rfl rfl (fun _ _ _ z => z) (fun _ _ z => z)) (pa_cons (pe_ix ix_tup (pv 2) pe_int (fun _ _ => rfl)) pa_nil)))))), ?_⟩
  refine ⟨_, rfl, _, rfl, d, l, ts, rfl, hd, hl, hR, h1000, fun ok H1 hS1 => ?_, fun ok => q2 ok⟩
  refine ⟨_, rfl, l, rfl, ⟨_, hS1.seq hl⟩, ?_⟩
  refine for_list (xs := refsI ts) (fun i σ H' => H' = H1 ∧ ValsOk (bareI (ts.take i)) ∧ ∃ t2 : Option V, σ = [some (.int (d : Int)), some (.ref l), t2]) ⟨rfl, (fun x hx => nomatch hx), _, rfl⟩ ?_ ?_ ?_
  · rintro i σ H' _ ⟨rfl, _⟩
    exact hS1.seq hl
  · rintro i x σ H' hx ⟨rfl, vo, t2, rfl⟩
    obtain ⟨r, hr', rfl, hmem⟩ := refsI_get hx
    have hb : r.2 ∈ bareI ts := List.mem_map.mpr ⟨r, hmem, rfl⟩
    refine ⟨_, rfl, r.1, _, _, _, rfl, rfl, SqT.of (hS1 _ _ (hR r hmem)), atI_nat (j := 1) rfl, r.2.2, rfl, fun e => ?_, fun e => q3 ok (fun z => ?_) _ hS1⟩
    · refine ⟨rfl, ?_, some (.ref r.1), rfl⟩
      rw [take_one hr']
      unfold bareI
      rw [List.map_append]
      intro y hy
      rcases List.mem_append.mp hy with z | z
      · exact vo y z
      · rw [List.mem_singleton.mp z]; exact e
    · have := z _ hb; omega
  · rintro σ H' ⟨rfl, vo, t2, rfl⟩
    unfold refsI at vo
    rw [List.length_map, List.take_length] at vo
    exact q1 ok vo _ hS1
end
end Ts
namespace Ts
open PySem L2
inductive Wd where
  | done | depth | key | number | span | taken
deriving DecidableEq
structure Ec where
  D : Addr
  K : Addr
  N : Addr
  S : Addr
  T : Addr
def Ec.at (c : Ec) : Wd → Addr
  | .done => c.D
  | .depth => c.D
  | .key => c.K
  | .number => c.N
  | .span => c.S
  | .taken => c.T
def Bad (c : Ec) (H : Hp) (E : XK) (v : Wd) : Prop := ∀ H', Same H H' → E (.ref (c.at v)) none H'
def dOk (d : Int) : Prop := 0 ≤ d ∧ d ≤ 8
def kOk (d k : Int) : Prop := 0 ≤ k ∧ k < ((2 ^ d.toNat : Nat) : Int)
def xOk (x : Option Int) : Prop := ∀ i, x = some i → 0 ≤ i
def nsOk (ns : List Int) : Prop := ∀ n ∈ ns, 0 ≤ n
open Classical in
noncomputable def vTop (d : Int) (xs : List (Int × Int)) : Wd := if ¬ dOk d then .depth else if ¬ KeysOk ((2 ^ d.toNat : Nat) : Int) xs then .key else if ¬ ValsOk xs then .number else .done
open Classical in
noncomputable def vRowsOf (d t : Int) : Wd := if ¬ dOk d then .depth else if ¬ 0 ≤ t then .number else .done
open Classical in
noncomputable def vSlip (d : Int) (xs : List (Int × Int)) (k : Int) : Wd := if vTop d xs ≠ .done then vTop d xs else if ¬ kOk d k then .key else .done
open Classical in
noncomputable def vTaken (d k : Int) (x : Option Int) (ns : List Int) : Wd := if ¬ dOk d then .depth else if ¬ kOk d k then .key else if ¬ xOk x then .number else if ¬ nsOk ns then .number else .done
open Classical in
noncomputable def vMoved (d k : Int) (ns : List Int) (x y : Option Int) : Wd := if vTaken d k x ns ≠ .done then vTaken d k x ns else if ¬ xOk y then .number else .taken
open Classical in
noncomputable def vSpan (d : Int) (xs : List (Int × Int)) (fi l : Int) : Wd := if vTop d xs ≠ .done then vTop d xs else if ¬ (kOk d fi ∧ kOk d l) then .key else if l < fi then .span else .done
open Classical in
noncomputable def vIsSpan (d : Int) (xs : List (Int × Int)) (fi l : Int) (ns : List Int) : Wd := if vSpan d xs fi l ≠ .done then vSpan d xs fi l else if ¬ nsOk ns then .number else .done
open Classical in
noncomputable def vDiffer (d a b : Int) : Wd := if ¬ dOk d then .depth else if ¬ 0 ≤ a then .number else if ¬ 0 ≤ b then .number else .done
inductive spTopF (K : PySem.W.Frag) (c : Ec) (vs : List V) (H : Hp) (Q_ : VK) (E : XK) : Prop where
  | mk (d : Int) (l : Addr) (ts : List RowI) (f0 : vs = [.int d, .ref l]) (f1 : SqL K H l (refsI ts)) (f2 : RowsI H ts) (f3 : ts.length ≤ 1000) (f4 : vTop d (bareI ts) ≠ .done) (f5 : Bad c H E (vTop d (bareI ts))) : spTopF K c vs H Q_ E
inductive spRowsF (c : Ec) (vs : List V) (H : Hp) (Q_ : VK) (E : XK) : Prop where
  | mk (d t : Int) (f0 : vs = [.int d, .int t]) (f1 : vRowsOf d t ≠ .done) (f2 : Bad c H E (vRowsOf d t)) : spRowsF c vs H Q_ E
inductive spSlipF (K : PySem.W.Frag) (c : Ec) (vs : List V) (H : Hp) (Q_ : VK) (E : XK) : Prop where
  | mk (d : Int) (l : Addr) (ts : List RowI) (k : Int) (f0 : vs = [.int d, .ref l, .int k]) (f1 : SqL K H l (refsI ts)) (f2 : RowsI H ts) (f3 : ts.length ≤ 1000) (f4 : vSlip d (bareI ts) k ≠ .done) (f5 : Bad c H E (vSlip d (bareI ts) k)) : spSlipF K c vs H Q_ E
inductive spTakenF (K : PySem.W.Frag) (c : Ec) (vs : List V) (H : Hp) (Q_ : VK) (E : XK) : Prop where
  | mk (d t k : Int) (x : Option Int) (l : Addr) (ns : List Int) (f0 : vs = [.int d, .int t, .int k, oV x, .ref l]) (f1 : SqL K H l (ns.map V.int)) (f2 : vTaken d k x ns ≠ .done) (f3 : Bad c H E (vTaken d k x ns)) : spTakenF K c vs H Q_ E
inductive spMovedF (K : PySem.W.Frag) (c : Ec) (vs : List V) (H : Hp) (Q_ : VK) (E : XK) : Prop where
  | mk (d k : Int) (x y : Option Int) (l : Addr) (ns : List Int) (f0 : vs = [.int d, .int (-1), .int k, .ref l, oV x, oV y]) (f1 : SqL K H l (ns.map V.int)) (f2 : Bad c H E (vMoved d k ns x y)) : spMovedF K c vs H Q_ E
inductive spSpanF (K : PySem.W.Frag) (c : Ec) (vs : List V) (H : Hp) (Q_ : VK) (E : XK) : Prop where
  | mk (d : Int) (l : Addr) (ts : List RowI) (fi la : Int) (f0 : vs = [.int d, .ref l, .int fi, .int la]) (f1 : SqL K H l (refsI ts)) (f2 : RowsI H ts) (f3 : ts.length ≤ 1000) (f4 : vSpan d (bareI ts) fi la ≠ .done) (f5 : Bad c H E (vSpan d (bareI ts) fi la)) : spSpanF K c vs H Q_ E
inductive spIsSpanF (K : PySem.W.Frag) (c : Ec) (vs : List V) (H : Hp) (Q_ : VK) (E : XK) : Prop where
  | mk (d t : Int) (fi la : Int) (l b : Addr) (ts : List RowI) (ns : List Int) (f0 : vs = [.int d, .int t, .int fi, .int la, .ref l, .ref b]) (f1 : SqL K H l (refsI ts)) (f2 : RowsI H ts) (f3 : ts.length ≤ 1000) (f4 : SqL K H b (ns.map V.int)) (f5 : vIsSpan d (bareI ts) fi la ns ≠ .done) (f6 : Bad c H E (vIsSpan d (bareI ts) fi la ns)) : spIsSpanF K c vs H Q_ E
inductive spDifferF (c : Ec) (vs : List V) (H : Hp) (Q_ : VK) (E : XK) : Prop where
  | mk (d a b : Int) (f0 : vs = [.int d, .int a, .int b]) (f1 : vDiffer d a b ≠ .done) (f2 : Bad c H E (vDiffer d a b)) : spDifferF c vs H Q_ E
def spOr (a b : Sp) : Sp := fun vs H Q E => a vs H Q E ∨ b vs H Q E
theorem Bad.at {c : Ec} {H H' : Hp} {E : XK} {v u : Wd} (h : Bad c H E v) (e : v = u) (hS : Same H H') : E (.ref (c.at u)) none H' := by
  subst e
  exact h H' hS
section
variable {d k t : Int} {xs : List (Int × Int)}
theorem vTop1 (h : ¬ dOk d) : vTop d xs = .depth := if_pos h
theorem vTop2 (h : dOk d) (h2 : ¬ KeysOk ((2 ^ d.toNat : Nat) : Int) xs) : vTop d xs = .key := (if_neg (fun z => z h)).trans (if_pos h2)
theorem vTop3 (h : dOk d) (h2 : KeysOk ((2 ^ d.toNat : Nat) : Int) xs) (h3 : ¬ ValsOk xs) : vTop d xs = .number := (if_neg (fun z => z h)).trans ((if_neg (fun z => z h2)).trans (if_pos h3))
theorem vTop4 (h : dOk d) (h2 : KeysOk ((2 ^ d.toNat : Nat) : Int) xs) (h3 : ValsOk xs) : vTop d xs = .done := (if_neg (fun z => z h)).trans ((if_neg (fun z => z h2)).trans (if_neg (fun z => z h3)))
theorem vTop_done (h : vTop d xs = .done) : dOk d ∧ KeysOk ((2 ^ d.toNat : Nat) : Int) xs ∧ ValsOk xs := by
  by_cases a : dOk d
  · by_cases b : KeysOk ((2 ^ d.toNat : Nat) : Int) xs
    · by_cases e : ValsOk xs
      · exact ⟨a, b, e⟩
      · rw [vTop3 a b e] at h; cases h
    · rw [vTop2 a b] at h; cases h
  · rw [vTop1 a] at h; cases h
end
theorem nat_of {d : Int} (h : dOk d) : ∃ n : Nat, d = (n : Int) ∧ n ≤ 8 ∧ d.toNat = n := ⟨d.toNat, by have := h.1; omega, by have := h.1; have := h.2; omega, rfl⟩
section
variable {P : Program} {w : World} {K : PySem.W.Frag} {mg : Str → Option Value} {base : Heap} {f : Addr} {fd : FuncData} {c : Ec}
theorem fail_top (F : Fun K "top_of" "top_of" sTop f fd) (D : HasX P w K mg base "check_depth" 1 ["depth"] (spDepthX c.D)) (R : HasX P w K mg base "check_rows" 4 ["depth", "rows"] (spCRowsX K c.K c.N)) : FnOk P w K mg base (CXE P w) 5 f fd ["depth", "rows"] (spTopF K c) := by
  refine Fun.okX F scTop (fun vs H Q E h => ?_) (fun cdv A outer s H vs Q E hr h => ?_)
  · obtain ⟨d, l, ts, rfl, _⟩ := h
    rfl
  obtain ⟨d, l, ts, rfl, hl, hR, h1000, hv, hB⟩ := h
  have hr1 : Room 1 _ := hr.mono (by decide)
  refine ⟨_, pss_cons (ps_expr (pe_hasX D hr1 (pass_on rfl rfl rfl (fun _ _ _ z => z) (fun _ _ z => z)) (pa_cons (pv 0) pa_nil)))
    (pss_cons (ps_expr (pe_hasX R hr (pass_on rfl rfl rfl (fun _ _ _ z => z) (fun _ _ z => z)) (pa_cons (pv 0) (pa_cons (pv 1) pa_nil)))) pss_off), ?_⟩
  refine ⟨_, rfl, d, rfl, fun hd => ?_, fun hd => hB.at (vTop1 hd) (Same.refl _)⟩
  obtain ⟨n, rfl, hn, en⟩ := nat_of hd
  exact ⟨_, rfl, _, rfl, n, l, ts, rfl, hn, hl, hR, h1000, fun h2 h3 _ _ => hv (vTop4 hd h2 h3), fun h2 H' hS => hB.at (vTop2 hd h2) hS, fun h2 h3 H' hS => hB.at (vTop3 hd h2 h3) hS⟩
theorem fail_rows (F : Fun K "rows_of" "rows_of" sRows f fd) (D : HasX P w K mg base "check_depth" 1 ["depth"] (spDepthX c.D)) (T : HasX P w K mg base "check_top" 1 ["top"] (spCValX c.N)) : FnOk P w K mg base (CXE P w) 2 f fd ["depth", "top"] (spRowsF c) := by
  refine Fun.okX F scRows (fun vs H Q E h => ?_) (fun cdv A outer s H vs Q E hr h => ?_)
  · obtain ⟨d, t, rfl, _⟩ := h
    rfl
  obtain ⟨d, t, rfl, hv, hB⟩ := h
  refine ⟨_, pss_cons (ps_expr (pe_hasX D hr (pass_on rfl rfl rfl (fun _ _ _ z => z) (fun _ _ z => z)) (pa_cons (pv 0) pa_nil)))
    (pss_cons (ps_expr (pe_hasX T hr (pass_on rfl rfl rfl (fun _ _ _ z => z) (fun _ _ z => z)) (pa_cons (pv 1) pa_nil))) pss_off), ?_⟩
  refine ⟨_, rfl, d, rfl, fun hd => ?_, fun hd => hB.at (if_pos hd) (Same.refl _)⟩
  exact ⟨_, rfl, t, rfl, fun h2 => hv ((if_neg (fun z => z hd)).trans (if_neg (fun z => z h2))), fun h2 => hB.at ((if_neg (fun z => z hd)).trans (if_pos (by omega))) (Same.refl _)⟩
theorem fail_slip (F : Fun K "slip_for" "slip_for" sSlip f fd) (D : HasX P w K mg base "check_depth" 1 ["depth"] (spDepthX c.D)) (R : HasX P w K mg base "check_rows" 4 ["depth", "rows"] (spCRowsX K c.K c.N)) (CK : HasX P w K mg base "check_key" 2 ["depth", "key"] (spCKeyX c.K)) : FnOk P w K mg base (CXE P w) 5 f fd ["depth", "rows", "key"] (spSlipF K c) := by
  refine Fun.okX F scSlip (fun vs H Q E h => ?_) (fun cdv A outer s H vs Q E hr h => ?_)
  · obtain ⟨d, l, ts, k, rfl, _⟩ := h
    rfl
  obtain ⟨d, l, ts, k, rfl, hl, hR, h1000, hv, hB⟩ := h
  have hr1 : Room 1 _ := hr.mono (by decide)
  have hr2 : Room 2 _ := hr.mono (by decide)
  refine ⟨_, pss_cons (ps_expr (pe_hasX D hr1 (pass_on rfl rfl rfl (fun _ _ _ z => z) (fun _ _ z => z)) (pa_cons (pv 0) pa_nil)))
    (pss_cons (ps_expr (pe_hasX R hr (pass_on rfl rfl rfl (fun _ _ _ z => z) (fun _ _ z => z)) (pa_cons (pv 0) (pa_cons (pv 1) pa_nil))))
    (pss_cons (ps_expr (pe_hasX CK hr2 (pass_on rfl rfl rfl (fun _ _ _ z => z) (fun _ _ z => z)) (pa_cons (pv 0) (pa_cons (pv 2) pa_nil)))) pss_off)), ?_⟩
  have no : ∀ {u : Wd}, vTop d (bareI ts) = u → u ≠ .done → vSlip d (bareI ts) k = u := fun e ne => by subst e; exact if_pos ne
  refine ⟨_, rfl, d, rfl, fun hd => ?_, fun hd => hB.at (no (vTop1 hd) (by decide)) (Same.refl _)⟩
  obtain ⟨n, rfl, hn, en⟩ := nat_of hd
  refine ⟨_, rfl, _, rfl, n, l, ts, rfl, hn, hl, hR, h1000, fun h2 h3 H' hS => ?_, fun h2 H' hS => hB.at (no (vTop2 hd h2) (by decide)) hS, fun h2 h3 H' hS => hB.at (no (vTop3 hd h2 h3) (by decide)) hS⟩
  have e0 := vTop4 hd h2 h3
  exact ⟨_, rfl, _, rfl, n, k, rfl, hn, fun h4 => hv ((if_neg (fun z => z e0)).trans (if_neg (fun z => z h4))), fun h4 => hB.at ((if_neg (fun z => z e0)).trans (if_pos h4)) hS⟩
theorem fail_taken (F : Fun K "is_taken" "is_taken" sTaken f fd) (D : HasX P w K mg base "check_depth" 1 ["depth"] (spDepthX c.D)) (CK : HasX P w K mg base "check_key" 2 ["depth", "key"] (spCKeyX c.K)) (CV : HasX P w K mg base "check_value_or_none" 2 ["value"] (spCValNX c.N)) (CN : HasX P w K mg base "check_numbers" 1 ["numbers"] (spCNumsX K c.N)) :
    FnOk P w K mg base (CXE P w) 5 f fd ["depth", "top", "key", "value", "slip"] (spTakenF K c) := by
  refine Fun.okX F scTaken (fun vs H Q E h => ?_) (fun cdv A outer s H vs Q E hr h => ?_)
  · obtain ⟨d, t, k, x, l, ns, rfl, _⟩ := h
    rfl
  obtain ⟨d, t, k, x, l, ns, rfl, hl, hv, hB⟩ := h
  have hr1 : Room 1 _ := hr.mono (by decide)
  have hr2 : Room 2 _ := hr.mono (by decide)
  refine ⟨_, pss_cons (ps_expr (pe_hasX D hr1 (pass_on rfl rfl rfl (fun _ _ _ z => z) (fun _ _ z => z)) (pa_cons (pv 0) pa_nil)))
    (pss_cons (ps_expr (pe_hasX CK hr2 (pass_on rfl rfl rfl (fun _ _ _ z => z) (fun _ _ z => z)) (pa_cons (pv 0) (pa_cons (pv 2) pa_nil))))
    (pss_cons (ps_expr (pe_hasX CV hr2 (pass_on rfl rfl rfl (fun _ _ _ z => z) (fun _ _ z => z)) (pa_cons (pv 3) pa_nil)))
    (pss_cons (ps_expr (pe_hasX CN hr1 (pass_on rfl rfl rfl (fun _ _ _ z => z) (fun _ _ z => z)) (pa_cons (pv 4) pa_nil))) pss_off))), ?_⟩
  refine ⟨_, rfl, d, rfl, fun hd => ?_, fun hd => hB.at (if_pos hd) (Same.refl _)⟩
  obtain ⟨n, rfl, hn, en⟩ := nat_of hd
  have e1 : ∀ {u : Wd}, (open Classical in (if ¬ kOk (n : Int) k then Wd.key else if ¬ xOk x then .number else if ¬ nsOk ns then .number else .done)) = u → vTaken (n : Int) k x ns = u := fun z => (if_neg (fun y => y hd)).trans z
  refine ⟨_, rfl, _, rfl, n, k, rfl, hn, fun h2 => ?_, fun h2 => hB.at (e1 (if_pos h2)) (Same.refl _)⟩
  refine ⟨_, rfl, x, rfl, fun h3 => ?_, fun i e h3 => hB.at (e1 ((if_neg (fun y => y h2)).trans (if_pos fun z => ?_))) (Same.refl _)⟩
  · refine ⟨_, rfl, l, ns, rfl, hl, fun h4 => hv (e1 ((if_neg (fun y => y h2)).trans ((if_neg (fun y => y h3)).trans (if_neg (fun y => y h4))))), fun h4 => hB.at (e1 ((if_neg (fun y => y h2)).trans ((if_neg (fun y => y h3)).trans (if_pos h4)))) (Same.refl _)⟩
  · have := z i e; omega
theorem fail_span (F : Fun K "span_for" "span_for" sSpan f fd) (D : HasX P w K mg base "check_depth" 1 ["depth"] (spDepthX c.D)) (R : HasX P w K mg base "check_rows" 4 ["depth", "rows"] (spCRowsX K c.K c.N)) (CS : HasX P w K mg base "check_span" 3 ["depth", "first", "last"] (spCSpanX c.K c.S)) : FnOk P w K mg base (CXE P w) 5 f fd ["depth", "rows", "first", "last"] (spSpanF K c) := by
  refine Fun.okX F scSpan (fun vs H Q E h => ?_) (fun cdv A outer s H vs Q E hr h => ?_)
  · obtain ⟨d, l, ts, fi, la, rfl, _⟩ := h
    rfl
  obtain ⟨d, l, ts, fi, la, rfl, hl, hR, h1000, hv, hB⟩ := h
  have hr1 : Room 1 _ := hr.mono (by decide)
  have hr3 : Room 3 _ := hr.mono (by decide)
  refine ⟨_, pss_cons (ps_expr (pe_hasX D hr1 (pass_on rfl rfl rfl (fun _ _ _ z => z) (fun _ _ z => z)) (pa_cons (pv 0) pa_nil)))
    (pss_cons (ps_expr (pe_hasX R hr (pass_on rfl rfl rfl (fun _ _ _ z => z) (fun _ _ z => z)) (pa_cons (pv 0) (pa_cons (pv 1) pa_nil))))
    (pss_cons (ps_expr (pe_hasX CS hr3 (pass_on rfl rfl rfl (fun _ _ _ z => z) (fun _ _ z => z)) (pa_cons (pv 0) (pa_cons (pv 2) (pa_cons (pv 3) pa_nil))))) pss_off)), ?_⟩
  have no : ∀ {u : Wd}, vTop d (bareI ts) = u → u ≠ .done → vSpan d (bareI ts) fi la = u := fun e ne => by subst e; exact if_pos ne
  refine ⟨_, rfl, d, rfl, fun hd => ?_, fun hd => hB.at (no (vTop1 hd) (by decide)) (Same.refl _)⟩
  obtain ⟨n, rfl, hn, en⟩ := nat_of hd
  refine ⟨_, rfl, _, rfl, n, l, ts, rfl, hn, hl, hR, h1000, fun h2 h3 H' hS => ?_, fun h2 H' hS => hB.at (no (vTop2 hd h2) (by decide)) hS, fun h2 h3 H' hS => hB.at (no (vTop3 hd h2 h3) (by decide)) hS⟩
  have e0 := vTop4 hd h2 h3
  refine ⟨_, rfl, _, rfl, _, rfl, n, fi, la, rfl, hn, fun h4 => hv ((if_neg (fun z => z e0)).trans ((if_neg (fun z => z ⟨h4.1, h4.2.1⟩)).trans (if_neg (by have := h4.2.2; omega)))), fun h4 => hB.at ((if_neg (fun z => z e0)).trans (if_pos h4)) hS, fun h4 h5 => hB.at ((if_neg (fun z => z e0)).trans ((if_neg (fun z => z h4)).trans (if_pos h5))) hS⟩
theorem fail_isspan (F : Fun K "is_span" "is_span" sIsSpan f fd) (D : HasX P w K mg base "check_depth" 1 ["depth"] (spDepthX c.D)) (R : HasX P w K mg base "check_rows" 4 ["depth", "rows"] (spCRowsX K c.K c.N)) (CS : HasX P w K mg base "check_span" 3 ["depth", "first", "last"] (spCSpanX c.K c.S)) (CN : HasX P w K mg base "check_numbers" 1 ["numbers"] (spCNumsX K c.N)) :
    FnOk P w K mg base (CXE P w) 5 f fd ["depth", "top", "first", "last", "rows", "numbers"] (spIsSpanF K c) := by
  refine Fun.okX F scIsSpan (fun vs H Q E h => ?_) (fun cdv A outer s H vs Q E hr h => ?_)
  · obtain ⟨d, t, fi, la, l, b, ts, ns, rfl, _⟩ := h
    rfl
  obtain ⟨d, t, fi, la, l, b, ts, ns, rfl, hl, hR, h1000, hb, hv, hB⟩ := h
  have hr1 : Room 1 _ := hr.mono (by decide)
  have hr3 : Room 3 _ := hr.mono (by decide)
  refine ⟨_, pss_cons (ps_expr (pe_hasX D hr1 (pass_on rfl rfl rfl (fun _ _ _ z => z) (fun _ _ z => z)) (pa_cons (pv 0) pa_nil)))
    (pss_cons (ps_expr (pe_hasX R hr (pass_on rfl rfl rfl (fun _ _ _ z => z) (fun _ _ z => z)) (pa_cons (pv 0) (pa_cons (pv 4) pa_nil))))
    (pss_cons (ps_expr (pe_hasX CS hr3 (pass_on rfl rfl rfl (fun _ _ _ z => z) (fun _ _ z => z)) (pa_cons (pv 0) (pa_cons (pv 2) (pa_cons (pv 3) pa_nil)))))
    (pss_cons (ps_expr (pe_hasX CN hr1 (pass_on rfl rfl rfl (fun _ _ _ z => z) (fun _ _ z => z)) (pa_cons (pv 5) pa_nil))) pss_off))), ?_⟩
  have no1 : ∀ {u : Wd}, vSpan d (bareI ts) fi la = u → u ≠ .done → vIsSpan d (bareI ts) fi la ns = u := fun e ne => by subst e; exact if_pos ne
  have no : ∀ {u : Wd}, vTop d (bareI ts) = u → u ≠ .done → vIsSpan d (bareI ts) fi la ns = u := fun e ne => no1 (by subst e; exact if_pos ne) ne
  refine ⟨_, rfl, d, rfl, fun hd => ?_, fun hd => hB.at (no (vTop1 hd) (by decide)) (Same.refl _)⟩
  obtain ⟨n, rfl, hn, en⟩ := nat_of hd
  refine ⟨_, rfl, _, rfl, n, l, ts, rfl, hn, hl, hR, h1000, fun h2 h3 H' hS => ?_, fun h2 H' hS => hB.at (no (vTop2 hd h2) (by decide)) hS, fun h2 h3 H' hS => hB.at (no (vTop3 hd h2 h3) (by decide)) hS⟩
  have e0 := vTop4 hd h2 h3
  refine ⟨_, rfl, _, rfl, _, rfl, n, fi, la, rfl, hn, fun h4 => ?_, fun h4 => hB.at (no1 ((if_neg (fun z => z e0)).trans (if_pos h4)) (by decide)) hS, fun h4 h5 => hB.at (no1 ((if_neg (fun z => z e0)).trans ((if_neg (fun z => z h4)).trans (if_pos h5))) (by decide)) hS⟩
  have e1 : vSpan (n : Int) (bareI ts) fi la = .done := (if_neg (fun z => z e0)).trans ((if_neg (fun z => z ⟨h4.1, h4.2.1⟩)).trans (if_neg (by have := h4.2.2; omega)))
  exact ⟨_, rfl, b, ns, rfl, hS.seq hb, fun h5 => hv ((if_neg (fun z => z e1)).trans (if_neg (fun z => z h5))), fun h5 => hB.at ((if_neg (fun z => z e1)).trans (if_pos h5)) hS⟩
theorem fail_differ (F : Fun K "differing" "differing" sDiffer f fd) (D : HasX P w K mg base "check_depth" 1 ["depth"] (spDepthX c.D)) (T : HasX P w K mg base "check_top" 1 ["top"] (spCValX c.N)) : FnOk P w K mg base (CXE P w) 2 f fd ["depth", "one", "two"] (spDifferF c) := by
  refine Fun.okX F scDiffer (fun vs H Q E h => ?_) (fun cdv A outer s H vs Q E hr h => ?_)
  · obtain ⟨d, a, b, rfl, _⟩ := h
    rfl
  obtain ⟨d, a, b, rfl, hv, hB⟩ := h
  refine ⟨_, pss_cons (ps_expr (pe_hasX D hr (pass_on rfl rfl rfl (fun _ _ _ z => z) (fun _ _ z => z)) (pa_cons (pv 0) pa_nil)))
    (pss_cons (ps_expr (pe_hasX T hr (pass_on rfl rfl rfl (fun _ _ _ z => z) (fun _ _ z => z)) (pa_cons (pv 1) pa_nil)))
    (pss_cons (ps_expr (pe_hasX T hr (pass_on rfl rfl rfl (fun _ _ _ z => z) (fun _ _ z => z)) (pa_cons (pv 2) pa_nil))) pss_off)), ?_⟩
  refine ⟨_, rfl, d, rfl, fun hd => ?_, fun hd => hB.at (if_pos hd) (Same.refl _)⟩
  refine ⟨_, rfl, a, rfl, fun h2 => ?_, fun h2 => hB.at ((if_neg (fun z => z hd)).trans (if_pos (by omega))) (Same.refl _)⟩
  exact ⟨_, rfl, b, rfl, fun h3 => hv ((if_neg (fun z => z hd)).trans ((if_neg (fun z => z h2)).trans (if_neg (fun z => z h3)))), fun h3 => hB.at ((if_neg (fun z => z hd)).trans ((if_neg (fun z => z h2)).trans (if_pos (by omega)))) (Same.refl _)⟩
end
end Ts
namespace Ts
open PySem L2
theorem x_num {x : Option Int} (h : xOk x) : ∃ n : Nat, NumOf (oV x) n := by
  cases x with
  | none => exact ⟨0, .non⟩
  | some i =>
    have := h i rfl
    have e : oV (some i) = V.int (i.toNat : Int) := by
      show V.int i = V.int (i.toNat : Int)
      rw [Int.toNat_of_nonneg this]
    exact ⟨i.toNat + 1, e ▸ .int i.toNat⟩
theorem nodup_on {α β : Type} {g : α → β} : ∀ {xs : List α}, xs.Nodup → (∀ a ∈ xs, ∀ b ∈ xs, g a = g b → a = b) → (xs.map g).Nodup
  | [], _, _ => List.nodup_nil
  | x :: r, nd, hg => by
    obtain ⟨n1, n2⟩ := List.nodup_cons.mp nd
    rw [List.map_cons]
    refine List.nodup_cons.mpr ⟨fun z => ?_, nodup_on n2 fun a ha b hb => hg a (List.mem_cons_of_mem _ ha) b (List.mem_cons_of_mem _ hb)⟩
    obtain ⟨y, hy, e⟩ := List.mem_map.mp z
    exact n1 (hg y (List.mem_cons_of_mem _ hy) x List.mem_cons_self e ▸ hy)
theorem ns_nat {ns : List Int} (h : nsOk ns) : ns.map V.int = vn (ns.map Int.toNat) := by
  unfold vn
  rw [List.map_map]
  refine List.map_congr_left fun n hn => ?_
  show V.int n = V.int (n.toNat : Int)
  rw [Int.toNat_of_nonneg (h n hn)]
def toN (r : RowI) : RowN := (r.1, r.2.1.toNat, r.2.2.toNat)
theorem rows_nat {H : Hp} {ts : List RowI} {n : Nat} (hR : RowsI H ts) (hk : KeysOk ((2 ^ n : Nat) : Int) (bareI ts)) (hv : ValsOk (bareI ts)) (hb : ∀ x ∈ bareI ts, x.2 < 2 ^ 60) :
    refsI ts = refsN (ts.map toN) ∧ RowsN H (ts.map toN) ∧ RowsOk (2 ^ n) (bare (ts.map toN)) ∧ ∀ r ∈ bare (ts.map toN), r.2 + 1 < 2 ^ 67 := by
  have mem : ∀ r ∈ ts, r.2 ∈ bareI ts := fun r hr => List.mem_map.mpr ⟨r, hr, rfl⟩
  have at' : ∀ {r : RowN}, r ∈ ts.map toN → ∃ q ∈ ts, r = toN q := fun hr => by
    obtain ⟨q, hq, e⟩ := List.mem_map.mp hr
    exact ⟨q, hq, e.symm⟩
  refine ⟨?_, ?_, ⟨?_, ?_⟩, ?_⟩
  · unfold refsI refsN
    rw [List.map_map]
    rfl
  · intro r hr
    obtain ⟨q, hq, rfl⟩ := at' hr
    have k1 := (hk.1 _ (mem q hq)).1
    have v1 := hv _ (mem q hq)
    have := hR q hq
    show H q.1 = some (.tup [.int (q.2.1.toNat : Int), .int (q.2.2.toNat : Int)])
    rw [Int.toNat_of_nonneg k1, Int.toNat_of_nonneg v1]
    exact this
  · intro r hr
    obtain ⟨q, hq, rfl⟩ := List.mem_map.mp hr
    obtain ⟨p, hp, rfl⟩ := at' hq
    have := hk.1 _ (mem p hp)
    show p.2.1.toNat < 2 ^ n
    omega
  · have nd := hk.2
    have e : (bare (ts.map toN)).map (·.1) = ((bareI ts).map (·.1)).map Int.toNat := by
      unfold bare bareI
      rw [List.map_map, List.map_map, List.map_map, List.map_map]
      rfl
    rw [e]
    refine nodup_on nd ?_
    intro a ha b hb e2
    obtain ⟨x, hx, rfl⟩ := List.mem_map.mp ha
    obtain ⟨y, hy, rfl⟩ := List.mem_map.mp hb
    have a1 := (hk.1 x hx).1
    have a2 := (hk.1 y hy).1
    omega
  · intro r hr
    obtain ⟨q, hq, rfl⟩ := List.mem_map.mp hr
    obtain ⟨p, hp, rfl⟩ := at' hq
    have := hb _ (mem p hp)
    have := hv _ (mem p hp)
    show p.2.2.toNat + 1 < 2 ^ 67
    omega
theorem five_bb : (5 : Int) < ((2 ^ bb : Nat) : Int) := by
  have : 5 < 2 ^ bb := Nat.lt_of_lt_of_le (show 5 < 2 ^ 3 by decide) (Nat.pow_le_pow_right (by decide) (by decide))
  omega
theorem nine_pl {n : Nat} (h : n < 9) : n < 2 ^ pl := Nat.lt_of_lt_of_le (Nat.lt_of_lt_of_le h (show 9 ≤ 2 ^ 4 by decide)) (Nat.pow_le_pow_right (by decide) (by decide))
section
variable {K : PySem.W.Frag} {c : Ec} {H : Hp} {Q : VK} {E : XK} {d k t : Int} {x y : Option Int} {l b : Addr} {ts : List RowI} {ns : List Int}
theorem vTaken_done (h : vTaken d k x ns = .done) : dOk d ∧ kOk d k ∧ xOk x ∧ nsOk ns := by
  unfold vTaken at h
  split at h
  · cases h
  · rename_i a
    split at h
    · cases h
    · rename_i b
      split at h
      · cases h
      · rename_i e
        split at h
        · cases h
        · rename_i g
          exact ⟨Classical.not_not.mp a, Classical.not_not.mp b, Classical.not_not.mp e, Classical.not_not.mp g⟩
theorem use_taken (hl : SqL K H l (ns.map V.int)) (ht : t < ((2 ^ bb : Nat) : Int)) (h1 : vTaken d k x ns = .done → ∀ b : Bool, (0 ≤ t ∨ b = false) → Q (.bl b) H) (h2 : vTaken d k x ns ≠ .done → Bad c H E (vTaken d k x ns)) : spOr (spTaken K) (spTakenF K c) [.int d, .int t, .int k, oV x, .ref l] H Q E := by
  by_cases hv : vTaken d k x ns = .done
  · obtain ⟨a1, a2, a3, a4⟩ := vTaken_done hv
    obtain ⟨n, rfl, hn, en⟩ := nat_of a1
    obtain ⟨m, hm⟩ := x_num a3
    have a5 := a2.1
    have a6 := a2.2
    rw [en] at a6
    refine .inl ⟨n, t, k.toNat, m, oV x, l, ns.map Int.toNat, ?_, hn, by omega, hm, by rw [← ns_nat a4]; exact hl, ht, fun b hb => h1 hv b ?_⟩
    · rw [Int.toNat_of_nonneg a5]
    · cases b with
      | false => exact .inr rfl
      | true =>
        obtain ⟨_, e⟩ := hb.mp rfl
        exact .inl (by omega)
  · exact .inr ⟨d, t, k, x, l, ns, rfl, hl, hv, h2 hv⟩
theorem use_top (hl : SqL K H l (refsI ts)) (hR : RowsI H ts) (h10 : ts.length ≤ 10) (hb : ∀ x ∈ bareI ts, x.2 < 2 ^ 60) (h1 : vTop d (bareI ts) = .done → ∀ r H', Same H H' → Q r H') (h2 : vTop d (bareI ts) ≠ .done → Bad c H E (vTop d (bareI ts))) : spOr (spTop K) (spTopF K c) [.int d, .ref l] H Q E := by
  by_cases hv : vTop d (bareI ts) = .done
  · obtain ⟨a1, a2, a3⟩ := vTop_done hv
    obtain ⟨n, rfl, hn, en⟩ := nat_of a1
    rw [en] at a2
    obtain ⟨g1, g2, g3, g4⟩ := rows_nat hR a2 a3 hb
    exact .inl ⟨n, l, ts.map toN, rfl, hn, by rw [← g1]; exact hl, g2, g3, by rw [List.length_map]; omega, g4, fun m H' _ hS => h1 hv _ H' hS⟩
  · exact .inr ⟨d, l, ts, rfl, hl, hR, by omega, hv, h2 hv⟩
theorem use_rows (h9 : t < 9) (h1 : vRowsOf d t = .done → ∀ r H', Same H H' → Q r H') (h2 : vRowsOf d t ≠ .done → Bad c H E (vRowsOf d t)) : spOr (spRows K) (spRowsF c) [.int d, .int t] H Q E := by
  by_cases hv : vRowsOf d t = .done
  · have hv0 := hv
    unfold vRowsOf at hv
    split at hv
    · cases hv
    · rename_i a
      split at hv
      · cases hv
      · rename_i e
        obtain ⟨n, rfl, hn, en⟩ := nat_of (Classical.not_not.mp a)
        have e2 := Classical.not_not.mp e
        exact .inl ⟨n, t.toNat, by rw [Int.toNat_of_nonneg e2], hn, nine_pl (by omega), fun p rs H' hS _ _ _ _ => h1 hv0 _ H' hS⟩
  · exact .inr ⟨d, t, rfl, hv, h2 hv⟩
theorem use_differ {a e : Int} (h9 : a < 9) (h9' : e < 9) (h1 : vDiffer d a e = .done → ∀ r H', Same H H' → Q r H') (h2 : vDiffer d a e ≠ .done → Bad c H E (vDiffer d a e)) : spOr (spDiffer K) (spDifferF c) [.int d, .int a, .int e] H Q E := by
  by_cases hv : vDiffer d a e = .done
  · have hv0 := hv
    unfold vDiffer at hv
    split at hv
    · cases hv
    · rename_i z
      split at hv
      · cases hv
      · rename_i u
        split at hv
        · cases hv
        · rename_i v
          obtain ⟨n, rfl, hn, en⟩ := nat_of (Classical.not_not.mp z)
          have e2 := Classical.not_not.mp u
          have e3 := Classical.not_not.mp v
          exact .inl ⟨n, a.toNat, e.toNat, by rw [Int.toNat_of_nonneg e2, Int.toNat_of_nonneg e3], hn, nine_pl (by omega), nine_pl (by omega), fun p _ us H' hS _ _ _ _ => h1 hv0 _ H' hS⟩
  · exact .inr ⟨d, a, e, rfl, hv, h2 hv⟩
theorem use_slip (hl : SqL K H l (refsI ts)) (hR : RowsI H ts) (h10 : ts.length ≤ 10) (hb : ∀ x ∈ bareI ts, x.2 < 2 ^ 60) (h1 : vSlip d (bareI ts) k = .done → ∀ r H', Same H H' → Q r H') (h2 : vSlip d (bareI ts) k ≠ .done → Bad c H E (vSlip d (bareI ts) k)) : spOr (spSlip K) (spSlipF K c) [.int d, .ref l, .int k] H Q E := by
  by_cases hv : vSlip d (bareI ts) k = .done
  · have hv0 := hv
    unfold vSlip at hv
    split at hv
    · rename_i z; exact absurd hv z
    · rename_i z
      split at hv
      · cases hv
      · rename_i u
        obtain ⟨a1, a2, a3⟩ := vTop_done (Classical.not_not.mp z)
        obtain ⟨n, rfl, hn, en⟩ := nat_of a1
        rw [en] at a2
        obtain ⟨g1, g2, g3, g4⟩ := rows_nat hR a2 a3 hb
        obtain ⟨k1, k2⟩ := Classical.not_not.mp u
        rw [en] at k2
        exact .inl ⟨n, k.toNat, l, ts.map toN, by rw [Int.toNat_of_nonneg k1], hn, by omega, by rw [← g1]; exact hl, g2, g3, by rw [List.length_map]; omega, g4, fun p H' hS _ _ => h1 hv0 _ H' hS⟩
  · exact .inr ⟨d, l, ts, k, rfl, hl, hR, by omega, hv, h2 hv⟩
theorem vSpan_done {fi la : Int} {xs : List (Int × Int)} (hv : vSpan d xs fi la = .done) : vTop d xs = .done ∧ kOk d fi ∧ kOk d la ∧ fi ≤ la := by
  unfold vSpan at hv
  split at hv
  · rename_i z; exact absurd hv z
  · rename_i z
    split at hv
    · cases hv
    · rename_i u
      split at hv
      · cases hv
      · rename_i v
        have := Classical.not_not.mp u
        exact ⟨Classical.not_not.mp z, this.1, this.2, by omega⟩
theorem use_span {fi la : Int} (hl : SqL K H l (refsI ts)) (hR : RowsI H ts) (h10 : ts.length ≤ 10) (hb : ∀ x ∈ bareI ts, x.2 < 2 ^ 60) (h1 : vSpan d (bareI ts) fi la = .done → ∀ r H', Same H H' → Q r H') (h2 : vSpan d (bareI ts) fi la ≠ .done → Bad c H E (vSpan d (bareI ts) fi la)) :
    spOr (spSpan K) (spSpanF K c) [.int d, .ref l, .int fi, .int la] H Q E := by
  by_cases hv : vSpan d (bareI ts) fi la = .done
  · obtain ⟨e0, ⟨k1, k2⟩, ⟨k3, k4⟩, k5⟩ := vSpan_done hv
    obtain ⟨a1, a2, a3⟩ := vTop_done e0
    obtain ⟨n, rfl, hn, en⟩ := nat_of a1
    rw [en] at a2 k2 k4
    obtain ⟨g1, g2, g3, g4⟩ := rows_nat hR a2 a3 hb
    exact .inl ⟨n, fi.toNat, la.toNat, l, ts.map toN, by rw [Int.toNat_of_nonneg k1, Int.toNat_of_nonneg k3], hn, by omega, by omega, by rw [← g1]; exact hl, g2, g3, by rw [List.length_map]; omega, g4, fun p H' hS _ _ => h1 hv _ H' hS⟩
  · exact .inr ⟨d, l, ts, fi, la, rfl, hl, hR, by omega, hv, h2 hv⟩
theorem use_isspan {fi la : Int} (hl : SqL K H l (refsI ts)) (hR : RowsI H ts) (h10 : ts.length ≤ 10) (hb : ∀ x ∈ bareI ts, x.2 < 2 ^ 60) (hn' : SqL K H b (ns.map V.int)) (ht : t < ((2 ^ bb : Nat) : Int)) (h1 : vIsSpan d (bareI ts) fi la ns = .done → ∀ r H', Same H H' → Q r H') (h2 : vIsSpan d (bareI ts) fi la ns ≠ .done → Bad c H E (vIsSpan d (bareI ts) fi la ns)) :
    spOr (spIsSpan K) (spIsSpanF K c) [.int d, .int t, .int fi, .int la, .ref l, .ref b] H Q E := by
  by_cases hv : vIsSpan d (bareI ts) fi la ns = .done
  · have hv0 := hv
    unfold vIsSpan at hv
    split at hv
    · rename_i z; exact absurd hv z
    · rename_i z
      split at hv
      · cases hv
      · rename_i u
        obtain ⟨e0, ⟨k1, k2⟩, ⟨k3, k4⟩, k5⟩ := vSpan_done (Classical.not_not.mp z)
        obtain ⟨a1, a2, a3⟩ := vTop_done e0
        obtain ⟨n, rfl, hn, en⟩ := nat_of a1
        rw [en] at a2 k2 k4
        obtain ⟨g1, g2, g3, g4⟩ := rows_nat hR a2 a3 hb
        exact .inl ⟨n, t, fi.toNat, la.toNat, l, b, ts.map toN, ns.map Int.toNat, by rw [Int.toNat_of_nonneg k1, Int.toNat_of_nonneg k3], hn, by omega, by omega, by rw [← g1]; exact hl, g2, g3, by rw [List.length_map]; omega, by rw [← ns_nat (Classical.not_not.mp u)]; exact hn', ht, fun bo H' hS _ => h1 hv0 _ H' hS⟩
  · exact .inr ⟨d, t, fi, la, l, b, ts, ns, rfl, hl, hR, by omega, hn', hv, h2 hv⟩
end
section
variable {P : Program} {w : World} {K : PySem.W.Frag} {mg : Str → Option Value} {base : Heap} {f : Addr} {fd : FuncData} {c : Ec} {bm : List Value} {newId initId Bn : String}
theorem scMoved : FnScope ["depth", "top", "key", "slip", "old", "new", "taken"] ["depth", "top", "key", "slip", "old", "new"] (defScope sMoved) := ⟨rfl, rfl, rfl, by decide +kernel, rfl, by decide +kernel, by decide +kernel⟩
theorem fail_moved (F : Fun K "moved_top" "moved_top" sMoved f fd) (O : PyProof.Rows.OwnCls "NotTaken" c.T bm newId mg base) (FB : ExcBaseFacts Bn newId initId bm) (TK : HasX P w K mg base "is_taken" 5 ["depth", "top", "key", "value", "slip"] (spOr (spTaken K) (spTakenF K c)))
    (CV : HasX P w K mg base "check_value_or_none" 2 ["value"] (spCValNX c.N)) : FnOk P w K mg base (CXE P w) 6 f fd ["depth", "top", "key", "slip", "old", "new"] (spMovedF K c) := by
  refine Fun.okX F scMoved (fun vs H Q E h => ?_) (fun cdv A outer s H vs Q E hr h => ?_)
  · obtain ⟨d, k, x, y, l, ns, rfl, _⟩ := h
    rfl
  obtain ⟨d, k, x, y, l, ns, rfl, hl, hB⟩ := h
  have hr2 : Room 2 _ := hr.mono (by decide)
  refine ⟨_, pss_cons (ps_set (i := 6) scMoved.nd rfl (Or.inl rfl) (pe_hasX TK hr (pass_on rfl rfl rfl (fun _ _ _ z => z) (fun _ _ z => z)) (pa_cons (pv 0) (pa_cons (pv 1) (pa_cons (pv 2) (pa_cons (pv 4) (pa_cons (pv 3) pa_nil)))))))
    (pss_cons (ps_expr (pe_hasX CV hr2 (pass_on rfl rfl rfl (fun _ _ _ z => z) (fun _ _ z => z)) (pa_cons (pv 5) pa_nil)))
    (pss_cons (ps_if (pt_not (pt_val (pv 6))) (pss_one (ps_raise O FB rfl rfl (pa_cons pe_str pa_nil) rfl rfl rfl (fun _ _ z => z))) pss_nil) pss_off)), ?_⟩
  refine ⟨_, rfl, _, rfl, _, rfl, _, rfl, _, rfl, ?_⟩
  refine use_taken hl (Int.lt_trans (by decide) five_bb) (fun hv bo hbo => ?_) fun hv H' hS => hB.at (if_pos hv) hS
  have hbf : bo = false := hbo.resolve_left (by decide)
  subst hbf
  refine ⟨_, rfl, y, rfl, fun hy => ?_, fun i e hi => hB.at ((if_neg (fun z => z hv)).trans (if_pos fun z => ?_)) (Same.refl _)⟩
  · exact ⟨_, rfl, false, rfl, iteB1 rfl ⟨one_line, hB.at ((if_neg (fun z => z hv)).trans (if_neg (fun z => z hy))) (Same.refl _)⟩⟩
  · have := z i e
    omega
end
end Ts
namespace Ts
open PySem L2
noncomputable def vWay (n : Nat) (d : Int) (xs : List (Int × Int)) (k : Int) (x : Option Int) (a1 a2 : Int) : Wd := match n with
  | 0 => vTop d xs
  | 1 => vRowsOf d a1
  | 2 => vSlip d xs k
  | 3 => vTaken d k x [a1, a2]
  | 4 => vMoved d k [a1, a2] x (some 3)
  | 5 => vSpan d xs k 1
  | 6 => vSpan d xs 0 k
  | 7 => vIsSpan d xs 0 k [a1, a2]
  | 8 => vDiffer d a1 4
  | 9 => vDiffer d 4 a1
  | 11 => vIsSpan d xs k 0 [a1, a2]
  | _ => vMoved d k [a2] (some 2) x
structure Wy (K : PySem.W.Frag) (H : Hp) (l : Addr) (ts : List RowI) (b : Addr) (a1 a2 : Int) : Prop where
  ro : SqL K H l (refsI ts)
  rs : RowsI H ts
  len : ts.length ≤ 10
  bd : ∀ x ∈ bareI ts, x.2 < 2 ^ 60
  sl : SqL K H b [.int a1, .int a2]
  l1 : a1 < 9
  l2 : a2 < 9
theorem Wy.same {K : PySem.W.Frag} {H H' : Hp} {l : Addr} {ts : List RowI} {b : Addr} {a1 a2 : Int} (W : Wy K H l ts b a1 a2) (e : Same H H') : Wy K H' l ts b a1 a2 := ⟨e.seq W.ro, W.rs.same e, W.len, W.bd, e.seq W.sl, W.l1, W.l2⟩
inductive spWay (K : PySem.W.Frag) (c : Ec) (lo hi : Nat) (vs : List V) (H : Hp) (Q : VK) (E : XK) : Prop where
  | mk (n : Nat) (d : Int) (l : Addr) (ts : List RowI) (k : Int) (x : Option Int) (b : Addr) (a1 a2 : Int) (f0 : vs = [.int (n : Int), .int d, .ref l, .int k, oV x, .ref b]) (f1 : lo ≤ n) (f2 : n < hi) (f3 : Wy K H l ts b a1 a2) (f4 : (vWay n d (bareI ts) k x a1 a2 = .done → ∀ H', Same H H' → Q .non H')) (f5 : (vWay n d (bareI ts) k x a1 a2 ≠ .done → Bad c H E (vWay n d (bareI ts) k x a1 a2))) : spWay K c lo hi vs H Q E
abbrev nWay : List Str := ["_law_which", "_law_depth", "_law_rows", "_law_key", "_law_value", "_law_slip"]
theorem ne_int {n : Nat} {j : Int} (h : ¬ V.int (n : Int) = V.int j) : (n : Int) ≠ j := fun z => h (by rw [z])
theorem eq_int' {n : Nat} {j : Int} (h : V.int (n : Int) = V.int j) : (n : Int) = j := V.int.inj h
theorem not_moved {d k : Int} {ns : List Int} {x y : Option Int} : vMoved d k ns x y ≠ .done := by
  unfold vMoved
  split
  · rename_i z; exact z
  · split <;> (intro z; cases z)
section
variable {P : Program} {w : World} {K : PySem.W.Frag} {mg : Str → Option Value} {base : Heap} {f : Addr} {fd : FuncData} {c : Ec}
theorem scFirst : FnScope nWay nWay (defScope sFirstWays) := ⟨rfl, rfl, rfl, by decide +kernel, rfl, by decide +kernel, by decide +kernel⟩
theorem scOther : FnScope nWay nWay (defScope sOtherWays) := ⟨rfl, rfl, rfl, by decide +kernel, rfl, by decide +kernel, by decide +kernel⟩
theorem ok_first (F : Fun K "_law_first_ways" "_law_first_ways" sFirstWays f fd) (TO : HasX P w K mg base "top_of" 5 ["depth", "rows"] (spOr (spTop K) (spTopF K c))) (RO : HasX P w K mg base "rows_of" 20 ["depth", "top"] (spOr (spRows K) (spRowsF c))) (SF : HasX P w K mg base "slip_for" 5 ["depth", "rows", "key"] (spOr (spSlip K) (spSlipF K c)))
    (TK : HasX P w K mg base "is_taken" 5 ["depth", "top", "key", "value", "slip"] (spOr (spTaken K) (spTakenF K c))) (MV : HasX P w K mg base "moved_top" 6 ["depth", "top", "key", "slip", "old", "new"] (spMovedF K c)) : FnOk P w K mg base (CXE P w) 21 f fd nWay (spWay K c 0 5) := by
  refine Fun.okX F scFirst (fun vs H Q E h => ?_) (fun cdv A outer s H vs Q E hr h => ?_)
  · obtain ⟨n, d, l, ts, k, x, b, a1, a2, rfl, _⟩ := h
    rfl
  obtain ⟨n, d, l, ts, k, x, b, a1, a2, rfl, _, h5, W, q1, q2⟩ := h
  have hr5 : Room 5 _ := hr.mono (by decide)
  have hr6 : Room 6 _ := hr.mono (by decide)
  refine ⟨_, pss_one (ps_if (pt_cmpR op_eq (pv 0) pe_int (nomark _)) (pss_one (ps_expr (pe_hasX TO hr5 (pass_on rfl rfl rfl (fun _ _ _ z => z) (fun _ _ z => z)) (pa_cons (pv 1) (pa_cons (pv 2) pa_nil)))))
    (pss_one (ps_if (pt_cmpR op_eq (pv 0) pe_int (nomark _)) (pss_one (ps_expr (pe_hasX RO hr (pass_on rfl rfl rfl (fun _ _ _ z => z) (fun _ _ z => z)) (pa_cons (pv 1) (pa_cons (pe_ix ix_list (pv 5) pe_int (fun _ _ => rfl)) pa_nil)))))
    (pss_one (ps_if (pt_cmpR op_eq (pv 0) pe_int (nomark _)) (pss_one (ps_expr (pe_hasX SF hr5 (pass_on rfl rfl rfl (fun _ _ _ z => z) (fun _ _ z => z)) (pa_cons (pv 1) (pa_cons (pv 2) (pa_cons (pv 3) pa_nil))))))
    (pss_one (ps_if (pt_cmpR op_eq (pv 0) pe_int (nomark _)) (pss_one (ps_expr (pe_hasX TK hr5 (pass_on rfl rfl rfl (fun _ _ _ z => z) (fun _ _ z => z)) (pa_cons (pv 1) (pa_cons pe_int (pa_cons (pv 3) (pa_cons (pv 4) (pa_cons (pv 5) pa_nil))))))))
    (pss_one (ps_expr (pe_hasX MV hr6 (pass_on rfl rfl rfl (fun _ _ _ z => z) (fun _ _ z => z)) (pa_cons (pv 1) (pa_cons (pe_un un_neg pe_int) (pa_cons (pv 3) (pa_cons (pv 5) (pa_cons (pv 4) (pa_cons pe_int pa_nil)))))))))))))))), ?_⟩
  refine ⟨_, rfl, rfl, _, rfl, ite3 (fun e => ?_) (fun e => ?_)⟩
  · have en : n = 0 := by have := eq_int' e; omega
    subst en
    refine ⟨_, rfl, _, rfl, ?_⟩
    exact use_top W.ro W.rs W.len W.bd (fun hv r H' hS => q1 hv H' hS) q2
  refine ⟨_, rfl, rfl, _, rfl, ite3 (fun e1 => ?_) (fun e1 => ?_)⟩
  · have en : n = 1 := by have := eq_int' e1; omega
    subst en
    refine ⟨_, rfl, _, rfl, b, _, _, _, rfl, rfl, W.sl, atI_nat (j := 0) rfl, ?_⟩
    exact use_rows W.l1 (fun hv r H' hS => q1 hv H' hS) q2
  refine ⟨_, rfl, rfl, _, rfl, ite3 (fun e2 => ?_) (fun e2 => ?_)⟩
  · have en : n = 2 := by have := eq_int' e2; omega
    subst en
    refine ⟨_, rfl, _, rfl, _, rfl, ?_⟩
    exact use_slip W.ro W.rs W.len W.bd (fun hv r H' hS => q1 hv H' hS) q2
  refine ⟨_, rfl, rfl, _, rfl, ite3 (fun e3 => ?_) (fun e3 => ?_)⟩
  · have en : n = 3 := by have := eq_int' e3; omega
    subst en
    refine ⟨_, rfl, _, rfl, _, rfl, _, rfl, ?_⟩
    exact use_taken (ns := [a1, a2]) W.sl five_bb (fun hv r _ => q1 hv H (Same.refl H)) q2
  · have e0 := ne_int e
    have e1' := ne_int e1
    have e2' := ne_int e2
    have e3' := ne_int e3
    have en : n = 4 := by omega
    subst en
    refine ⟨_, rfl, 1, rfl, _, rfl, _, rfl, _, rfl, ?_⟩
    exact ⟨d, k, x, some 3, b, [a1, a2], rfl, W.sl, q2 not_moved⟩
theorem ok_other (F : Fun K "_law_other_ways" "_law_other_ways" sOtherWays f fd) (SP : HasX P w K mg base "span_for" 5 ["depth", "rows", "first", "last"] (spOr (spSpan K) (spSpanF K c))) (IS : HasX P w K mg base "is_span" 5 ["depth", "top", "first", "last", "rows", "numbers"] (spOr (spIsSpan K) (spIsSpanF K c)))
    (DF : HasX P w K mg base "differing" 20 ["depth", "one", "two"] (spOr (spDiffer K) (spDifferF c))) (MV : HasX P w K mg base "moved_top" 6 ["depth", "top", "key", "slip", "old", "new"] (spMovedF K c)) : FnOk P w K mg base (CXE P w) 21 f fd nWay (spWay K c 5 12) := by
  refine Fun.okX F scOther (fun vs H Q E h => ?_) (fun cdv A outer s H vs Q E hr h => ?_)
  · obtain ⟨n, d, l, ts, k, x, b, a1, a2, rfl, _⟩ := h
    rfl
  obtain ⟨n, d, l, ts, k, x, b, a1, a2, rfl, h5, h12, W, q1, q2⟩ := h
  have hr5 : Room 5 _ := hr.mono (by decide)
  have hr6 : Room 6 _ := hr.mono (by decide)
  refine ⟨_, pss_one (ps_if (pt_cmpR op_eq (pv 0) pe_int (nomark _)) (pss_one (ps_expr (pe_hasX SP hr5 (pass_on rfl rfl rfl (fun _ _ _ z => z) (fun _ _ z => z)) (pa_cons (pv 1) (pa_cons (pv 2) (pa_cons (pv 3) (pa_cons pe_int pa_nil)))))))
    (pss_one (ps_if (pt_cmpR op_eq (pv 0) pe_int (nomark _)) (pss_one (ps_expr (pe_hasX SP hr5 (pass_on rfl rfl rfl (fun _ _ _ z => z) (fun _ _ z => z)) (pa_cons (pv 1) (pa_cons (pv 2) (pa_cons pe_int (pa_cons (pv 3) pa_nil)))))))
    (pss_one (ps_if (pt_cmpR op_eq (pv 0) pe_int (nomark _)) (pss_one (ps_expr (pe_hasX IS hr5 (pass_on rfl rfl rfl (fun _ _ _ z => z) (fun _ _ z => z)) (pa_cons (pv 1) (pa_cons pe_int (pa_cons pe_int (pa_cons (pv 3) (pa_cons (pv 2) (pa_cons (pv 5) pa_nil)))))))))
    (pss_one (ps_if (pt_cmpR op_eq (pv 0) pe_int (nomark _)) (pss_one (ps_expr (pe_hasX DF hr (pass_on rfl rfl rfl (fun _ _ _ z => z) (fun _ _ z => z)) (pa_cons (pv 1) (pa_cons (pe_ix ix_list (pv 5) pe_int (fun _ _ => rfl)) (pa_cons pe_int pa_nil))))))
    (pss_one (ps_if (pt_cmpR op_eq (pv 0) pe_int (nomark _)) (pss_one (ps_expr (pe_hasX DF hr (pass_on rfl rfl rfl (fun _ _ _ z => z) (fun _ _ z => z)) (pa_cons (pv 1) (pa_cons pe_int (pa_cons (pe_ix ix_list (pv 5) pe_int (fun _ _ => rfl)) pa_nil))))))
    (pss_one (ps_if (pt_cmpR op_eq (pv 0) pe_int (nomark _)) (pss_one (ps_expr (pe_hasX IS hr5 (pass_on rfl rfl rfl (fun _ _ _ z => z) (fun _ _ z => z)) (pa_cons (pv 1) (pa_cons pe_int (pa_cons (pv 3) (pa_cons pe_int (pa_cons (pv 2) (pa_cons (pv 5) pa_nil)))))))))
    (pss_one (ps_expr (pe_hasX MV hr6 (pass_on rfl rfl rfl (fun _ _ _ z => z) (fun _ _ z => z)) (pa_cons (pv 1) (pa_cons (pe_un un_neg pe_int) (pa_cons (pv 3) (pa_cons (pe_slice sl_list (pv 5) (po_some pe_int) po_none) (pa_cons pe_int (pa_cons (pv 4) pa_nil)))))))))))))))))))), ?_⟩
  refine ⟨_, rfl, rfl, _, rfl, ite3 (fun e => ?_) (fun e => ?_)⟩
  · have en : n = 5 := by have := eq_int' e; omega
    subst en
    refine ⟨_, rfl, _, rfl, _, rfl, ?_⟩
    exact use_span W.ro W.rs W.len W.bd (fun hv r H' hS => q1 hv H' hS) q2
  refine ⟨_, rfl, rfl, _, rfl, ite3 (fun e1 => ?_) (fun e1 => ?_)⟩
  · have en : n = 6 := by have := eq_int' e1; omega
    subst en
    refine ⟨_, rfl, _, rfl, _, rfl, ?_⟩
    exact use_span W.ro W.rs W.len W.bd (fun hv r H' hS => q1 hv H' hS) q2
  refine ⟨_, rfl, rfl, _, rfl, ite3 (fun e2 => ?_) (fun e2 => ?_)⟩
  · have en : n = 7 := by have := eq_int' e2; omega
    subst en
    refine ⟨_, rfl, _, rfl, _, rfl, _, rfl, ?_⟩
    exact use_isspan (ns := [a1, a2]) W.ro W.rs W.len W.bd W.sl five_bb (fun hv r H' hS => q1 hv H' hS) q2
  refine ⟨_, rfl, rfl, _, rfl, ite3 (fun e3 => ?_) (fun e3 => ?_)⟩
  · have en : n = 8 := by have := eq_int' e3; omega
    subst en
    refine ⟨_, rfl, _, rfl, b, _, _, _, rfl, rfl, W.sl, atI_nat (j := 0) rfl, ?_⟩
    exact use_differ W.l1 (by decide) (fun hv r H' hS => q1 hv H' hS) q2
  refine ⟨_, rfl, rfl, _, rfl, ite3 (fun e4 => ?_) (fun e4 => ?_)⟩
  · have en : n = 9 := by have := eq_int' e4; omega
    subst en
    refine ⟨_, rfl, _, rfl, b, _, _, _, rfl, rfl, W.sl, atI_nat (j := 0) rfl, ?_⟩
    exact use_differ (by decide) W.l1 (fun hv r H' hS => q1 hv H' hS) q2
  refine ⟨_, rfl, rfl, _, rfl, ite3 (fun e5 => ?_) (fun e5 => ?_)⟩
  · have en : n = 11 := by have := eq_int' e5; omega
    subst en
    refine ⟨_, rfl, _, rfl, _, rfl, _, rfl, ?_⟩
    exact use_isspan (ns := [a1, a2]) W.ro W.rs W.len W.bd W.sl five_bb (fun hv r H' hS => q1 hv H' hS) q2
  · have e0 := ne_int e
    have e1' := ne_int e1
    have e2' := ne_int e2
    have e3' := ne_int e3
    have e4' := ne_int e4
    have e5' := ne_int e5
    have en : n = 10 := by omega
    subst en
    refine ⟨_, rfl, 1, rfl, _, rfl, _, rfl, _, rfl, b, _, rfl, W.sl, fun p hp => ?_⟩
    have hS := Same.upd (o := .lst (cutV [.int a1, .int a2] (some 1) none)) hp
    refine ⟨_, rfl, ?_⟩
    exact ⟨d, k, some 2, x, p, [a2], rfl, SqL.of upd_same, fun H' hS' => q2 not_moved H' (hS.trans hS')⟩
end
end Ts
namespace L2
open PySem PySem.Spec PyProof.Rows
theorem boot_VE : bootBuiltins "ValueError" = some (.type "ValueError") := by decide +kernel
theorem call_isEK {X : Cx} {K : PySem.W.Frag} {a C : Addr} {ob : Obj} (hK : X.K = K) (hp : (a, ob) ∈ X.pn) (hc : ob.cls = .ref C) (Z : ExcK K C) : CallR X (.builtin "isinstance") (fun xs H Q => ∃ c b, xs = [.ref a, c] ∧ clV c ≠ .none ∧ PySem.W.kitOne K (.ref C) (clV c) = some b ∧ Q (.bl b) H) := by
  subst hK
  exact call_isE hp hc Z
theorem pe_countT {X : Cx} {x : Str} {i : Nat} {p p2 apos cpos : Pos} {j : Nat} (h : PE X (.Name x p) (tVar i)) (hline : (apos.endLine == cpos.line) = true := by rfl) :
    PE X (.Call (.Attribute (.Name x p) "count" apos) [.Constant (.bool true) j p2] [] cpos) (fun σ H Q => ∃ v, σ[i]? = some (some v) ∧ ∃ (l : Addr) (bs : List Bool), v = .ref l ∧ H l = some (.lst (bs.map V.bl)) ∧ Q (.int ((bs.count true : Nat) : Int)) H) := by
  intro pins s σ H Q I hw
  obtain ⟨v, hv, l, bs, rfl, e, q⟩ := hw
  exact pe_bm PySem.F.plainAttrs_list PySem.F.slot_list_count PySem.F.type_list_count mt_countB h (pa_cons pe_bl pa_nil) rfl rfl hline rfl rfl pins s σ H Q I ⟨_, hv, .inl ⟨rfl, _, SqL.of e⟩, l, bs, rfl, rfl, e, q⟩
theorem pss_when {X : Cx} {ss : List Stmt} {t : TS} {p : Prop} (h : p → PSs X ss t) : PSs X ss (fun D σ H => p ∧ t D σ H) := fun pins s σ H D I hw => h hw.1 pins s σ H D I hw.2
theorem ph_asC {X : Cx} {x n : Str} {c : Value} {C0 : Addr} {i : Nat} {np hpos : Pos} {suite : List Stmt} {b₀ : Stmt} {th : Addr → TS} {rest : List ExceptHandler} {T : Value → TS} (hm : X.mg x = some c) (hg : Gl X x) (hxe : X.xe = fun _ _ => False)
    (hN : X.N.Nodup) (hi : X.N[i]? = some n) (hl : X.env.scope.names.lookup n = some .local) (hs : ∀ a ob, ob.cls = .ref C0 → PSs (X.named a ob) (b₀ :: suite) (th a)) (hr : PH X rest T) (hd : (x == ("__debug__" : Str)) = false := by decide) :
    PH X (.ExceptHandler (some (.Name x np)) (some n) (b₀ :: suite) hpos :: rest) (fun C D σ H => ∃ b, PySem.W.exmOne X.K C c = some b ∧ ((b = true ∧ C = .ref C0 ∧ ∀ a, th a (onlyRet D) (σ.set i (some (.ref a))) H) ∨ (b = false ∧ T C D σ H))) := by
  intro pins s σ H D a C U h
  obtain ⟨b, hb, h⟩ := h
  refine ph_as (th := fun a C D σ H => C = .ref C0 ∧ th a D σ H) hm hg hxe hN hi hl (fun a ob => pss_when (hs a ob)) hr hd pins s σ H D a C U ⟨b, hb, ?_⟩
  rcases h with ⟨rfl, e, h⟩ | h
  · exact .inl ⟨rfl, fun a => ⟨e, h a⟩⟩
  · exact .inr h
end L2
namespace Ts
open PySem L2
structure Ex (K : PySem.W.Frag) (c : Ec) (SL : Addr) : Prop where
  eq : ∀ u v : Wd, u ≠ .done → v ≠ .done → PySem.W.exmOne K (.ref (c.at u)) (.ref (c.at v)) = some (decide (u = v))
  sup : ∀ u : Wd, PySem.W.exmOne K (.ref (c.at u)) (.ref SL) = some true
  one : ∀ u v : Wd, u ≠ .done → v ≠ .done → PySem.W.kitOne K (.ref (c.at u)) (.ref (c.at v)) = some (decide (u = v))
  val : ∀ u : Wd, PySem.W.kitOne K (.ref (c.at u)) (.type "ValueError") = some true
  ek : ∀ u : Wd, ExcK K (c.at u)
structure Nm (mg : Str → Option Value) (c : Ec) (SL : Addr) : Prop where
  D : mg "BadDepth" = some (.ref c.D)
  K : mg "BadKey" = some (.ref c.K)
  N : mg "BadNumber" = some (.ref c.N)
  S : mg "BadSpan" = some (.ref c.S)
  T : mg "NotTaken" = some (.ref c.T)
  L : mg "SlipError" = some (.ref SL)
  V : mg "ValueError" = none
def wordOf : Wd → Str
  | .done => "done"
  | .depth => "depth"
  | .key => "key"
  | .number => "number"
  | .span => "span"
  | .taken => "taken"
theorem list7 {α : Type} : ∀ {l : List α}, l.length = 7 → ∃ a b c d e f g, l = [a, b, c, d, e, f, g]
  | [a, b, c, d, e, f, g], _ => ⟨a, b, c, d, e, f, g, rfl⟩
theorem list8 {α : Type} : ∀ {l : List α}, l.length = 8 → ∃ a b c d e f g h, l = [a, b, c, d, e, f, g, h]
  | [a, b, c, d, e, f, g, h], _ => ⟨a, b, c, d, e, f, g, h, rfl⟩
inductive spSaid (K : PySem.W.Frag) (vs : List V) (H : Hp) (Q : VK) (E_ : XK) : Prop where
  | mk (n : Nat) (d : Int) (l : Addr) (ts : List RowI) (k : Int) (x : Option Int) (b : Addr) (a1 a2 : Int) (f0 : vs = [.int (n : Int), .int d, .ref l, .int k, oV x, .ref b]) (f1 : n < 12) (f2 : Wy K H l ts b a1 a2) (f3 : ∀ H', Same H H' → Q (.str (wordOf (vWay n d (bareI ts) k x a1 a2))) H') : spSaid K vs H Q E_
inductive spRefuses (K : PySem.W.Frag) (vs : List V) (H : Hp) (Q : VK) (E_ : XK) : Prop where
  | mk (n : Nat) (d : Int) (l : Addr) (ts : List RowI) (k : Int) (x : Option Int) (b : Addr) (a1 a2 : Int) (f0 : vs = [.int (n : Int), .int d, .ref l, .int k, oV x, .ref b]) (f1 : n < 12) (f2 : Wy K H l ts b a1 a2) (f3 : ∀ H', Same H H' → Q (.bl (!decide (vWay n d (bareI ts) k x a1 a2 = .done))) H') : spRefuses K vs H Q E_
abbrev nSaid : List Str := ["_law_which", "_law_depth", "_law_rows", "_law_key", "_law_value", "_law_slip", "_law_word"]
abbrev nRefu : List Str := ["_law_which", "_law_depth", "_law_rows", "_law_key", "_law_value", "_law_slip", "e", "_law_under"]
section
variable {P : Program} {w : World} {K : PySem.W.Frag} {mg : Str → Option Value} {base : Heap} {f : Addr} {fd : FuncData} {c : Ec} {SL : Addr}
theorem scSaid : FnScope nSaid nWay (defScope sSaid) := ⟨rfl, rfl, rfl, by decide +kernel, rfl, by decide +kernel, by decide +kernel⟩
theorem scRefu : FnScope nRefu nWay (defScope sRefuses) := ⟨rfl, rfl, rfl, by decide +kernel, rfl, by decide +kernel, by decide +kernel⟩
theorem ok_said (F : Fun K "_law_said" "_law_said" sSaid f fd) (Z : Ex K c SL) (M : Nm mg c SL) (FW : HasX P w K mg base "_law_first_ways" 21 nWay (spWay K c 0 5)) (OW : HasX P w K mg base "_law_other_ways" 21 nWay (spWay K c 5 12)) : FnOk P w K mg base CX0 22 f fd nWay (spSaid K) := by
  refine F.ok scSaid (fun vs H Q E h => ?_) (fun cdv A outer s H vs Q E hr h => ?_)
  · obtain ⟨n, d, l, ts, k, x, b, a1, a2, rfl, _⟩ := h
    rfl
  obtain ⟨n, d, l, ts, k, x, b, a1, a2, rfl, h12, W, q⟩ := h
  generalize hv : vWay n d (bareI ts) k x a1 a2 = v at q
  refine ⟨_, pss_cons (ps_set (i := 6) scSaid.nd rfl (Or.inl rfl) pe_str)
    (pss_cons (ps_tryN (E := fun C _ H' => C = .ref (c.at v) ∧ v ≠ .done ∧ Same H H') rfl rfl
      (fun ps => pss_one (ps_if (pt_cmpR op_lt (pv 0) pe_int (nomark _))
        (pss_one (ps_expr (pe_hasX FW hr pass_catch (pa_cons (pv 0) (pa_cons (pv 1) (pa_cons (pv 2) (pa_cons (pv 3) (pa_cons (pv 4) (pa_cons (pv 5) pa_nil)))))))))
        (pss_one (ps_expr (pe_hasX OW hr pass_catch (pa_cons (pv 0) (pa_cons (pv 1) (pa_cons (pv 2) (pa_cons (pv 3) (pa_cons (pv 4) (pa_cons (pv 5) pa_nil)))))))))))
      (ph_cons M.D rfl rfl (fun u => pss_one (ps_set (i := 6) scSaid.nd rfl (Or.inl rfl) pe_str))
      (ph_cons M.K rfl rfl (fun u => pss_one (ps_set (i := 6) scSaid.nd rfl (Or.inl rfl) pe_str))
      (ph_cons M.N rfl rfl (fun u => pss_one (ps_set (i := 6) scSaid.nd rfl (Or.inl rfl) pe_str))
      (ph_cons M.S rfl rfl (fun u => pss_one (ps_set (i := 6) scSaid.nd rfl (Or.inl rfl) pe_str))
      (ph_cons M.T rfl rfl (fun u => pss_one (ps_set (i := 6) scSaid.nd rfl (Or.inl rfl) pe_str)) ph_nil))))))
    (pss_one (ps_ret (pv 6)))), ?_⟩
  refine ⟨?_, fun C H' hE σ' hl => ?_⟩
  · have a1' : vWay n d (bareI ts) k x a1 a2 = .done → ∀ H', Same H H' → Q (.str "done") H' := fun e H' hS => by
      rw [hv] at e
      subst e
      exact q H' hS
    have a2' : vWay n d (bareI ts) k x a1 a2 ≠ .done → Bad c H (fun C _ H' => C = .ref (c.at v) ∧ v ≠ .done ∧ Same H H') (vWay n d (bareI ts) k x a1 a2) := fun e H' hS => by
      rw [hv] at e ⊢
      exact ⟨rfl, e, hS⟩
    refine ⟨_, rfl, _, _, rfl, rfl, _, rfl, ite3 (fun e => ?_) (fun e => ?_)⟩
    · exact ⟨_, rfl, _, rfl, _, rfl, _, rfl, _, rfl, _, rfl, n, d, l, ts, k, x, b, a1, a2, rfl, Nat.zero_le _, by omega, W, fun e H' hS => ⟨_, rfl, a1' e H' hS⟩, a2'⟩
    · exact ⟨_, rfl, _, rfl, _, rfl, _, rfl, _, rfl, _, rfl, n, d, l, ts, k, x, b, a1, a2, rfl, by omega, h12, W, fun e H' hS => ⟨_, rfl, a1' e H' hS⟩, a2'⟩
  · obtain ⟨rfl, hd, hS⟩ := hE
    obtain ⟨z0, z1, z2, z3, z4, z5, z6, rfl⟩ := list7 hl
    cases v with
    | done => exact absurd rfl hd
    | depth => exact ⟨true, Z.eq .depth .depth (by decide) (by decide), .inl ⟨rfl, ⟨_, rfl, q H' hS⟩⟩⟩
    | key => exact ⟨false, Z.eq .key .depth (by decide) (by decide), .inr ⟨rfl, true, Z.eq .key .key (by decide) (by decide), .inl ⟨rfl, ⟨_, rfl, q H' hS⟩⟩⟩⟩
    | number => exact ⟨false, Z.eq .number .depth (by decide) (by decide), .inr ⟨rfl, false, Z.eq .number .key (by decide) (by decide), .inr ⟨rfl, true, Z.eq .number .number (by decide) (by decide), .inl ⟨rfl, ⟨_, rfl, q H' hS⟩⟩⟩⟩⟩
    | span => exact ⟨false, Z.eq .span .depth (by decide) (by decide), .inr ⟨rfl, false, Z.eq .span .key (by decide) (by decide), .inr ⟨rfl, false, Z.eq .span .number (by decide) (by decide), .inr ⟨rfl, true, Z.eq .span .span (by decide) (by decide), .inl ⟨rfl, ⟨_, rfl, q H' hS⟩⟩⟩⟩⟩⟩
    | taken => exact ⟨false, Z.eq .taken .depth (by decide) (by decide), .inr ⟨rfl, false, Z.eq .taken .key (by decide) (by decide), .inr ⟨rfl, false, Z.eq .taken .number (by decide) (by decide), .inr ⟨rfl, false, Z.eq .taken .span (by decide) (by decide), .inr ⟨rfl, true, Z.eq .taken .taken (by decide) (by decide), .inl ⟨rfl, ⟨_, rfl, q H' hS⟩⟩⟩⟩⟩⟩⟩
theorem ref_ne {a : Addr} : clV (V.ref a) ≠ Value.none := fun z => nomatch z
theorem ty_ne {n : String} : clV (V.ty n) ≠ Value.none := fun z => nomatch z
theorem one_true {v : Wd} (h : v ≠ .done) : (([decide (v = .number), decide (v = .depth), decide (v = .key)] ++ [decide (v = .span), decide (v = .taken)]).count true) = 1 := by
  cases v with
  | done => exact absurd rfl h
  | _ => decide
theorem ok_refuses (F : Fun K "_law_refuses" "_law_refuses" sRefuses f fd) (T : Blt mg) (Z : Ex K c SL) (M : Nm mg c SL) (FW : HasX P w K mg base "_law_first_ways" 21 nWay (spWay K c 0 5)) (OW : HasX P w K mg base "_law_other_ways" 21 nWay (spWay K c 5 12)) : FnOk P w K mg base CX0 22 f fd nWay (spRefuses K) := by
  refine F.ok scRefu (fun vs H Q E h => ?_) (fun cdv A outer s H vs Q E hr h => ?_)
  · obtain ⟨n, d, l, ts, k, x, b, a1, a2, rfl, _⟩ := h
    rfl
  obtain ⟨n, d, l, ts, k, x, b, a1, a2, rfl, h12, W, q⟩ := h
  generalize hv : vWay n d (bareI ts) k x a1 a2 = v at q
  have mm : ∀ {l : List (Addr × Obj)} {y : Addr × Obj}, y ∈ l ++ [y] := fun {l y} => List.mem_append_right _ (List.mem_singleton.mpr rfl)
  refine ⟨_, pss_cons (ps_tryN (E := fun C _ H' => C = .ref (c.at v) ∧ v ≠ .done ∧ Same H H') rfl rfl
      (fun ps => pss_one (ps_if (pt_cmpR op_lt (pv 0) pe_int (nomark _))
        (pss_one (ps_expr (pe_hasX FW hr pass_catch (pa_cons (pv 0) (pa_cons (pv 1) (pa_cons (pv 2) (pa_cons (pv 3) (pa_cons (pv 4) (pa_cons (pv 5) pa_nil)))))))))
        (pss_one (ps_expr (pe_hasX OW hr pass_catch (pa_cons (pv 0) (pa_cons (pv 1) (pa_cons (pv 2) (pa_cons (pv 3) (pa_cons (pv 4) (pa_cons (pv 5) pa_nil)))))))))))
      (ph_asC (i := 6) (C0 := c.at v) M.L rfl rfl scRefu.nd rfl rfl
        (fun a ob ho => pss_cons (ps_set (i := 7) scRefu.nd rfl (Or.inl rfl) (pe_lst
            (pa_cons (pe_callB (call_isEK (K := K) rfl mm ho (Z.ek v)) rfl T.isi PyProof.Rows.boot_isinstance (pa_cons (pv 6) (pa_cons (pe_glob (v := .ref c.N) rfl M.N rfl) pa_nil)))
            (pa_cons (pe_callB (call_isEK (K := K) rfl mm ho (Z.ek v)) rfl T.isi PyProof.Rows.boot_isinstance (pa_cons (pv 6) (pa_cons (pe_glob (v := .ref c.D) rfl M.D rfl) pa_nil)))
            (pa_cons (pe_callB (call_isEK (K := K) rfl mm ho (Z.ek v)) rfl T.isi PyProof.Rows.boot_isinstance (pa_cons (pv 6) (pa_cons (pe_glob (v := .ref c.K) rfl M.K rfl) pa_nil))) pa_nil)))))
          (pss_cons (ps_set (i := 7) scRefu.nd rfl (Or.inl rfl) (pe_op op_cat (pv 7) (pe_lst
            (pa_cons (pe_callB (call_isEK (K := K) rfl mm ho (Z.ek v)) rfl T.isi PyProof.Rows.boot_isinstance (pa_cons (pv 6) (pa_cons (pe_glob (v := .ref c.S) rfl M.S rfl) pa_nil)))
            (pa_cons (pe_callB (call_isEK (K := K) rfl mm ho (Z.ek v)) rfl T.isi PyProof.Rows.boot_isinstance (pa_cons (pv 6) (pa_cons (pe_glob (v := .ref c.T) rfl M.T rfl) pa_nil))) pa_nil)))))
          (pss_one (ps_ret (pe_and (pe_callB (call_isEK (K := K) rfl mm ho (Z.ek v)) rfl T.isi PyProof.Rows.boot_isinstance (pa_cons (pv 6) (pa_cons (pe_bltn (v := .ty "ValueError") rfl M.V boot_VE rfl) pa_nil)))
            (pe_one (pe_cmpR op_eq (pe_countT (pv 7)) pe_int (nomark _))))))))
        ph_nil))
    (pss_one (ps_ret pe_bl)), ?_⟩
  refine ⟨?_, fun C H' hE σ' hl => ?_⟩
  · have a1' : vWay n d (bareI ts) k x a1 a2 = .done → ∀ H', Same H H' → Q (.bl false) H' := fun e H' hS => by
      rw [hv] at e
      subst e
      exact q H' hS
    have a2' : vWay n d (bareI ts) k x a1 a2 ≠ .done → Bad c H (fun C _ H' => C = .ref (c.at v) ∧ v ≠ .done ∧ Same H H') (vWay n d (bareI ts) k x a1 a2) := fun e H' hS => by
      rw [hv] at e ⊢
      exact ⟨rfl, e, hS⟩
    refine ⟨_, rfl, _, _, rfl, rfl, _, rfl, ite3 (fun e => ?_) (fun e => ?_)⟩
    · exact ⟨_, rfl, _, rfl, _, rfl, _, rfl, _, rfl, _, rfl, n, d, l, ts, k, x, b, a1, a2, rfl, Nat.zero_le _, by omega, W, fun e H' hS => a1' e H' hS, a2'⟩
    · exact ⟨_, rfl, _, rfl, _, rfl, _, rfl, _, rfl, _, rfl, n, d, l, ts, k, x, b, a1, a2, rfl, by omega, h12, W, fun e H' hS => a1' e H' hS, a2'⟩
  · obtain ⟨rfl, hd, hS⟩ := hE
    obtain ⟨z0, z1, z2, z3, z4, z5, z6, z7, rfl⟩ := list8 hl
    have qt : ∀ H', Same H H' → Q (.bl true) H' := fun H' hS => by
      have := q H' hS
      rw [decide_eq_false hd] at this
      exact this
    refine ⟨true, Z.sup v, .inl ⟨rfl, rfl, fun a => ?_⟩⟩
    refine ⟨_, rfl, _, _, rfl, ref_ne, Z.one v .number hd (by decide), _, rfl, _, _, rfl, ref_ne, Z.one v .depth hd (by decide), _, rfl, _, _, rfl, ref_ne, Z.one v .key hd (by decide), (show 3 ≤ sizeLine by decide), fun p1 hp1 => ?_⟩
    have S1 := Same.upd (o := .lst [.bl (decide (v = .number)), .bl (decide (v = .depth)), .bl (decide (v = .key))]) hp1
    refine ⟨_, rfl, _, rfl, _, _, rfl, ref_ne, Z.one v .span hd (by decide), _, rfl, _, _, rfl, ref_ne, Z.one v .taken hd (by decide), (show 2 ≤ sizeLine by decide), fun p2 hp2 => ?_⟩
    have S2 := Same.upd (o := .lst [.bl (decide (v = .span)), .bl (decide (v = .taken))]) hp2
    refine ⟨p1, p2, _, _, rfl, rfl, S2 _ _ upd_same, upd_same, (show 5 ≤ sizeLine by decide), fun p3 hp3 => ?_⟩
    have S3 := Same.upd (o := .lst ([.bl (decide (v = .number)), .bl (decide (v = .depth)), .bl (decide (v = .key))] ++ [.bl (decide (v = .span)), .bl (decide (v = .taken))])) hp3
    refine ⟨_, rfl, _, _, rfl, ty_ne, Z.val v, true, rfl, iteB1 rfl ?_⟩
    refine ⟨_, rfl, p3, [decide (v = .number), decide (v = .depth), decide (v = .key)] ++ [decide (v = .span), decide (v = .taken)], rfl, upd_same, rfl, ?_⟩
    rw [one_true hd]
    exact qt _ (hS.trans (S1.trans (S2.trans S3)))
end
end Ts
namespace Ts
open PySem L2
inductive spAsDue (K : PySem.W.Frag) (vs : List V) (H : Hp) (Q : VK) (E_ : XK) : Prop where
  | mk (n : Nat) (d : Int) (l : Addr) (ts : List RowI) (k : Int) (x : Option Int) (b : Addr) (a1 a2 : Int) (f0 : vs = [.str (wordOf (vWay n d (bareI ts) k x a1 a2)), .int (n : Int), .int d, .ref l, .int k, oV x, .ref b]) (f1 : n < 12) (f2 : Wy K H l ts b a1 a2) (f3 : ∀ H', Same H H' → Q (.bl true) H') : spAsDue K vs H Q E_
theorem said_as (v : Wd) : (!decide (V.bl (!decide (v = .done)) = V.bl (!decide (V.str (wordOf v) = V.str "done")))) = false := by cases v <;> decide +kernel
abbrev nAsDue : List Str := ["_law_due", "_law_which", "_law_depth", "_law_rows", "_law_key", "_law_value", "_law_slip"]
section
variable {P : Program} {w : World} {K : PySem.W.Frag} {mg : Str → Option Value} {base : Heap} {f : Addr} {fd : FuncData}
theorem scAsDue : FnScope nAsDue nAsDue (defScope sAsDue) := ⟨rfl, rfl, rfl, by decide +kernel, rfl, by decide +kernel, by decide +kernel⟩
theorem ok_asdue (F : Fun K "_law_as_due" "_law_as_due" sAsDue f fd) (RF : Has P w K mg base "_law_refuses" 22 nWay (spRefuses K)) (SD : Has P w K mg base "_law_said" 22 nWay (spSaid K)) : FnOk P w K mg base CX0 23 f fd nAsDue (spAsDue K) := by
  refine F.ok scAsDue (fun vs H Q E h => ?_) (fun cdv A outer s H vs Q E hr h => ?_)
  · obtain ⟨n, d, l, ts, k, x, b, a1, a2, rfl, _⟩ := h
    rfl
  obtain ⟨n, d, l, ts, k, x, b, a1, a2, rfl, h12, W, q⟩ := h
  refine ⟨_, pss_cons (ps_if (pt_cmpR op_ne (pe_has RF hr (pa_cons (pv 1) (pa_cons (pv 2) (pa_cons (pv 3) (pa_cons (pv 4) (pa_cons (pv 5) (pa_cons (pv 6) pa_nil))))))) (pe_cmpR op_ne (pv 0) pe_str (nomark _)) (nomark _)) pss_never pss_nil)
    (pss_one (ps_ret (pe_cmpR op_eq (pe_has SD hr (pa_cons (pv 1) (pa_cons (pv 2) (pa_cons (pv 3) (pa_cons (pv 4) (pa_cons (pv 5) (pa_cons (pv 6) pa_nil))))))) (pv 0) (nomark _)))), ?_⟩
  refine ⟨_, rfl, _, rfl, _, rfl, _, rfl, _, rfl, _, rfl, n, d, l, ts, k, x, b, a1, a2, rfl, h12, W, fun H1 hS1 => ?_⟩
  refine ⟨_, rfl, rfl, rfl, false, congrArg V.bl (said_as _), iteF ?_⟩
  refine ⟨_, rfl, _, rfl, _, rfl, _, rfl, _, rfl, _, rfl, n, d, l, ts, k, x, b, a1, a2, rfl, h12, W.same hS1, fun H2 hS2 => ?_⟩
  refine ⟨_, rfl, rfl, ?_⟩
  rw [decide_eq_true rfl]
  exact q H2 (hS1.trans hS2)
end
def isIn (n : Nat) (l : List Int) : Bool := inV (.int (n : Int)) (l.map V.int)
def negO : Option Int → Bool
  | none => false
  | some i => decide (i < 0)
def D12 (n : Nat) : Wd := if isIn n [4, 10] = true then .taken else .done
def D11 (n : Nat) (a2 : Int) : Wd := if n = 10 ∧ a2 < 0 then .number else D12 n
def D10 (n : Nat) (a1 a2 : Int) : Wd := if isIn n [3, 4, 7, 11] = true ∧ (a1 < 0 ∨ a2 < 0) then .number else D11 n a2
def D9 (n : Nat) (a1 a2 : Int) : Wd := if isIn n [1, 8, 9] = true ∧ a1 < 0 then .number else D10 n a1 a2
def D8 (n : Nat) (x : Option Int) (a1 a2 : Int) : Wd := if isIn n [3, 4, 10] = true ∧ negO x = true then .number else D9 n a1 a2
def D7 (n : Nat) (k : Int) (x : Option Int) (a1 a2 : Int) : Wd := if (n = 5 ∧ 1 < k) ∨ (n = 11 ∧ 0 < k) then .span else D8 n x a1 a2
def D6 (n : Nat) (c k : Int) (x : Option Int) (a1 a2 : Int) : Wd := if isIn n [0, 1, 8, 9] = false ∧ (k < 0 ∨ c ≤ k) then .key else D7 n k x a1 a2
def D5 (n : Nat) (low : Bool) (c k : Int) (x : Option Int) (a1 a2 : Int) : Wd := if isIn n [0, 2, 5, 6, 7, 11] = true ∧ low = true then .number else D6 n c k x a1 a2
def D4 (n : Nat) (bad low : Bool) (c k : Int) (x : Option Int) (a1 a2 : Int) : Wd := if isIn n [0, 2, 5, 6, 7, 11] = true ∧ bad = true then .key else D5 n low c k x a1 a2
theorem iteIn {n : Nat} {l : List Int} {A B : Prop} (h1 : isIn n l = true → A) (h2 : ¬ isIn n l = true → B) : if (if false = true then !inV (.int (n : Int)) (l.map V.int) else inV (.int (n : Int)) (l.map V.int)) = true then A else B := by
  have e : (if false = true then !inV (.int (n : Int)) (l.map V.int) else inV (.int (n : Int)) (l.map V.int)) = isIn n l := if_neg Bool.false_ne_true
  rw [e]
  by_cases h : isIn n l = true
  · rw [if_pos h]; exact h1 h
  · rw [if_neg h]; exact h2 h
theorem iteNotIn {n : Nat} {l : List Int} {A B : Prop} (h1 : isIn n l = false → A) (h2 : ¬ isIn n l = false → B) : if (if true = true then !inV (.int (n : Int)) (l.map V.int) else inV (.int (n : Int)) (l.map V.int)) = true then A else B := by
  have e : (if true = true then !inV (.int (n : Int)) (l.map V.int) else inV (.int (n : Int)) (l.map V.int)) = !isIn n l := if_pos rfl
  rw [e]
  cases h : isIn n l with
  | true => rw [if_neg (by decide)]; exact h2 (by rw [h]; decide)
  | false => rw [if_pos (by decide)]; exact h1 h
theorem wd_go {Q : VK} {H : Hp} {v u : Wd} (q : ∀ H', Same H H' → Q (.str (wordOf v)) H') (e : v = u) : ∀ H', Same H H' → Q (.str (wordOf u)) H' := e ▸ q
abbrev nDue : List Str := ["_law_which", "_law_count", "_law_rows", "_law_key", "_law_value", "_law_slip", "_law_keys", "_law_bad", "_law_one", "_law_low"]
section
variable {P : Program} {w : World} {K : PySem.W.Frag} {mg : Str → Option Value} {base : Heap} {f : Addr} {fd : FuncData}
theorem scDue : FnScope nDue ["_law_which", "_law_count", "_law_rows", "_law_key", "_law_value", "_law_slip"] (defScope sWordDue) := ⟨rfl, rfl, rfl, by decide +kernel, rfl, by decide +kernel, by decide +kernel⟩
variable {cdv : Value} {A : Around} {outer : List Env} {s : Shared} {H : Hp} {Q : VK} {E : XK} {n : Nat} {c k : Int} {l : Addr} {ts : List RowI} {x : Option Int} {b : Addr} {a1 a2 : Int}
theorem due12 (T : Blt mg) : ∃ tt, PSs (cxOf CX0 P w K mg base nDue "_law_word_due" (defScope sWordDue) f cdv A outer s H E).nox ((defBody sWordDue).drop 12) tt ∧ ∀ (ky one : Option V) (bad low : Bool) (H' : Hp), Same H H' → (∀ H'', Same H H'' → Q (.str (wordOf (D12 n))) H'') →
    tt { nx := fun _ H' => Q .non H', rt := Q } [some (.int (n : Int)), some (.int c), some (.ref l), some (.int k), some (oV x), some (.ref b), ky, some (.bl bad), one, some (.bl low)] H' := by
  refine ⟨_, pss_one (ps_ret (pe_ix ix_list (pe_lst (pa_cons pe_str (pa_cons pe_str pa_nil))) (pe_callTy call_int1 rfl T.int PyProof.Rows.boot_int (pa_cons (pe_cmpR op_in_seq (pv 0) (pe_lst (pa_int (pa_int pa_nil))) rfl) pa_nil)) (fun _ _ => rfl))), ?_⟩
  intro ky one bad low H' hS q
  refine ⟨(show 2 ≤ sizeLine by decide), fun p hp => ?_⟩
  have S1 := Same.upd (o := .lst [.str "done", .str "taken"]) hp
  refine ⟨_, rfl, (show 2 ≤ sizeLine by decide), fun p2 hp2 => ?_⟩
  have S2 := Same.upd (o := .lst [.int 4, .int 10]) hp2
  refine ⟨p2, _, rfl, .inl (SqL.of upd_same), rfl, rfl, .inr ⟨_, rfl, ?_⟩⟩
  refine ⟨p, _, _, .str (wordOf (D12 n)), rfl, rfl, SqL.of (S2 _ _ upd_same), ?_, q _ (hS.trans (S1.trans S2))⟩
  show atI [V.str "done", V.str "taken"] (if isIn n [4, 10] = true then 1 else 0) = some (.str (wordOf (D12 n)))
  unfold D12
  cases isIn n [4, 10] <;> rfl
theorem due11 (T : Blt mg) (W : Wy K H l ts b a1 a2) : ∃ tt, PSs (cxOf CX0 P w K mg base nDue "_law_word_due" (defScope sWordDue) f cdv A outer s H E).nox ((defBody sWordDue).drop 11) tt ∧ ∀ (ky one : Option V) (bad low : Bool) (H' : Hp), Same H H' → (∀ H'', Same H H'' → Q (.str (wordOf (D11 n a2))) H'') →
    tt { nx := fun _ H' => Q .non H', rt := Q } [some (.int (n : Int)), some (.int c), some (.ref l), some (.int k), some (oV x), some (.ref b), ky, some (.bl bad), one, some (.bl low)] H' := by
  obtain ⟨t', p', r'⟩ := due12 (P := P) (w := w) (K := K) (base := base) (f := f) (cdv := cdv) (A := A) (outer := outer) (s := s) (H := H) (Q := Q) (E := E) (n := n) (c := c) (k := k) (l := l) (x := x) (b := b) T
  refine ⟨_, pss_cons (ps_if (PW.pt (pw_and (pt_cmpR op_eq (pv 0) pe_int (nomark _)) (pw_and1 (pt_cmpR op_lt (pe_ix ix_list (pv 5) pe_int (fun _ _ => rfl)) pe_int (nomark _))))) (pss_one (ps_ret pe_str)) pss_nil) p', ?_⟩
  intro ky one bad low H' hS q
  refine ⟨_, rfl, rfl, _, rfl, ite3 (fun e => ?_) (fun e => iteF (r' _ _ _ _ H' hS (wd_go q (if_neg fun z => e (by rw [z.1]; rfl)))))⟩
  have en : n = 10 := by have := eq_int' e; omega
  refine ⟨_, rfl, b, _, _, _, rfl, rfl, (W.same hS).sl, atI_nat (j := 1) rfl, _, _, rfl, rfl, _, rfl, ite3 (fun e1 => ?_) (fun e1 => ?_)⟩
  · exact wd_go q (if_pos ⟨en, e1⟩) H' hS
  · exact r' _ _ _ _ H' hS (wd_go q (if_neg fun z => e1 z.2))
theorem due10 (T : Blt mg) (W : Wy K H l ts b a1 a2) : ∃ tt, PSs (cxOf CX0 P w K mg base nDue "_law_word_due" (defScope sWordDue) f cdv A outer s H E).nox ((defBody sWordDue).drop 10) tt ∧ ∀ (ky one : Option V) (bad low : Bool) (H' : Hp), Same H H' → (∀ H'', Same H H'' → Q (.str (wordOf (D10 n a1 a2))) H'') →
    tt { nx := fun _ H' => Q .non H', rt := Q } [some (.int (n : Int)), some (.int c), some (.ref l), some (.int k), some (oV x), some (.ref b), ky, some (.bl bad), one, some (.bl low)] H' := by
  obtain ⟨t', p', r'⟩ := due11 (P := P) (w := w) (base := base) (f := f) (cdv := cdv) (A := A) (outer := outer) (s := s) (Q := Q) (E := E) (n := n) (c := c) (k := k) (x := x) T W
  refine ⟨_, pss_cons (ps_if (PW.pt (pw_and (pt_cmpR op_in_seq (pv 0) (pe_lst (pa_int (pa_int (pa_int (pa_int pa_nil))))) rfl) (pw_and1 (pt_cmpR op_lt (pe_callB (call_minL rfl) rfl T.min PyProof.Rows.boot_min (pa_cons (pv 5) pa_nil)) pe_int (nomark _))))) (pss_one (ps_ret pe_str)) pss_nil) p', ?_⟩
  intro ky one bad low H' hS q
  refine ⟨_, rfl, (show 4 ≤ sizeLine by decide), fun p hp => ?_⟩
  have S1 := hS.trans (Same.upd (o := .lst [.int 3, .int 4, .int 7, .int 11]) hp)
  refine ⟨p, _, rfl, .inl (SqL.of upd_same), rfl, rfl, _, rfl, ?_⟩
  refine iteIn (l := [3, 4, 7, 11]) (fun e => ?_) (fun e => iteF (r' _ _ _ _ _ S1 (wd_go q (if_neg fun z => e z.1))))
  refine ⟨_, rfl, b, [a1, a2], rfl, (W.same S1).sl, Nat.succ_pos _, fun m hm hle => ⟨_, _, rfl, rfl, _, rfl, ite3 (fun e1 => ?_) (fun e1 => ?_)⟩⟩
  · refine wd_go q (if_pos ⟨e, ?_⟩) _ S1
    rcases List.mem_cons.mp hm with z | z
    · exact .inl (z ▸ e1)
    · exact .inr (List.mem_singleton.mp z ▸ e1)
  · refine r' _ _ _ _ _ S1 (wd_go q (if_neg fun z => ?_))
    have h1 := hle a1 List.mem_cons_self
    have h2 := hle a2 (List.mem_cons_of_mem _ List.mem_cons_self)
    rcases z.2 with y | y <;> omega
theorem due9 (T : Blt mg) (W : Wy K H l ts b a1 a2) : ∃ tt, PSs (cxOf CX0 P w K mg base nDue "_law_word_due" (defScope sWordDue) f cdv A outer s H E).nox ((defBody sWordDue).drop 9) tt ∧ ∀ (ky one : Option V) (bad low : Bool) (H' : Hp), Same H H' → (∀ H'', Same H H'' → Q (.str (wordOf (D9 n a1 a2))) H'') →
    tt { nx := fun _ H' => Q .non H', rt := Q } [some (.int (n : Int)), some (.int c), some (.ref l), some (.int k), some (oV x), some (.ref b), ky, some (.bl bad), one, some (.bl low)] H' := by
  obtain ⟨t', p', r'⟩ := due10 (P := P) (w := w) (base := base) (f := f) (cdv := cdv) (A := A) (outer := outer) (s := s) (Q := Q) (E := E) (n := n) (c := c) (k := k) (x := x) T W
  refine ⟨_, pss_cons (ps_if (PW.pt (pw_and (pt_cmpR op_in_seq (pv 0) (pe_lst (pa_int (pa_int (pa_int pa_nil)))) rfl) (pw_and1 (pt_cmpR op_lt (pe_ix ix_list (pv 5) pe_int (fun _ _ => rfl)) pe_int (nomark _))))) (pss_one (ps_ret pe_str)) pss_nil) p', ?_⟩
  intro ky one bad low H' hS q
  refine ⟨_, rfl, (show 3 ≤ sizeLine by decide), fun p hp => ?_⟩
  have S1 := hS.trans (Same.upd (o := .lst [.int 1, .int 8, .int 9]) hp)
  refine ⟨p, _, rfl, .inl (SqL.of upd_same), rfl, rfl, _, rfl, ?_⟩
  refine iteIn (l := [1, 8, 9]) (fun e => ?_) (fun e => iteF (r' _ _ _ _ _ S1 (wd_go q (if_neg fun z => e z.1))))
  refine ⟨_, rfl, b, _, _, _, rfl, rfl, (W.same S1).sl, atI_nat (j := 0) rfl, _, _, rfl, rfl, _, rfl, ite3 (fun e1 => ?_) (fun e1 => ?_)⟩
  · exact wd_go q (if_pos ⟨e, e1⟩) _ S1
  · exact r' _ _ _ _ _ S1 (wd_go q (if_neg fun z => e1 z.2))
theorem due8 (T : Blt mg) (W : Wy K H l ts b a1 a2) : ∃ tt, PSs (cxOf CX0 P w K mg base nDue "_law_word_due" (defScope sWordDue) f cdv A outer s H E).nox ((defBody sWordDue).drop 8) tt ∧ ∀ (ky one : Option V) (bad low : Bool) (H' : Hp), Same H H' → (∀ H'', Same H H'' → Q (.str (wordOf (D8 n x a1 a2))) H'') →
    tt { nx := fun _ H' => Q .non H', rt := Q } [some (.int (n : Int)), some (.int c), some (.ref l), some (.int k), some (oV x), some (.ref b), ky, some (.bl bad), one, some (.bl low)] H' := by
  obtain ⟨t', p', r'⟩ := due9 (P := P) (w := w) (base := base) (f := f) (cdv := cdv) (A := A) (outer := outer) (s := s) (Q := Q) (E := E) (n := n) (c := c) (k := k) (x := x) T W
  refine ⟨_, pss_cons (ps_if (PW.pt (pw_and (pt_cmpR op_in_seq (pv 0) (pe_lst (pa_int (pa_int (pa_int pa_nil)))) rfl) (pw_and (pt_cmp (pc_notN (pv 4))) (pw_and1 (pt_cmpR op_lt (pv 4) pe_int (nomark _)))))) (pss_one (ps_ret pe_str)) pss_nil) p', ?_⟩
  intro ky one bad low H' hS q
  refine ⟨_, rfl, (show 3 ≤ sizeLine by decide), fun p hp => ?_⟩
  have S1 := hS.trans (Same.upd (o := .lst [.int 3, .int 4, .int 10]) hp)
  refine ⟨p, _, rfl, .inl (SqL.of upd_same), rfl, rfl, _, rfl, ?_⟩
  refine iteIn (l := [3, 4, 10]) (fun e => ?_) (fun e => iteF (r' _ _ _ _ _ S1 (wd_go q (if_neg fun z => e z.1))))
  cases x with
  | none => exact ⟨_, rfl, _, rfl, iteB rfl (iteF (r' _ _ _ _ _ S1 (wd_go q (if_neg fun z => Bool.false_ne_true z.2))))⟩
  | some i =>
    refine ⟨_, rfl, _, rfl, iteB1 rfl ⟨_, rfl, _, _, rfl, rfl, _, rfl, ite3 (fun e1 => ?_) (fun e1 => ?_)⟩⟩
    · exact wd_go q (if_pos ⟨e, decide_eq_true e1⟩) _ S1
    · exact r' _ _ _ _ _ S1 (wd_go q (if_neg fun z => e1 (of_decide_eq_true z.2)))
theorem due7 (T : Blt mg) (W : Wy K H l ts b a1 a2) : ∃ tt, PSs (cxOf CX0 P w K mg base nDue "_law_word_due" (defScope sWordDue) f cdv A outer s H E).nox ((defBody sWordDue).drop 7) tt ∧ ∀ (ky one : Option V) (bad low : Bool) (H' : Hp), Same H H' → (∀ H'', Same H H'' → Q (.str (wordOf (D7 n k x a1 a2))) H'') →
    tt { nx := fun _ H' => Q .non H', rt := Q } [some (.int (n : Int)), some (.int c), some (.ref l), some (.int k), some (oV x), some (.ref b), ky, some (.bl bad), one, some (.bl low)] H' := by
  obtain ⟨t', p', r'⟩ := due8 (P := P) (w := w) (base := base) (f := f) (cdv := cdv) (A := A) (outer := outer) (s := s) (Q := Q) (E := E) (n := n) (c := c) (k := k) (x := x) T W
  refine ⟨_, pss_cons (ps_if (PW.pt (pw_or (PW.pt (pw_and (pt_cmpR op_eq (pv 0) pe_int (nomark _)) (pw_and1 (pt_cmpR op_gt (pv 3) pe_int (nomark _))))) (pw_or1 (PW.pt (pw_and (pt_cmpR op_eq (pv 0) pe_int (nomark _)) (pw_and1 (pt_cmpR op_gt (pv 3) pe_int (nomark _)))))))) (pss_one (ps_ret pe_str)) pss_nil) p', ?_⟩
  intro ky one bad low H' hS q
  refine ⟨_, rfl, rfl, _, rfl, ite3 (fun e => ?_) (fun e => iteF ?_)⟩
  · have en : n = 5 := by have := eq_int' e; omega
    refine ⟨_, rfl, _, _, rfl, rfl, _, rfl, ite3 (fun e1 => iteT ?_) (fun e1 => ?_)⟩
    · exact wd_go q (if_pos (.inl ⟨en, e1⟩)) H' hS
    · refine ⟨_, rfl, rfl, _, rfl, ite3 (fun e2 => ?_) (fun e2 => iteF (r' _ _ _ _ H' hS (wd_go q (if_neg fun z => ?_))))⟩
      · have := eq_int' e2
        omega
      · rcases z with z | z
        · exact e1 z.2
        · omega
  · have en := ne_int e
    refine ⟨_, rfl, rfl, _, rfl, ite3 (fun e2 => ?_) (fun e2 => iteF (r' _ _ _ _ H' hS (wd_go q (if_neg fun z => ?_))))⟩
    · have e3 : n = 11 := by have := eq_int' e2; omega
      refine ⟨_, rfl, _, _, rfl, rfl, _, rfl, ite3 (fun e1 => ?_) (fun e1 => ?_)⟩
      · exact wd_go q (if_pos (.inr ⟨e3, e1⟩)) H' hS
      · refine r' _ _ _ _ H' hS (wd_go q (if_neg fun z => ?_))
        rcases z with z | z
        · omega
        · exact e1 z.2
    · have := ne_int e2
      rcases z with z | z <;> omega
theorem due6 (T : Blt mg) (W : Wy K H l ts b a1 a2) : ∃ tt, PSs (cxOf CX0 P w K mg base nDue "_law_word_due" (defScope sWordDue) f cdv A outer s H E).nox ((defBody sWordDue).drop 6) tt ∧ ∀ (ky one : Option V) (bad low : Bool) (H' : Hp), Same H H' → (∀ H'', Same H H'' → Q (.str (wordOf (D6 n c k x a1 a2))) H'') →
    tt { nx := fun _ H' => Q .non H', rt := Q } [some (.int (n : Int)), some (.int c), some (.ref l), some (.int k), some (oV x), some (.ref b), ky, some (.bl bad), one, some (.bl low)] H' := by
  obtain ⟨t', p', r'⟩ := due7 (P := P) (w := w) (base := base) (f := f) (cdv := cdv) (A := A) (outer := outer) (s := s) (Q := Q) (E := E) (n := n) (c := c) (k := k) (x := x) T W
  refine ⟨_, pss_cons (ps_if (PW.pt (pw_and (pt_cmpR op_notIn_seq (pv 0) (pe_lst (pa_int (pa_int (pa_int (pa_int pa_nil))))) rfl) (pw_and1 (PW.pt (pw_or (pt_cmpR op_lt (pv 3) pe_int (nomark _)) (pw_or1 (pt_cmpR op_ge (pv 3) (pv 1) (nomark _)))))))) (pss_one (ps_ret pe_str)) pss_nil) p', ?_⟩
  intro ky one bad low H' hS q
  refine ⟨_, rfl, (show 4 ≤ sizeLine by decide), fun p hp => ?_⟩
  have S1 := hS.trans (Same.upd (o := .lst [.int 0, .int 1, .int 8, .int 9]) hp)
  refine ⟨p, _, rfl, .inl (SqL.of upd_same), rfl, rfl, _, rfl, ?_⟩
  refine iteNotIn (l := [0, 1, 8, 9]) (fun e => ?_) (fun e => iteF (r' _ _ _ _ _ S1 (wd_go q (if_neg fun z => e z.1))))
  refine ⟨_, rfl, _, _, rfl, rfl, _, rfl, ite3 (fun e1 => iteT ?_) (fun e1 => ?_)⟩
  · exact wd_go q (if_pos ⟨e, .inl e1⟩) _ S1
  · refine ⟨_, rfl, _, rfl, _, _, rfl, rfl, _, rfl, ite3 (fun e2 => ?_) (fun e2 => ?_)⟩
    · exact wd_go q (if_pos ⟨e, .inr e2⟩) _ S1
    · exact r' _ _ _ _ _ S1 (wd_go q (if_neg fun z => z.2.elim e1 e2))
theorem due5 (T : Blt mg) (W : Wy K H l ts b a1 a2) : ∃ tt, PSs (cxOf CX0 P w K mg base nDue "_law_word_due" (defScope sWordDue) f cdv A outer s H E).nox ((defBody sWordDue).drop 5) tt ∧ ∀ (ky one : Option V) (bad low : Bool) (H' : Hp), Same H H' → (∀ H'', Same H H'' → Q (.str (wordOf (D5 n low c k x a1 a2))) H'') →
    tt { nx := fun _ H' => Q .non H', rt := Q } [some (.int (n : Int)), some (.int c), some (.ref l), some (.int k), some (oV x), some (.ref b), ky, some (.bl bad), one, some (.bl low)] H' := by
  obtain ⟨t', p', r'⟩ := due6 (P := P) (w := w) (base := base) (f := f) (cdv := cdv) (A := A) (outer := outer) (s := s) (Q := Q) (E := E) (n := n) (c := c) (k := k) (x := x) T W
  refine ⟨_, pss_cons (ps_if (PW.pt (pw_and (pt_cmpR op_in_seq (pv 0) (pe_lst (pa_int (pa_int (pa_int (pa_int (pa_int (pa_int pa_nil))))))) rfl) (pw_and1 (pt_val (pv 9))))) (pss_one (ps_ret pe_str)) pss_nil) p', ?_⟩
  intro ky one bad low H' hS q
  refine ⟨_, rfl, (show 6 ≤ sizeLine by decide), fun p hp => ?_⟩
  have S1 := hS.trans (Same.upd (o := .lst [.int 0, .int 2, .int 5, .int 6, .int 7, .int 11]) hp)
  refine ⟨p, _, rfl, .inl (SqL.of upd_same), rfl, rfl, _, rfl, ?_⟩
  refine iteIn (l := [0, 2, 5, 6, 7, 11]) (fun e => ?_) (fun e => iteF (r' _ _ _ _ _ S1 (wd_go q (if_neg fun z => e z.1))))
  refine ⟨_, rfl, low, rfl, ?_⟩
  cases low with
  | true => exact iteT (wd_go q (if_pos ⟨e, rfl⟩) _ S1)
  | false => exact iteF (r' _ _ _ _ _ S1 (wd_go q (if_neg fun z => Bool.false_ne_true z.2)))
theorem due4 (T : Blt mg) (W : Wy K H l ts b a1 a2) : ∃ tt, PSs (cxOf CX0 P w K mg base nDue "_law_word_due" (defScope sWordDue) f cdv A outer s H E).nox ((defBody sWordDue).drop 4) tt ∧ ∀ (ky one : Option V) (bad low : Bool) (H' : Hp), Same H H' → (∀ H'', Same H H'' → Q (.str (wordOf (D4 n bad low c k x a1 a2))) H'') →
    tt { nx := fun _ H' => Q .non H', rt := Q } [some (.int (n : Int)), some (.int c), some (.ref l), some (.int k), some (oV x), some (.ref b), ky, some (.bl bad), one, some (.bl low)] H' := by
  obtain ⟨t', p', r'⟩ := due5 (P := P) (w := w) (base := base) (f := f) (cdv := cdv) (A := A) (outer := outer) (s := s) (Q := Q) (E := E) (n := n) (c := c) (k := k) (x := x) T W
  refine ⟨_, pss_cons (ps_if (PW.pt (pw_and (pt_cmpR op_in_seq (pv 0) (pe_lst (pa_int (pa_int (pa_int (pa_int (pa_int (pa_int pa_nil))))))) rfl) (pw_and1 (pt_val (pv 7))))) (pss_one (ps_ret pe_str)) pss_nil) p', ?_⟩
  intro ky one bad low H' hS q
  refine ⟨_, rfl, (show 6 ≤ sizeLine by decide), fun p hp => ?_⟩
  have S1 := hS.trans (Same.upd (o := .lst [.int 0, .int 2, .int 5, .int 6, .int 7, .int 11]) hp)
  refine ⟨p, _, rfl, .inl (SqL.of upd_same), rfl, rfl, _, rfl, ?_⟩
  refine iteIn (l := [0, 2, 5, 6, 7, 11]) (fun e => ?_) (fun e => iteF (r' _ _ _ _ _ S1 (wd_go q (if_neg fun z => e z.1))))
  refine ⟨_, rfl, bad, rfl, ?_⟩
  cases bad with
  | true => exact iteT (wd_go q (if_pos ⟨e, rfl⟩) _ S1)
  | false => exact iteF (r' _ _ _ _ _ S1 (wd_go q (if_neg fun z => Bool.false_ne_true z.2)))
end
end Ts
namespace Ts
open PySem L2
theorem fold_len : ∀ (l acc : List Int), (l.foldl PyProof.Rows.step_dedup acc).length ≤ acc.length + l.length ∧ ((l.foldl PyProof.Rows.step_dedup acc).length = acc.length + l.length ↔ (∀ x ∈ l, x ∉ acc) ∧ l.Nodup)
  | [], acc => ⟨Nat.le_refl _, by simp⟩
  | k :: l, acc => by
    rw [List.foldl_cons]
    by_cases h : acc.any (· == k) = true
    · have e : PyProof.Rows.step_dedup acc k = acc := if_pos h
      rw [e]
      obtain ⟨i1, i2⟩ := fold_len l acc
      have hk : k ∈ acc := by
        obtain ⟨y, hy, e⟩ := List.any_eq_true.mp h
        have e2 : y = k := by simpa using e
        exact e2 ▸ hy
      rw [List.length_cons]
      refine ⟨by omega, fun z => by omega, fun z => absurd hk (z.1 k List.mem_cons_self)⟩
    · have e : PyProof.Rows.step_dedup acc k = acc ++ [k] := if_neg h
      rw [e]
      obtain ⟨i1, i2⟩ := fold_len l (acc ++ [k])
      have hk : k ∉ acc := fun z => h (List.any_eq_true.mpr ⟨k, z, by simp⟩)
      rw [List.length_append, List.length_singleton] at i1 i2
      rw [List.length_cons]
      refine ⟨by omega, fun z => ?_, fun z => ?_⟩
      · have y := i2.mp (by omega)
        refine ⟨fun x hx => ?_, List.nodup_cons.mpr ⟨fun z2 => ?_, y.2⟩⟩
        · rcases List.mem_cons.mp hx with u | u
          · exact u ▸ hk
          · exact fun v => y.1 x u (List.mem_append_left _ v)
        · exact y.1 k z2 (List.mem_append_right _ List.mem_cons_self)
      · have nd := List.nodup_cons.mp z.2
        have := i2.mpr ⟨fun x hx v => ?_, nd.2⟩
        · omega
        · rcases List.mem_append.mp v with u | u
          · exact z.1 x (List.mem_cons_of_mem _ hx) u
          · rw [List.mem_singleton.mp u] at hx; exact nd.1 hx
theorem range_getD (ns : List Int) : (List.range ns.length).map (fun i => ns.getD i 0) = ns := by
  apply List.ext_getElem?
  intro i
  rw [List.getElem?_map]
  by_cases h : i < ns.length
  · rw [List.getElem?_range h, List.getElem?_eq_getElem h]
    show some (ns.getD i 0) = some ns[i]
    rw [List.getD_eq_getElem?_getD, List.getElem?_eq_getElem h]
    rfl
  · rw [List.getElem?_eq_none (l := ns) (by omega), List.getElem?_eq_none (l := List.range ns.length) (by rw [List.length_range]; omega)]
    rfl
theorem diffs_iff (ns : List Int) : diffs ns < ns.length ↔ ¬ ns.Nodup := by
  have h := fold_len ns []
  have e : diffs ns = (ns.foldl PyProof.Rows.step_dedup []).length := by
    unfold diffs PyProof.Rows.firstMet
    rw [range_getD]
  rw [e]
  simp only [List.length_nil, Nat.zero_add, List.not_mem_nil, not_false_eq_true, implies_true, true_and] at h
  constructor
  · intro z y
    have := h.2.mpr y
    omega
  · intro z
    have h1 := h.1
    have : (ns.foldl PyProof.Rows.step_dedup []).length ≠ ns.length := fun y => z (h.2.mp y)
    omega
theorem keys_iff {c : Int} {xs : List (Int × Int)} : ¬ KeysOk c xs ↔ ¬ (xs.map (·.1)).Nodup ∨ ∃ z ∈ xs.map (·.1), z < 0 ∨ c ≤ z := by
  constructor
  · intro h
    by_cases nd : (xs.map (·.1)).Nodup
    · right
      by_cases y : ∃ z ∈ xs.map (·.1), z < 0 ∨ c ≤ z
      · exact y
      · refine absurd ⟨fun x hx => ?_, nd⟩ h
        have := fun u => y ⟨x.1, List.mem_map.mpr ⟨x, hx, rfl⟩, u⟩
        constructor
        · by_cases g : x.1 < 0
          · exact absurd (.inl g) this
          · omega
        · by_cases g : c ≤ x.1
          · exact absurd (.inr g) this
          · omega
    · exact .inl nd
  · rintro (h | ⟨z, hz, h⟩) ok
    · exact h ok.2
    · obtain ⟨x, hx, rfl⟩ := List.mem_map.mp hz
      have := ok.1 x hx
      rcases h with h | h <;> omega
theorem vals_snoc {xs : List (Int × Int)} {x : Int × Int} : ¬ ValsOk (xs ++ [x]) ↔ ¬ ValsOk xs ∨ x.2 < 0 := by
  unfold ValsOk
  constructor
  · intro h
    by_cases g : x.2 < 0
    · exact .inr g
    · refine .inl fun z => h fun y hy => ?_
      rcases List.mem_append.mp hy with u | u
      · exact z y u
      · rw [List.mem_singleton.mp u]; omega
  · rintro (h | h) z
    · exact h fun y hy => z y (List.mem_append_left _ hy)
    · have := z x (List.mem_append_right _ List.mem_cons_self)
      omega
theorem due_eq {n d : Nat} {xs : List (Int × Int)} {k : Int} {x : Option Int} {a1 a2 : Int} {bad low : Bool} (h12 : n < 12) (h1 : 1 ≤ d) (h8 : d ≤ 8) (hb : bad = true ↔ ¬ KeysOk ((2 ^ d : Nat) : Int) xs) (hl : low = true ↔ ¬ ValsOk xs) :
    D4 n bad low ((2 ^ d : Nat) : Int) k x a1 a2 = vWay n (d : Int) xs k x a1 a2 := by
  have hd : dOk (d : Int) := ⟨by omega, by omega⟩
  have et : (d : Int).toNat = d := Int.toNat_natCast d
  have two : 2 ≤ 2 ^ d := Nat.pow_le_pow_right (n := 2) (by decide) h1
  have eK : ∀ k : Int, kOk (d : Int) k ↔ ¬ (k < 0 ∨ ((2 ^ d : Nat) : Int) ≤ k) := fun k => by
    unfold kOk
    rw [et]
    generalize ((2 ^ d : Nat) : Int) = c
    constructor
    · rintro ⟨u, v⟩ (z | z) <;> omega
    · intro z
      constructor
      · by_cases g : k < 0
        · exact absurd (.inl g) z
        · omega
      · by_cases g : c ≤ k
        · exact absurd (.inr g) z
        · omega
  have k0 : kOk (d : Int) 0 := (eK 0).mpr (by rintro (z | z) <;> omega)
  have k1 : kOk (d : Int) 1 := (eK 1).mpr (by rintro (z | z) <;> omega)
  have vT : vTop (d : Int) xs = if bad = true then .key else if low = true then .number else .done := by
    by_cases A : KeysOk ((2 ^ (d : Int).toNat : Nat) : Int) xs
    · have A' := A
      rw [et] at A'
      rw [if_neg (fun z => hb.mp z A')]
      by_cases B : ValsOk xs
      · rw [if_neg (fun z => hl.mp z B), vTop4 hd A B]
      · rw [if_pos (hl.mpr B), vTop3 hd A B]
    · have A' := A
      rw [et] at A'
      rw [if_pos (hb.mpr A'), vTop2 hd A]
  have hx : xOk x ↔ negO x = false := by
    cases x with
    | none => exact ⟨fun _ => rfl, fun _ i z => by cases z⟩
    | some i =>
      constructor
      · intro z
        have := z i rfl
        exact decide_eq_false (by omega)
      · intro z j e
        cases e
        have := of_decide_eq_false z
        omega
  have x3 : xOk (some 3) := fun i e => by cases e; decide
  have x2 : xOk (some 2) := fun i e => by cases e; decide
  have n2 : nsOk [a1, a2] ↔ ¬ (a1 < 0 ∨ a2 < 0) := by
    constructor
    · intro z y
      have u := z a1 List.mem_cons_self
      have v := z a2 (List.mem_cons_of_mem _ List.mem_cons_self)
      rcases y with y | y <;> omega
    · intro z y hy
      rcases List.mem_cons.mp hy with u | u
      · subst u
        by_cases g : y < 0
        · exact absurd (.inl g) z
        · omega
      · have u' := List.mem_singleton.mp u
        subst u'
        by_cases g : y < 0
        · exact absurd (.inr g) z
        · omega
  have n1 : nsOk [a2] ↔ ¬ a2 < 0 := by
    constructor
    · intro z y
      have v := z a2 List.mem_cons_self
      omega
    · intro z y hy
      have u' := List.mem_singleton.mp hy
      subst u'
      omega
  have kk := eK k
  generalize hc : ((2 ^ d : Nat) : Int) = c at kk
  clear eK two et hb hl
  rcases (by omega : n = 0 ∨ n = 1 ∨ n = 2 ∨ n = 3 ∨ n = 4 ∨ n = 5 ∨ n = 6 ∨ n = 7 ∨ n = 8 ∨ n = 9 ∨ n = 10 ∨ n = 11) with rfl | rfl | rfl | rfl | rfl | rfl | rfl | rfl | rfl | rfl | rfl | rfl
  · show _ = vTop (d : Int) xs
    rw [vT]
    cases bad <;> cases low <;> simp [D4, D5, D6, D7, D8, D9, D10, D11, D12, isIn, inV, eqV]
  · show _ = vRowsOf (d : Int) a1
    by_cases N1 : a1 < 0 <;> simp [D4, D5, D6, D7, D8, D9, D10, D11, D12, isIn, inV, eqV, vRowsOf, hd, N1]
  · show _ = vSlip (d : Int) xs k
    by_cases C : (k < 0 ∨ c ≤ k)
    · have C' : ¬ kOk (d : Int) k := fun z => kk.mp z C
      cases bad <;> cases low <;> simp [D4, D5, D6, D7, D8, D9, D10, D11, D12, isIn, inV, eqV, vSlip, vT, C, C']
    · have C' : kOk (d : Int) k := kk.mpr C
      cases bad <;> cases low <;> simp [D4, D5, D6, D7, D8, D9, D10, D11, D12, isIn, inV, eqV, vSlip, vT, C, C']
  · show _ = vTaken (d : Int) k x [a1, a2]
    by_cases C : (k < 0 ∨ c ≤ k)
    · have C' : ¬ kOk (d : Int) k := fun z => kk.mp z C
      simp [D4, D5, D6, isIn, inV, eqV, vTaken, hd, C, C']
    · have C' : kOk (d : Int) k := kk.mpr C
      cases X : negO x
      · have X' : xOk x := hx.mpr X
        by_cases N : (a1 < 0 ∨ a2 < 0)
        · have N' : ¬ nsOk [a1, a2] := fun z => n2.mp z N
          simp [D4, D5, D6, D7, D8, D9, D10, isIn, inV, eqV, vTaken, hd, C, C', X, X', N, N']
        · have N' : nsOk [a1, a2] := n2.mpr N
          simp [D4, D5, D6, D7, D8, D9, D10, D11, D12, isIn, inV, eqV, vTaken, hd, C, C', X, X', N, N']
      · have X' : ¬ xOk x := fun z => by rw [hx.mp z] at X; cases X
        simp [D4, D5, D6, D7, D8, isIn, inV, eqV, vTaken, hd, C, C', X, X']
  · show _ = vMoved (d : Int) k [a1, a2] x (some 3)
    by_cases C : (k < 0 ∨ c ≤ k)
    · have C' : ¬ kOk (d : Int) k := fun z => kk.mp z C
      simp [D4, D5, D6, isIn, inV, eqV, vMoved, vTaken, hd, C, C']
    · have C' : kOk (d : Int) k := kk.mpr C
      cases X : negO x
      · have X' : xOk x := hx.mpr X
        by_cases N : (a1 < 0 ∨ a2 < 0)
        · have N' : ¬ nsOk [a1, a2] := fun z => n2.mp z N
          simp [D4, D5, D6, D7, D8, D9, D10, isIn, inV, eqV, vMoved, vTaken, hd, C, C', X, X', N, N']
        · have N' : nsOk [a1, a2] := n2.mpr N
          simp [D4, D5, D6, D7, D8, D9, D10, D11, D12, isIn, inV, eqV, vMoved, vTaken, hd, C, C', X, X', N, N', x3]
      · have X' : ¬ xOk x := fun z => by rw [hx.mp z] at X; cases X
        simp [D4, D5, D6, D7, D8, isIn, inV, eqV, vMoved, vTaken, hd, C, C', X, X']
  · show _ = vSpan (d : Int) xs k 1
    by_cases C : (k < 0 ∨ c ≤ k)
    · have C' : ¬ kOk (d : Int) k := fun z => kk.mp z C
      cases bad <;> cases low <;> simp [D4, D5, D6, isIn, inV, eqV, vSpan, vT, C, C']
    · have C' : kOk (d : Int) k := kk.mpr C
      by_cases G : 1 < k
      · cases bad <;> cases low <;> simp [D4, D5, D6, D7, isIn, inV, eqV, vSpan, vT, C, C', k1, G]
      · cases bad <;> cases low <;> simp [D4, D5, D6, D7, D8, D9, D10, D11, D12, isIn, inV, eqV, vSpan, vT, C, C', k1, G]
  · show _ = vSpan (d : Int) xs 0 k
    by_cases C : (k < 0 ∨ c ≤ k)
    · have C' : ¬ kOk (d : Int) k := fun z => kk.mp z C
      cases bad <;> cases low <;> simp [D4, D5, D6, isIn, inV, eqV, vSpan, vT, C, C']
    · have C' : kOk (d : Int) k := kk.mpr C
      have G : ¬ k < 0 := fun z => C (.inl z)
      have C2 : ¬ c ≤ k := fun z => C (.inr z)
      cases bad <;> cases low <;> simp [D4, D5, D6, D7, D8, D9, D10, D11, D12, isIn, inV, eqV, vSpan, vT, C2, C', k0, G]
  · show _ = vIsSpan (d : Int) xs 0 k [a1, a2]
    by_cases C : (k < 0 ∨ c ≤ k)
    · have C' : ¬ kOk (d : Int) k := fun z => kk.mp z C
      cases bad <;> cases low <;> simp [D4, D5, D6, isIn, inV, eqV, vIsSpan, vSpan, vT, C, C']
    · have C' : kOk (d : Int) k := kk.mpr C
      have G : ¬ k < 0 := fun z => C (.inl z)
      have C2 : ¬ c ≤ k := fun z => C (.inr z)
      by_cases N : (a1 < 0 ∨ a2 < 0)
      · have N' : ¬ nsOk [a1, a2] := fun z => n2.mp z N
        cases bad <;> cases low <;> simp [D4, D5, D6, D7, D8, D9, D10, isIn, inV, eqV, vIsSpan, vSpan, vT, C2, C', k0, G, N, N']
      · have N' : nsOk [a1, a2] := n2.mpr N
        cases bad <;> cases low <;> simp [D4, D5, D6, D7, D8, D9, D10, D11, D12, isIn, inV, eqV, vIsSpan, vSpan, vT, C2, C', k0, G, N, N']
  · show _ = vDiffer (d : Int) a1 4
    by_cases N1 : a1 < 0 <;> simp [D4, D5, D6, D7, D8, D9, D10, D11, D12, isIn, inV, eqV, vDiffer, hd, N1]
  · show _ = vDiffer (d : Int) 4 a1
    by_cases N1 : a1 < 0 <;> simp [D4, D5, D6, D7, D8, D9, D10, D11, D12, isIn, inV, eqV, vDiffer, hd, N1]
  · show _ = vMoved (d : Int) k [a2] (some 2) x
    by_cases C : (k < 0 ∨ c ≤ k)
    · have C' : ¬ kOk (d : Int) k := fun z => kk.mp z C
      simp [D4, D5, D6, isIn, inV, eqV, vMoved, vTaken, hd, C, C']
    · have C' : kOk (d : Int) k := kk.mpr C
      by_cases N : a2 < 0
      · have N' : ¬ nsOk [a2] := fun z => n1.mp z N
        cases X : negO x
        · simp [D4, D5, D6, D7, D8, D9, D10, D11, isIn, inV, eqV, vMoved, vTaken, hd, C, C', X, N, N', x2]
        · simp [D4, D5, D6, D7, D8, isIn, inV, eqV, vMoved, vTaken, hd, C, C', X, N, N', x2]
      · have N' : nsOk [a2] := n1.mpr N
        cases X : negO x
        · have X' : xOk x := hx.mpr X
          simp [D4, D5, D6, D7, D8, D9, D10, D11, D12, isIn, inV, eqV, vMoved, vTaken, hd, C, C', X, X', N, N', x2]
        · have X' : ¬ xOk x := fun z => by rw [hx.mp z] at X; cases X
          simp [D4, D5, D6, D7, D8, isIn, inV, eqV, vMoved, vTaken, hd, C, C', X, X', N, N', x2]
  · show _ = vIsSpan (d : Int) xs k 0 [a1, a2]
    by_cases C : (k < 0 ∨ c ≤ k)
    · have C' : ¬ kOk (d : Int) k := fun z => kk.mp z C
      cases bad <;> cases low <;> simp [D4, D5, D6, isIn, inV, eqV, vIsSpan, vSpan, vT, C, C']
    · have C' : kOk (d : Int) k := kk.mpr C
      by_cases G : 0 < k
      · cases bad <;> cases low <;> simp [D4, D5, D6, D7, isIn, inV, eqV, vIsSpan, vSpan, vT, C, C', k0, G]
      · by_cases N : (a1 < 0 ∨ a2 < 0)
        · have N' : ¬ nsOk [a1, a2] := fun z => n2.mp z N
          cases bad <;> cases low <;> simp [D4, D5, D6, D7, D8, D9, D10, isIn, inV, eqV, vIsSpan, vSpan, vT, C, C', k0, G, N, N']
        · have N' : nsOk [a1, a2] := n2.mpr N
          cases bad <;> cases low <;> simp [D4, D5, D6, D7, D8, D9, D10, D11, D12, isIn, inV, eqV, vIsSpan, vSpan, vT, C, C', k0, G, N, N']
end Ts
namespace Ts
open PySem L2
theorem refsI_at {ts : List RowI} {i : Nat} {v : RowI} (h : ts[i]? = some v) : (refsI ts)[i]? = some (.ref v.1) := by unfold refsI; rw [List.getElem?_map, h]; rfl
theorem len_refsI (ts : List RowI) : (refsI ts).length = ts.length := List.length_map _
theorem keysI (ts : List RowI) : (bareI ts).map (·.1) = ts.map (·.2.1) := by unfold bareI; rw [List.map_map]; rfl
inductive spDue (K : PySem.W.Frag) (vs : List V) (H : Hp) (Q : VK) (E_ : XK) : Prop where
  | mk (n d : Nat) (l : Addr) (ts : List RowI) (k : Int) (x : Option Int) (b : Addr) (a1 a2 : Int) (f0 : vs = [.int (n : Int), .int ((2 ^ d : Nat) : Int), .ref l, .int k, oV x, .ref b]) (f1 : n < 12) (f2 : 1 ≤ d) (f3 : d ≤ 8) (f4 : ts.length ≤ 4) (f5 : Wy K H l ts b a1 a2) (f6 : ∀ H', Same H H' → Q (.str (wordOf (vWay n (d : Int) (bareI ts) k x a1 a2))) H') : spDue K vs H Q E_
section
variable {P : Program} {w : World} {K : PySem.W.Frag} {mg : Str → Option Value} {base : Heap} {f : Addr} {fd : FuncData}
theorem ok_due (F : Fun K "_law_word_due" "_law_word_due" sWordDue f fd) (T : Blt mg) (mS : mg "sorted" = none) (mT : mg "set" = none) : FnOk P w K mg base CX0 1 f fd ["_law_which", "_law_count", "_law_rows", "_law_key", "_law_value", "_law_slip"] (spDue K) := by
  refine F.ok scDue (fun vs H Q E h => ?_) (fun cdv A outer s H vs Q E hr h => ?_)
  · obtain ⟨n, d, l, ts, k, x, b, a1, a2, rfl, _⟩ := h
    rfl
  obtain ⟨n, d, l, ts, k, x, b, a1, a2, rfl, h12, hd1, hd8, h4, W, q⟩ := h
  obtain ⟨t4, p4, r4⟩ := due4 (P := P) (w := w) (base := base) (f := f) (cdv := cdv) (A := A) (outer := outer) (s := s) (Q := Q) (E := E) (n := n) (c := ((2 ^ d : Nat) : Int)) (k := k) (x := x) T W
  refine ⟨_, pss_cons (ps_comp (i0 := 6) (cl := []) (N := ["_law_row"]) (fr := [none]) rfl
      (block_none rfl (by decide +kernel) (by decide +kernel) (by show ∀ p ∈ relS _ (defScope sWordDue), _; decide +kernel)) rfl trivial
      (pi_list (pv 2)) (fun _ _ _ _ _ => pg_name (i := 0) (show (["_law_row"] : List Str).Nodup by decide) rfl (Or.inl rfl)) (fun _ _ _ _ _ => pifs_nil) (fun _ _ _ _ _ => pe_ix ix_tupK (pv 0) pe_int (fun _ _ => rfl)) scDue.nd rfl rfl)
    (pss_cons (ps_set (i := 7) scDue.nd rfl (Or.inl rfl) (pe_cmpR op_lt (pe_callB call_len_seq rfl T.len PySem.boot_len (pa_cons (pe_sortset rfl rfl mS rfl mT (pv 6)) pa_nil)) (pe_callB call_len_seq rfl T.len PySem.boot_len (pa_cons (pv 6) pa_nil)) (nomark _)))
    (pss_cons (ps_for PassesOwn.never rfl (pi_list (pv 6)) (pg_name (i := 8) scDue.nd rfl (Or.inl rfl))
      (pss_one (ps_set (i := 7) scDue.nd rfl (Or.inl rfl) (pe_or (pv 7) (pe_or (pe_cmpR op_lt (pv 8) pe_int (nomark _)) (pe_one (pe_cmpR op_ge (pv 8) (pv 1) (nomark _))))))))
    (pss_cons (ps_set (i := 9) scDue.nd rfl (Or.inl rfl) (pe_cmpR op_gt (pe_callB call_len_seq rfl T.len PySem.boot_len (pa_cons (pe_comp (cl := []) (N := ["_law_row"]) (fr := [none]) rfl
        (block_none rfl (by decide +kernel) (by decide +kernel) (by show ∀ p ∈ relS _ (defScope sWordDue), _; decide +kernel)) rfl trivial
        (pi_list (pv 2)) (fun _ _ _ _ _ => pg_name (i := 0) (show (["_law_row"] : List Str).Nodup by decide) rfl (Or.inl rfl))
        (fun _ _ _ _ _ => pifs_one (pt_cmpR op_lt (pe_ix ix_tupK (pv 0) pe_int (fun _ _ => rfl)) pe_int (nomark _))) (fun _ _ _ _ _ => pv 0)) pa_nil)) pe_int (nomark _))) p4))), ?_⟩
  have hkl : (ts.map (·.2.1)).length = ts.length := List.length_map _
  have hbk := keysI ts
  generalize hks : ts.map (·.2.1) = ks at hkl hbk
  generalize hc : ((2 ^ d : Nat) : Int) = c at r4 ⊢
  dsimp only [tSeq, tAsg]
  refine comp_listV (a := l) (xs := refsI ts) ?_ W.ro ts.length (by omega) (fun i ys τ H5 => H5 = H ∧ ∃ t0 : Option V, τ = [t0] ∧ ys = (ks.take i).map V.int) ?_ ?_ ?_ ?_
  · rfl
  · exact ⟨rfl, _, rfl, rfl⟩
  · rintro i ys τ H5 ⟨_, _, _, rfl⟩
    rw [List.length_map, List.length_take]
    omega
  · rintro i ys τ H5 hi ⟨rfl, t0, rfl, rfl⟩
    have hei : ts[i]? = some ts[i] := List.getElem?_eq_getElem hi
    have hem : ts[i] ∈ ts := List.getElem_mem hi
    generalize ts[i] = v at hei hem
    have hek : ks[i]? = some v.2.1 := by rw [← hks, List.getElem?_map, hei]; rfl
    refine ⟨⟨_, _, W.ro, refsI_at hei⟩, fun y H6 hy => ?_⟩
    obtain ⟨e1, e2⟩ := hy
    have e3 : y = .ref v.1 := by
      have := e2 _ W.ro
      rw [refsI_at hei] at this
      exact (Option.some.inj this).symm
    subst e1 e3
    refine gName_go ?_
    refine tYes_if ?_
    refine ⟨_, rfl, v.1, _, _, _, rfl, rfl, SqT.of (W.rs v hem), atI_nat (j := 0) rfl, rfl, _, rfl, ?_⟩
    rw [take_one hek, List.map_append]
    rfl
  · rintro ys τ H5 ⟨rfl, t0, rfl, rfl⟩
    refine ⟨⟨_, W.ro, by rw [len_refsI]; exact Nat.le_refl _⟩, fun ky hky => ?_⟩
    rw [← hkl, List.take_length]
    have S1 := Same.upd (o := .lst (ks.map V.int)) hky
    refine ⟨_, rfl, ky, ks, rfl, SqL.of upd_same, by omega, fun l2 ks2 hl2 hk2 => ?_⟩
    have S2 := S1.trans (Same.upd (o := .lst (ks2.map V.int)) hl2)
    have hkH := (Same.upd (o := .lst (ks2.map V.int)) hl2) _ _ (upd_same (H := H5) (a := ky) (o := .lst (ks.map V.int)))
    refine ⟨l2, _, rfl, .inl (SqL.of upd_same), _, rfl, ky, _, rfl, .inl (SqL.of hkH), _, _, rfl, rfl, ?_⟩
    have hb0 : decide (((ks2.map V.int).length : Int) < ((ks.map V.int).length : Int)) = true ↔ ¬ ks.Nodup := by
      rw [List.length_map, List.length_map, hk2, decide_eq_true_iff, ← diffs_iff]
      omega
    generalize upd (upd H5 ky (.lst (ks.map V.int))) l2 (.lst (ks2.map V.int)) = H2 at S2 hkH ⊢
    refine ⟨_, rfl, ky, rfl, ⟨_, SqL.of hkH⟩, ?_⟩
    refine for_list (xs := ks.map V.int) (fun i σ H' => H' = H2 ∧ ∃ (t8 t9 : Option V) (bd : Bool), σ = [some (.int (n : Int)), some (.int c), some (.ref l), some (.int k), some (oV x), some (.ref b), some (.ref ky), some (.bl bd), t8, t9] ∧ (bd = true ↔ ¬ ks.Nodup ∨ ∃ z ∈ ks.take i, z < 0 ∨ c ≤ z)) ?_ ?_ ?_ ?_
    · refine ⟨rfl, _, _, decide (((ks2.map V.int).length : Int) < ((ks.map V.int).length : Int)), rfl, hb0.trans ⟨.inl, fun z => z.elim id fun ⟨y, hy, _⟩ => nomatch hy⟩⟩
    · rintro i σ H' _ ⟨rfl, _⟩
      exact SqL.of hkH
    · rintro i y σ H' hy ⟨rfl, t8, t9, bd, rfl, hbd⟩
      rw [List.getElem?_map] at hy
      obtain ⟨z, hz, rfl⟩ := Option.map_eq_some_iff.mp hy
      have step : (∃ u ∈ ks.take (i + 1), u < 0 ∨ c ≤ u) ↔ (∃ u ∈ ks.take i, u < 0 ∨ c ≤ u) ∨ (z < 0 ∨ c ≤ z) := by
        rw [take_one hz]
        constructor
        · rintro ⟨u, hu, g⟩
          rcases List.mem_append.mp hu with m | m
          · exact .inl ⟨u, m, g⟩
          · rw [List.mem_singleton.mp m] at g; exact .inr g
        · rintro (⟨u, hu, g⟩ | g)
          · exact ⟨u, List.mem_append_left _ hu, g⟩
          · exact ⟨z, List.mem_append_right _ List.mem_cons_self, g⟩
      refine ⟨_, rfl, bd, rfl, ?_⟩
      cases bd with
      | true =>
        refine iteT ⟨rfl, _, _, true, rfl, ⟨fun _ => ?_, fun _ => rfl⟩⟩
        rcases hbd.mp rfl with g | g
        · exact .inl g
        · exact .inr (step.mpr (.inl g))
      | false =>
        have no : ¬ (¬ ks.Nodup ∨ ∃ u ∈ ks.take i, u < 0 ∨ c ≤ u) := fun g => Bool.false_ne_true (hbd.mpr g)
        refine iteF ⟨_, rfl, _, _, rfl, rfl, ?_⟩
        refine ⟨_, rfl, ite3 (fun e => ?_) (fun e => ?_)⟩
        · exact ⟨rfl, _, _, true, rfl, ⟨fun _ => .inr (step.mpr (.inr (.inl e))), fun _ => rfl⟩⟩
        · refine ⟨_, rfl, _, rfl, _, _, rfl, rfl, ?_⟩
          refine ⟨rfl, _, _, decide (c ≤ z), rfl, ⟨fun g => .inr (step.mpr (.inr (.inr (of_decide_eq_true g)))), fun g => decide_eq_true ?_⟩⟩
          rcases g with g | g
          · exact absurd (.inl g) no
          · rcases step.mp g with g | g | g
            · exact absurd (.inr g) no
            · exact absurd g e
            · exact g
    · rintro σ H' ⟨rfl, t8, t9, bd, rfl, hbd⟩
      rw [List.length_map, List.take_length] at hbd
      have hbad : bd = true ↔ ¬ KeysOk c (bareI ts) := by rw [keys_iff, hbk]; exact hbd
      have W2 := W.same S2
      dsimp only [tSeq, tAsg, tOp, tCB, tCons, tNil]
      refine comp_listV (a := l) (xs := refsI ts) ?_ W2.ro ts.length (by omega) (fun i ys τ H5 => H5 = H' ∧ ∃ (t0 : Option V) (us : List RowI), τ = [t0] ∧ ys = refsI us ∧ us.length ≤ i ∧ (0 < us.length ↔ ¬ ValsOk (bareI (ts.take i)))) ?_ ?_ ?_ ?_
      · rfl
      · exact ⟨rfl, _, [], rfl, rfl, Nat.le_refl _, fun z => absurd z (Nat.lt_irrefl 0), fun z => absurd (fun y hy => nomatch hy) z⟩
      · rintro i ys τ H7 ⟨_, _, us, _, rfl, hz, _⟩
        rw [len_refsI]; exact hz
      · rintro i ys τ H7 hi ⟨rfl, t0, us, rfl, rfl, hz, hV⟩
        have hei : ts[i]? = some ts[i] := List.getElem?_eq_getElem hi
        have hem : ts[i] ∈ ts := List.getElem_mem hi
        generalize ts[i] = v at hei hem
        refine ⟨⟨_, _, W2.ro, refsI_at hei⟩, fun y H6 hy => ?_⟩
        obtain ⟨e1, e2⟩ := hy
        have e3 : y = .ref v.1 := by
          have := e2 _ W2.ro
          rw [refsI_at hei] at this
          exact (Option.some.inj this).symm
        subst e1 e3
        have ht : bareI (ts.take (i + 1)) = bareI (ts.take i) ++ [v.2] := by
          rw [take_one hei]
          unfold bareI
          rw [List.map_append]
          rfl
        refine gName_go ?_
        refine ⟨_, rfl, v.1, _, _, _, rfl, rfl, SqT.of (W2.rs v hem), atI_nat (j := 1) rfl, _, _, rfl, rfl, _, rfl, ite3 (fun e => ?_) (fun e => ?_)⟩
        · refine ⟨_, rfl, rfl, _, us ++ [v], rfl, ?_, ?_, ?_⟩
          · unfold refsI; rw [List.map_append]; rfl
          · rw [List.length_append]; show us.length + 1 ≤ i + 1; omega
          · rw [ht, vals_snoc]
            refine ⟨fun _ => .inr e, fun _ => ?_⟩
            rw [List.length_append]
            exact Nat.succ_pos _
        · refine ⟨rfl, _, us, rfl, rfl, by omega, ?_⟩
          rw [ht, vals_snoc, hV]
          exact ⟨.inl, fun z => z.elim id fun y => absurd y e⟩
      · rintro ys τ H7 ⟨rfl, t0, us, rfl, rfl, _, hV⟩
        refine ⟨⟨_, W2.ro, by rw [len_refsI]; exact Nat.le_refl _⟩, fun l3 hl3 => ?_⟩
        rw [List.take_length] at hV
        have S3 := S2.trans (Same.upd (o := .lst (refsI us)) hl3)
        refine ⟨l3, _, rfl, .inl (SqL.of upd_same), _, _, rfl, rfl, ?_⟩
        have hlow : decide ((0 : Int) < ((refsI us).length : Int)) = true ↔ ¬ ValsOk (bareI ts) := by
          rw [len_refsI, decide_eq_true_iff, ← hV]
          omega
        refine r4 _ _ bd _ _ S3 (wd_go q (Eq.symm ?_))
        subst hc
        exact due_eq h12 hd1 hd8 hbad hlow
end
end Ts
namespace Ts
open PySem L2
theorem way_depth {n : Nat} {d : Int} {xs : List (Int × Int)} {k : Int} {x : Option Int} {a1 a2 : Int} (h : ¬ dOk d) : vWay n d xs k x a1 a2 = .depth := by
  have eT : vTop d xs = .depth := vTop1 h
  have eS : ∀ fi l, vSpan d xs fi l = .depth := fun fi l => by
    unfold vSpan
    rw [if_pos (by rw [eT]; decide), eT]
  have eI : ∀ fi l ns, vIsSpan d xs fi l ns = .depth := fun fi l ns => by
    unfold vIsSpan
    rw [if_pos (by rw [eS]; decide), eS]
  have eK : ∀ k y ns, vTaken d k y ns = .depth := fun k y ns => if_pos h
  have eM : ∀ k ns y z, vMoved d k ns y z = .depth := fun k ns y z => by
    unfold vMoved
    rw [if_pos (by rw [eK]; decide), eK]
  have eD : ∀ a b, vDiffer d a b = .depth := fun a b => if_pos h
  unfold vWay
  split
  · exact eT
  · exact if_pos h
  · unfold vSlip
    rw [if_pos (by rw [eT]; decide), eT]
  · exact eK _ _ _
  · exact eM _ _ _ _
  · exact eS _ _
  · exact eS _ _
  · exact eI _ _ _
  · exact eD _ _
  · exact eD _ _
  · exact eI _ _ _
  · exact eM _ _ _ _
structure Wl (H : Hp) (p l b : Addr) (ns : List Int) (ts : List RowI) (a1 a2 : Int) (M : Nat) : Prop where
  sc : H p = some (.lst (ns.map V.int))
  ro : H l = some (.lst (refsI ts))
  rs : RowsI H ts
  len : ts.length ≤ M
  bd : ∀ x ∈ bareI ts, x.2 < 2 ^ 60
  sl : H b = some (.lst [.int a1, .int a2])
  l1 : a1 < 9
  l2 : a2 < 9
  pb : p ≠ b
  lb : l ≠ b
theorem Wl.same {H H' : Hp} {p l b : Addr} {ns : List Int} {ts : List RowI} {a1 a2 : Int} {M : Nat} (W : Wl H p l b ns ts a1 a2 M) (e : Same H H') : Wl H' p l b ns ts a1 a2 M := ⟨e _ _ W.sc, e _ _ W.ro, W.rs.same e, W.len, W.bd, e _ _ W.sl, W.l1, W.l2, W.pb, W.lb⟩
theorem Wl.more {H : Hp} {p l b : Addr} {ns : List Int} {ts : List RowI} {a1 a2 : Int} {M M' : Nat} (W : Wl H p l b ns ts a1 a2 M) (h : M ≤ M') : Wl H p l b ns ts a1 a2 M' := ⟨W.sc, W.ro, W.rs, Nat.le_trans W.len h, W.bd, W.sl, W.l1, W.l2, W.pb, W.lb⟩
theorem Wl.put {H : Hp} {p l b : Addr} {ns : List Int} {ts : List RowI} {a1 a2 b1 b2 : Int} {M : Nat} (W : Wl H p l b ns ts a1 a2 M) (h1 : b1 < 9) (h2 : b2 < 9) : Wl (upd H b (.lst [.int b1, .int b2])) p l b ns ts b1 b2 M :=
  ⟨by rw [upd_ne W.pb]; exact W.sc, by rw [upd_ne W.lb]; exact W.ro, fun r hr => by rw [upd_ne (ne_of (W.rs r hr) W.sl (by intro z; cases z))]; exact W.rs r hr, W.len, W.bd, upd_same, h1, h2, W.pb, W.lb⟩
theorem Wl.wy {K : PySem.W.Frag} {H : Hp} {p l b : Addr} {ns : List Int} {ts : List RowI} {a1 a2 : Int} (W : Wl H p l b ns ts a1 a2 4) : Wy K H l ts b a1 a2 := ⟨SqL.of W.ro, W.rs, by have := W.len; omega, W.bd, SqL.of W.sl, W.l1, W.l2⟩
abbrev nLaw : List Str := ["_law_script", "_law_depth", "_law_count", "_law_rows", "_law_k", "_law_key", "_law_value", "_law_slip", "_law_seed", "_law_way", "_law_deep", "_law_which", "_law_due"]
section
variable {P : Program} {w : World} {K : PySem.W.Frag} {mg : Str → Option Value} {base : Heap} {f : Addr} {fd : FuncData}
theorem scLaw : FnScope nLaw ["_law_script"] (defScope sLaw) := ⟨rfl, rfl, rfl, by decide +kernel, rfl, by decide +kernel, by decide +kernel⟩
variable {cdv : Value} {A : Around} {outer : List Env} {s : Shared} {H : Hp} {Q : VK} {E : XK} {ns : List Int} {d : Nat}
theorem law12 (T : Blt mg) (WD : Has P w K mg base "_law_word_due" 1 ["_law_which", "_law_count", "_law_rows", "_law_key", "_law_value", "_law_slip"] (spDue K)) (AD : Has P w K mg base "_law_as_due" 23 nAsDue (spAsDue K))
    (hr : Room 23 (A.deeper (PyProof.Rows.envOfC "law" (defScope sLaw) s.heap.objs.size f cdv))) (q : ∀ H', Q (.bl true) H') (hd1 : 1 ≤ d) (hd8 : d ≤ 8) :
    ∃ tt, PSs (cxOf CX0 P w K mg base nLaw "law" (defScope sLaw) f cdv A outer s H E).nox ((defBody sLaw).drop 12) tt ∧ ∀ (p l b : Addr) (ts : List RowI) (k : Int) (x : Option Int) (a1 a2 sd de : Int) (t4 t9 t11 t12 : Option V) (H' : Hp), Wl H' p l b ns ts a1 a2 4 → (de = (d : Int) ∨ ¬ dOk de) →
      tt { nx := fun _ H' => Q .non H', rt := Q } [some (.ref p), some (.int (d : Int)), some (.int ((2 ^ d : Nat) : Int)), some (.ref l), t4, some (.int k), some (oV x), some (.ref b), some (.int sd), t9, some (.int de), t11, t12] H' := by
  have hr1 : Room 1 _ := hr.mono (by decide)
  obtain ⟨tq, pq, rq⟩ : ∃ tt, PSs (cxOf CX0 P w K mg base nLaw "law" (defScope sLaw) f cdv A outer s H E).nox ((bodyOf ((defBody sLaw).getD 12 (.Pass ⟨0, 0, 0, 0⟩))).drop 2) tt ∧
      ∀ (D : Ends) (p l b : Addr) (ts : List RowI) (k : Int) (x : Option Int) (a1 a2 sd de : Int) (n : Nat) (t4 t9 : Option V) (wd : Str) (H' : Hp), wd = wordOf (vWay n de (bareI ts) k x a1 a2) → Wl H' p l b ns ts a1 a2 4 → n < 12 → (∀ H2, Wl H2 p l b ns ts a1 a2 4 → D.nx [some (.ref p), some (.int (d : Int)), some (.int ((2 ^ d : Nat) : Int)), some (.ref l), t4, some (.int k), some (oV x), some (.ref b), some (.int sd), t9, some (.int de), some (.int (n : Int)), some (.str wd)] H2) →
        tt D [some (.ref p), some (.int (d : Int)), some (.int ((2 ^ d : Nat) : Int)), some (.ref l), t4, some (.int k), some (oV x), some (.ref b), some (.int sd), t9, some (.int de), some (.int (n : Int)), some (.str wd)] H' := by
    refine ⟨_, pss_one (ps_if (pt_not (pt_val (pe_has AD hr (pa_cons (pv 12) (pa_cons (pv 11) (pa_cons (pv 10) (pa_cons (pe_callTy call_list_of rfl T.list PyProof.Rows.boot_list (pa_cons (pv 3) pa_nil)) (pa_cons (pv 5) (pa_cons (pv 6) (pa_cons (pe_callTy call_list_of rfl T.list PyProof.Rows.boot_list (pa_cons (pv 7) pa_nil)) pa_nil)))))))))) pss_never pss_nil), ?_⟩
    intro D p l b ts k x a1 a2 sd de n t4 t9 wd H' hw W h12 go
    subst hw
    refine ⟨_, rfl, _, rfl, _, rfl, _, rfl, l, _, rfl, .inl (SqL.of W.ro), fun l2 hl2 => ?_⟩
    have S1 := Same.upd (o := .lst (refsI ts)) hl2
    have W1 := W.same S1
    refine ⟨_, rfl, _, rfl, _, rfl, b, _, rfl, .inl (SqL.of W1.sl), fun b2 hb2 => ?_⟩
    have S2 := Same.upd (o := .lst [.int a1, .int a2]) hb2
    have W2 := W1.same S2
    have Y : Wy K _ l2 ts b2 a1 a2 := ⟨SqL.of (S2 _ _ upd_same), W2.rs, by have := W2.len; omega, W2.bd, SqL.of upd_same, W2.l1, W2.l2⟩
    refine ⟨n, de, l2, ts, k, x, b2, a1, a2, rfl, h12, Y, fun H3 hS3 => ⟨true, rfl, iteF (go H3 (W2.same hS3))⟩⟩
  refine ⟨_, pss_cons (ps_for PassesOwn.never rfl (pi_range1 rfl T.range (pa_cons pe_int pa_nil)) (pg_name (i := 11) scLaw.nd rfl (Or.inl rfl))
      (pss_cons (ps_set (i := 12) scLaw.nd rfl (Or.inl rfl) pe_str)
      (pss_cons (ps_if (pt_cmpR op_eq (pv 10) (pv 1) (nomark _)) (pss_one (ps_set (i := 12) scLaw.nd rfl (Or.inl rfl) (pe_has WD hr1 (pa_cons (pv 11) (pa_cons (pv 2) (pa_cons (pv 3) (pa_cons (pv 5) (pa_cons (pv 6) (pa_cons (pv 7) pa_nil))))))))) pss_nil) pq)))
    (pss_one (ps_ret pe_bl)), ?_⟩
  intro p l b ts k x a1 a2 sd de t4 t9 t11 t12 H' W hde
  refine ⟨12, rfl, by decide, by decide, ?_⟩
  refine for_range (n := 12) (fun i σ H2 => Wl H2 p l b ns ts a1 a2 4 ∧ ∃ t11 t12 : Option V, σ = [some (.ref p), some (.int (d : Int)), some (.int ((2 ^ d : Nat) : Int)), some (.ref l), t4, some (.int k), some (oV x), some (.ref b), some (.int sd), t9, some (.int de), t11, t12]) ⟨W, _, _, rfl⟩ ?_ ?_
  · rintro i σ H2 hi ⟨W2, t11, t12, rfl⟩
    have ei : V.int (0 + (i : Int)) = V.int (i : Int) := by rw [Int.zero_add]
    rw [ei]
    refine ⟨_, rfl, _, rfl, rfl, _, rfl, ite3 (fun e => ?_) (fun e => ?_)⟩
    · have e1 : de = (d : Int) := V.int.inj e
      subst e1
      refine ⟨_, rfl, _, rfl, _, rfl, _, rfl, _, rfl, _, rfl, i, d, l, ts, k, x, b, a1, a2, rfl, hi, hd1, hd8, W2.len, W2.wy, fun H3 hS3 => ?_⟩
      exact rq _ p l b ts k x a1 a2 sd _ i t4 t9 _ H3 rfl (W2.same hS3) hi fun H4 W4 => ⟨W4, _, _, rfl⟩
    · have e1 : ¬ dOk de := hde.resolve_left fun z => e (by rw [z])
      have ew : wordOf (vWay i de (bareI ts) k x a1 a2) = "depth" := by rw [way_depth e1]; rfl
      exact rq _ p l b ts k x a1 a2 sd de i t4 t9 _ H2 ew.symm W2 hi fun H4 W4 => ⟨W4, _, _, rfl⟩
  · rintro σ H2 ⟨_, _, _, rfl⟩
    exact q H2
end
end Ts
namespace Ts
open PySem L2
theorem at_of {xs : List Int} {j : Int} (h0 : 0 ≤ j) (h1 : j < (xs.length : Int)) : ∃ v, atI (xs.map V.int) j = some (.int v) ∧ v ∈ xs := by
  obtain ⟨i, rfl⟩ := Int.eq_ofNat_of_zero_le h0
  have hl : i < xs.length := by omega
  refine ⟨xs[i], atI_nat ?_, List.getElem_mem hl⟩
  rw [List.getElem?_map, List.getElem?_eq_getElem hl]
  rfl
theorem at3v {j : Int} (h0 : 0 ≤ j) (h1 : j < 3) : ∃ x : Option Int, atI [V.int 3, V.non, V.int 0] j = some (oV x) := by
  rcases (by omega : j = 0 ∨ j = 1 ∨ j = 2) with rfl | rfl | rfl
  · exact ⟨some 3, rfl⟩
  · exact ⟨none, rfl⟩
  · exact ⟨some 0, rfl⟩
theorem mod_of {j : Int} {n : Nat} (h : 0 < n) : 0 ≤ j % (n : Int) ∧ j % (n : Int) < (n : Int) := ⟨Int.emod_nonneg _ (by omega), Int.emod_lt_of_pos _ (by omega)⟩
theorem Wl.rows {H : Hp} {p l b : Addr} {ns : List Int} {ts : List RowI} {a1 a2 : Int} {M : Nat} (W : Wl H p l b ns ts a1 a2 M) {l2 t : Addr} {kk v : Int} (ht : H t = some (.tup [.int kk, .int v])) (hl2 : H l2 = some (.lst (refsI ts ++ [.ref t]))) (hv : v < 2 ^ 60) (hb : l2 ≠ b) : Wl H p l2 b ns (ts ++ [(t, kk, v)]) a1 a2 (M + 1) := by
  refine ⟨W.sc, ?_, fun r hr => ?_, ?_, fun x hx => ?_, W.sl, W.l1, W.l2, W.pb, hb⟩
  · rw [hl2]
    unfold refsI
    rw [List.map_append]
    rfl
  · rcases List.mem_append.mp hr with z | z
    · exact W.rs r z
    · rw [List.mem_singleton.mp z]; exact ht
  · rw [List.length_append]
    show ts.length + 1 ≤ M + 1
    have := W.len
    omega
  · unfold bareI at hx
    rw [List.map_append] at hx
    rcases List.mem_append.mp hx with z | z
    · exact W.bd x z
    · have e : x = (kk, v) := List.mem_singleton.mp z
      rw [e]; exact hv
theorem Wl.key_ne {H : Hp} {p l b : Addr} {ns : List Int} {ts : List RowI} {a1 a2 : Int} {M : Nat} {z : Addr} (W : Wl H p l b ns ts a1 a2 M) (hz : H z = none) : z ≠ b := fun e => by
  rw [e, W.sl] at hz
  cases hz
theorem low_two {v : Int} (h : v ∈ [(-1 : Int), -1000000000000]) : v < 0 := by
  rcases List.mem_cons.mp h with z | z
  · omega
  · have := List.mem_singleton.mp z
    omega
section
variable {P : Program} {w : World} {K : PySem.W.Frag} {mg : Str → Option Value} {base : Heap} {f : Addr} {fd : FuncData}
variable {cdv : Value} {A : Around} {outer : List Env} {s : Shared} {H : Hp} {Q : VK} {E : XK} {ns : List Int} {d : Nat}
theorem law_way : ∃ tt, PSs (cxOf CX0 P w K mg base nLaw "law" (defScope sLaw) f cdv A outer s H E).nox (bodyOf ((defBody sLaw).getD 9 (.Pass ⟨0, 0, 0, 0⟩))) tt ∧
    ∀ (D : Ends) (p l b z : Addr) (ts : List RowI) (c k way : Int) (x : Option Int) (a1 a2 sd : Int) (M : Nat) (us : List V) (t1 t4 t10 t11 t12 : Option V) (H' : Hp), Wl H' p l b ns ts a1 a2 M → M ≤ 10 → H' z = some (.lst us) → z ≠ b →
      (∀ (l2 : Addr) (ts2 : List RowI) (k2 : Int) (x2 : Option Int) (b1 b2 : Int) (H2 : Hp), Wl H2 p l2 b ns ts2 b1 b2 (M + 1) → H2 z = some (.lst us) → D.nx [some (.ref p), t1, some (.int c), some (.ref l2), t4, some (.int k2), some (oV x2), some (.ref b), some (.int sd), some (.int way), t10, t11, t12] H2) →
      tt D [some (.ref p), t1, some (.int c), some (.ref l), t4, some (.int k), some (oV x), some (.ref b), some (.int sd), some (.int way), t10, t11, t12] H' := by
  have one1 : (1 : Nat) ≤ sizeLine := by decide
  have two2 : (2 : Nat) ≤ sizeLine := by decide
  refine ⟨_, pss_cons (ps_if (pt_cmpR op_eq (pv 9) pe_int (nomark _)) (pss_one (ps_set (i := 3) scLaw.nd rfl (Or.inl rfl) (pe_op op_cat (pv 3) (pe_lst (pa_cons (pe_tup (pa_cons (pe_ix ix_list (pe_lst (pa_cons (pe_un un_neg pe_int) (pa_cons (pv 2) (pa_int (pa_int (pa_cons (pe_op op_sub (pe_un un_neg pe_int) (pe_op op_mod (pe_op op_fdiv (pv 8) pe_int) pe_int)) pa_nil)))))) (pe_op op_mod (pv 8) pe_int) (fun _ _ => rfl)) (pa_cons pe_int pa_nil))) pa_nil))))) pss_nil)
    (pss_cons (ps_if (pt_cmpR op_eq (pv 9) pe_int (nomark _)) (pss_one (ps_set (i := 3) scLaw.nd rfl (Or.inl rfl) (pe_op op_cat (pv 3) (pe_lst (pa_cons (pe_tup (pa_cons (pe_op op_sub (pv 2) pe_int) (pa_cons (pe_ix ix_list (pe_lst (pa_cons (pe_un un_neg pe_int) (pa_cons (pe_un un_neg pe_int) pa_nil))) (pe_op op_mod (pv 8) pe_int) (fun _ _ => rfl)) pa_nil))) pa_nil))))) pss_nil)
    (pss_cons (ps_if (pt_cmpR op_eq (pv 9) pe_int (nomark _)) (pss_one (ps_set (i := 5) scLaw.nd rfl (Or.inl rfl) (pe_ix ix_list (pe_lst (pa_cons (pe_un un_neg pe_int) (pa_cons (pv 2) (pa_int (pa_cons (pe_op op_sub (pe_un un_neg pe_int) (pe_op op_mod (pe_op op_fdiv (pv 8) pe_int) pe_int)) pa_nil))))) (pe_op op_mod (pv 8) pe_int) (fun _ _ => rfl)))) pss_nil)
    (pss_cons (ps_if (pt_cmpR op_eq (pv 9) pe_int (nomark _)) (pss_one (ps_set (i := 6) scLaw.nd rfl (Or.inl rfl) (pe_ix ix_list (pe_lst (pa_cons (pe_un un_neg pe_int) (pa_cons (pe_un un_neg pe_int) (pa_cons (pe_op op_sub (pe_un un_neg pe_int) (pe_op op_mod (pv 8) pe_int)) pa_nil)))) (pe_op op_mod (pv 8) pe_int) (fun _ _ => rfl)))) pss_nil)
    (pss_one (ps_if (pt_cmpR op_eq (pv 9) pe_int (nomark _)) (pss_one (ps_asg (pe_ix ix_list (pe_lst (pa_cons (pe_un un_neg pe_int) (pa_cons (pe_un un_neg pe_int) pa_nil))) (pe_op op_mod (pe_op op_fdiv (pv 8) pe_int) pe_int) (fun _ _ => rfl)) (pg_sub (pv 7) (pe_op op_mod (pv 8) pe_int) set_list))) pss_nil))))), ?_⟩
  intro D p l b z ts c k way x a1 a2 sd M us t1 t4 t10 t11 t12 H' W hM hz zb go
  have no : ∀ {i j : Int}, way = i → i ≠ j → ¬ V.int way = V.int j := fun e ne z => ne (e.symm.trans (V.int.inj z))
  refine ⟨_, rfl, rfl, _, rfl, ite3 (fun e => ?_) (fun e1 => ?_)⟩
  · have hw : way = 1 := V.int.inj e
    obtain ⟨v, hv, _⟩ := at_of (xs := [-1, c, 1000000000000, 0, -2 - sd / 5 % 9]) (mod_of (j := sd) (n := 5) (by decide)).1 (mod_of (j := sd) (n := 5) (by decide)).2
    refine ⟨_, rfl, 1, rfl, _, rfl, 2, rfl, _, rfl, _, _, rfl, rfl, ⟨by decide, by decide⟩, _, _, rfl, rfl, (show (0 : Int) < 9 by decide), _, _, rfl, rfl, (show 5 ≤ sizeLine by decide), fun q1 hq1 => ?_⟩
    have S1 := Same.upd (o := .lst ([-1, c, 1000000000000, 0, -2 - sd / 5 % 9].map V.int)) hq1
    refine ⟨_, rfl, _, _, rfl, rfl, (show (0 : Int) < 5 by decide), q1, _, _, _, rfl, rfl, SqL.of upd_same, hv, two2, fun t ht => ⟨one1, fun q2 hq2 => ?_⟩⟩
    have S2 := Same.upd (o := .tup [.int v, .int 1]) ht
    have S3 := Same.upd (o := .lst [.ref t]) hq2
    have W3 := ((W.same S1).same S2).same S3
    have hz3 := S3 _ _ (S2 _ _ (S1 _ _ hz))
    have ht3 := S3 _ _ (upd_same (a := t) (o := .tup [.int v, .int 1]))
    refine ⟨l, q2, _, _, rfl, rfl, W3.ro, upd_same, by rw [len_refsI]; exact Nat.le_of_lt (small1000 (by show ts.length + 1 ≤ 1000; have := W.len; omega)), fun q3 hq3 => ?_⟩
    have S4 := Same.upd (o := .lst (refsI ts ++ [.ref t])) hq3
    have W4 := (W3.same S4).rows (S4 _ _ ht3) upd_same (by decide) (W3.key_ne hq3)
    exact ⟨_, rfl, rfl, _, rfl, iteN (no hw (by decide)) ⟨_, rfl, rfl, _, rfl, iteN (no hw (by decide)) ⟨_, rfl, rfl, _, rfl, iteN (no hw (by decide)) ⟨_, rfl, rfl, _, rfl, iteN (no hw (by decide)) (go _ _ _ _ _ _ _ W4 (S4 _ _ hz3))⟩⟩⟩⟩
  refine ⟨_, rfl, rfl, _, rfl, ite3 (fun e => ?_) (fun e2 => ?_)⟩
  · have hw : way = 2 := V.int.inj e
    obtain ⟨v, hv, hm⟩ := at_of (xs := [-1, -1000000000000]) (mod_of (j := sd) (n := 2) (by decide)).1 (mod_of (j := sd) (n := 2) (by decide)).2
    refine ⟨_, rfl, _, rfl, _, _, rfl, rfl, 1, rfl, 1000000000000, rfl, two2, fun q1 hq1 => ?_⟩
    have S1 := Same.upd (o := .lst ([-1, -1000000000000].map V.int)) hq1
    refine ⟨_, rfl, _, _, rfl, rfl, (show (0 : Int) < 2 by decide), q1, _, _, _, rfl, rfl, SqL.of upd_same, hv, two2, fun t ht => ⟨one1, fun q2 hq2 => ?_⟩⟩
    have S2 := Same.upd (o := .tup [.int (c - 1), .int v]) ht
    have S3 := Same.upd (o := .lst [.ref t]) hq2
    have W3 := ((W.same S1).same S2).same S3
    have hz3 := S3 _ _ (S2 _ _ (S1 _ _ hz))
    have ht3 := S3 _ _ (upd_same (a := t) (o := .tup [.int (c - 1), .int v]))
    refine ⟨l, q2, _, _, rfl, rfl, W3.ro, upd_same, by rw [len_refsI]; exact Nat.le_of_lt (small1000 (by show ts.length + 1 ≤ 1000; have := W.len; omega)), fun q3 hq3 => ?_⟩
    have S4 := Same.upd (o := .lst (refsI ts ++ [.ref t])) hq3
    have W4 := (W3.same S4).rows (S4 _ _ ht3) upd_same (Int.lt_trans (low_two hm) (by decide)) (W3.key_ne hq3)
    exact ⟨_, rfl, rfl, _, rfl, iteN (no hw (by decide)) ⟨_, rfl, rfl, _, rfl, iteN (no hw (by decide)) ⟨_, rfl, rfl, _, rfl, iteN (no hw (by decide)) (go _ _ _ _ _ _ _ W4 (S4 _ _ hz3))⟩⟩⟩
  refine ⟨_, rfl, rfl, _, rfl, ite3 (fun e => ?_) (fun e3 => ?_)⟩
  · have hw : way = 3 := V.int.inj e
    obtain ⟨v, hv, _⟩ := at_of (xs := [-1, c, 1000000000000, -2 - sd / 4 % 9]) (mod_of (j := sd) (n := 4) (by decide)).1 (mod_of (j := sd) (n := 4) (by decide)).2
    refine ⟨1, rfl, _, rfl, 2, rfl, _, rfl, _, _, rfl, rfl, ⟨by decide, by decide⟩, _, _, rfl, rfl, (show (0 : Int) < 9 by decide), _, _, rfl, rfl, (show 4 ≤ sizeLine by decide), fun q1 hq1 => ?_⟩
    have S1 := Same.upd (o := .lst ([-1, c, 1000000000000, -2 - sd / 4 % 9].map V.int)) hq1
    refine ⟨_, rfl, _, _, rfl, rfl, (show (0 : Int) < 4 by decide), q1, _, _, _, rfl, rfl, SqL.of upd_same, hv, ?_⟩
    exact ⟨_, rfl, rfl, _, rfl, iteN (no hw (by decide)) ⟨_, rfl, rfl, _, rfl, iteN (no hw (by decide)) (go _ _ _ _ _ _ _ ((W.same S1).more (Nat.le_succ _)) (S1 _ _ hz))⟩⟩
  refine ⟨_, rfl, rfl, _, rfl, ite3 (fun e => ?_) (fun e4 => ?_)⟩
  · have hw : way = 4 := V.int.inj e
    obtain ⟨v, hv, _⟩ := at_of (xs := [-1, -1000000000000, -2 - sd % 9]) (mod_of (j := sd) (n := 3) (by decide)).1 (mod_of (j := sd) (n := 3) (by decide)).2
    refine ⟨1, rfl, 1000000000000, rfl, 2, rfl, _, rfl, _, _, rfl, rfl, (show (0 : Int) < 9 by decide), _, _, rfl, rfl, (show 3 ≤ sizeLine by decide), fun q1 hq1 => ?_⟩
    have S1 := Same.upd (o := .lst ([-1, -1000000000000, -2 - sd % 9].map V.int)) hq1
    refine ⟨_, rfl, _, _, rfl, rfl, (show (0 : Int) < 3 by decide), q1, _, _, _, rfl, rfl, SqL.of upd_same, hv, ?_⟩
    exact ⟨_, rfl, rfl, _, rfl, iteN (no hw (by decide)) (go _ _ _ (some v) _ _ _ ((W.same S1).more (Nat.le_succ _)) (S1 _ _ hz))⟩
  refine ⟨_, rfl, rfl, _, rfl, ite3 (fun e => ?_) (fun e5 => go _ _ _ _ _ _ _ (W.more (Nat.le_succ _)) hz)⟩
  obtain ⟨v, hv, hm⟩ := at_of (xs := [-1, -1000000000000]) (mod_of (j := sd / 2) (n := 2) (by decide)).1 (mod_of (j := sd / 2) (n := 2) (by decide)).2
  have v9 : v < 9 := Int.lt_trans (low_two hm) (by decide)
  refine ⟨1, rfl, 1000000000000, rfl, two2, fun q1 hq1 => ?_⟩
  have S1 := Same.upd (o := .lst ([-1, -1000000000000].map V.int)) hq1
  have W1 := W.same S1
  have hz1 := S1 _ _ hz
  refine ⟨_, rfl, _, _, rfl, rfl, ⟨by decide, by decide⟩, _, _, rfl, rfl, (show (0 : Int) < 2 by decide), q1, _, _, _, rfl, rfl, SqL.of upd_same, hv, ?_⟩
  rcases (by have := mod_of (j := sd) (n := 2) (by decide); omega : sd % 2 = 0 ∨ sd % 2 = 1) with m | m
  · refine ⟨_, rfl, _, rfl, _, _, rfl, rfl, (show (0 : Int) < 2 by decide), b, _, _, 0, rfl, rfl, W1.sl, by rw [m]; rfl, ?_⟩
    exact go _ _ _ _ _ _ _ ((W1.put v9 W.l2).more (Nat.le_succ _)) (by rw [upd_ne zb]; exact hz1)
  · refine ⟨_, rfl, _, rfl, _, _, rfl, rfl, (show (0 : Int) < 2 by decide), b, _, _, 1, rfl, rfl, W1.sl, by rw [m]; rfl, ?_⟩
    exact go _ _ _ _ _ _ _ ((W1.put W.l1 v9).more (Nat.le_succ _)) (by rw [upd_ne zb]; exact hz1)
end
end Ts
namespace Ts
open PySem L2
theorem cnt4 {d : Nat} (h1 : 1 ≤ d) (h3 : d ≤ 3) : atI [V.int 1, V.int 2, V.int 4, V.int 8] (d : Int) = some (.int ((2 ^ d : Nat) : Int)) := by
  rcases (by omega : d = 1 ∨ d = 2 ∨ d = 3) with rfl | rfl | rfl <;> rfl
theorem RowsI.lst {H : Hp} {ts : List RowI} {a : Addr} {xs : List V} {o : HO} (h : RowsI H ts) (ha : H a = some (.lst xs)) : RowsI (upd H a o) ts := fun r hr => by
  rw [upd_ne (ne_of (h r hr) ha (by intro z; cases z))]; exact h r hr
section
variable {P : Program} {w : World} {K : PySem.W.Frag} {mg : Str → Option Value} {base : Heap} {f : Addr} {fd : FuncData}
theorem ok_law (F : Fun K "law" "law" sLaw f fd) (T : Blt mg) (C : Has P w K mg base "_law_at" 1 ["_law_script", "_law_k"] (spAt K)) (WD : Has P w K mg base "_law_word_due" 1 ["_law_which", "_law_count", "_law_rows", "_law_key", "_law_value", "_law_slip"] (spDue K)) (AD : Has P w K mg base "_law_as_due" 23 nAsDue (spAsDue K)) :
    FnOk P w K mg base CX0 24 f fd ["_law_script"] (spLaw K) := by
  refine F.ok scLaw (fun vs H Q E h => ?_) (fun cdv A outer s H vs Q E hr h => ?_)
  · obtain ⟨a, ns, rfl, _⟩ := h
    rfl
  obtain ⟨a, ns, rfl, hS, h63, q⟩ := h
  have hr1 : Room 1 _ := hr.mono (by decide)
  have one1 : (1 : Nat) ≤ sizeLine := by decide
  have two2 : (2 : Nat) ≤ sizeLine := by decide
  obtain ⟨d, hd, hd1, hd3⟩ : ∃ d : Nat, (d : Int) = 1 + ns.getD 0 0 % 3 ∧ 1 ≤ d ∧ d ≤ 3 := ⟨(1 + ns.getD 0 0 % 3).toNat, by omega, by omega, by omega⟩
  obtain ⟨tw, pw, rw'⟩ := law_way (P := P) (w := w) (K := K) (mg := mg) (base := base) (f := f) (cdv := cdv) (A := A) (outer := outer) (s := s) (H := H) (E := E) (ns := ns)
  obtain ⟨t12, p12, r12⟩ := law12 (outer := outer) (H := H) (E := E) (ns := ns) T WD AD hr q hd1 (show d ≤ 8 by omega)
  refine ⟨_, pss_cons (ps_set (i := 0) scLaw.nd rfl (Or.inl rfl) (pe_slice sl_list (pv 0) po_none (po_some pe_int)))
    (pss_cons (ps_set (i := 1) scLaw.nd rfl (Or.inl rfl) (pe_op op_add pe_int (pe_op op_mod (pe_has C hr1 (pa_cons (pv 0) (pa_cons pe_int pa_nil))) pe_int)))
    (pss_cons (ps_set (i := 2) scLaw.nd rfl (Or.inl rfl) (pe_ix ix_list (pe_lst (pa_int (pa_int (pa_int (pa_int pa_nil))))) (pv 1) (fun _ _ => rfl)))
    (pss_cons (ps_set (i := 3) scLaw.nd rfl (Or.inl rfl) (pe_lst pa_nil))
    (pss_cons (ps_for PassesOwn.never rfl (pi_range1 rfl T.range (pa_cons (pe_op op_mod (pe_has C hr1 (pa_cons (pv 0) (pa_cons pe_int pa_nil))) pe_int) pa_nil)) (pg_name (i := 4) scLaw.nd rfl (Or.inl rfl))
      (pss_one (ps_expr (pe_bm PySem.F.plainAttrs_list PySem.F.slot_list_append PySem.F.type_list_append mt_append (pv 3) (pa_cons (pe_tup (pa_cons (pv 4) (pa_cons (pe_op op_mod (pe_has C hr1 (pa_cons (pv 0) (pa_cons (pe_op n_add pe_int (pv 4)) pa_nil))) pe_int) pa_nil))) pa_nil)))))
    (pss_cons (ps_set (i := 5) scLaw.nd rfl (Or.inl rfl) (pe_op op_mod (pe_has C hr1 (pa_cons (pv 0) (pa_cons pe_int pa_nil))) (pv 2)))
    (pss_cons (ps_set (i := 6) scLaw.nd rfl (Or.inl rfl) (pe_ix ix_list (pe_lst (pa_int (pa_cons pe_non (pa_int pa_nil)))) (pe_op op_mod (pe_has C hr1 (pa_cons (pv 0) (pa_cons pe_int pa_nil))) pe_int) (fun _ _ => rfl)))
    (pss_cons (ps_set (i := 7) scLaw.nd rfl (Or.inl rfl) (pe_lst (pa_cons (pe_op op_mod (pe_has C hr1 (pa_cons (pv 0) (pa_cons pe_int pa_nil))) pe_int) (pa_cons (pe_op op_mod (pe_has C hr1 (pa_cons (pv 0) (pa_cons pe_int pa_nil))) pe_int) pa_nil))))
    (pss_cons (ps_set (i := 8) scLaw.nd rfl (Or.inl rfl) (pe_op op_mod (pe_has C hr1 (pa_cons (pv 0) (pa_cons pe_int pa_nil))) pe_int))
    (pss_cons (ps_for PassesOwn.never rfl (pi_list (pe_lst (pa_cons (pe_op op_mod (pe_has C hr1 (pa_cons (pv 0) (pa_cons pe_int pa_nil))) pe_int) (pa_cons (pe_op op_mod (pe_has C hr1 (pa_cons (pv 0) (pa_cons pe_int pa_nil))) pe_int) pa_nil)))) (pg_name (i := 9) scLaw.nd rfl (Or.inl rfl)) pw)
    (pss_cons (ps_set (i := 10) scLaw.nd rfl (Or.inl rfl) (pv 1))
    (pss_cons (ps_if (pt_cmpR op_eq (pe_op op_mod (pe_has C hr1 (pa_cons (pv 0) (pa_cons pe_int pa_nil))) pe_int) pe_int (nomark _))
      (pss_one (ps_set (i := 10) scLaw.nd rfl (Or.inl rfl) (pe_ix ix_list (pe_lst (pa_cons (pe_un un_neg pe_int) (pa_int (pa_int (pa_cons (pe_op op_sub (pe_un un_neg pe_int) (pe_op op_mod (pe_op op_fdiv (pv 8) pe_int) pe_int)) pa_nil))))) (pe_op op_mod (pv 8) pe_int) (fun _ _ => rfl)))) pss_nil) p12))))))))))), ?_⟩
  refine ⟨_, rfl, _, rfl, a, _, rfl, hS, fun p hp0 => ?_⟩
  rw [cut_all ns h63]
  have hp : (upd H p (.lst (ns.map V.int))) p = some (.lst (ns.map V.int)) := upd_same
  generalize upd H p (.lst (ns.map V.int)) = H0 at hp ⊢
  clear hS hp0
  refine ⟨_, rfl, p, ns, 0, rfl, SqL.of hp, _, _, rfl, rfl, (show (0 : Int) < 3 by decide), _, _, rfl, rfl, ?_⟩
  dsimp only
  rw [← hd]
  refine ⟨(show 4 ≤ sizeLine by decide), fun m hm => ?_⟩
  have hp1 := (Same.upd (o := .lst [V.int 1, V.int 2, V.int 4, V.int 8]) hm) _ _ hp
  refine ⟨_, rfl, m, _, _, _, rfl, rfl, SqL.of upd_same, cnt4 hd1 hd3, ?_⟩
  generalize upd H0 m (.lst [V.int 1, V.int 2, V.int 4, V.int 8]) = H1 at hp1 ⊢
  have hcpos : (0 : Int) < ((2 ^ d : Nat) : Int) := by have := Nat.two_pow_pos d; omega
  refine ⟨(show 0 ≤ sizeLine by decide), fun r hr0 => ?_⟩
  have hpr : p ≠ r := fun e => by rw [← e, hp1] at hr0; cases hr0
  have hp2 := (Same.upd (o := .lst []) hr0) _ _ hp1
  have hr2 : (upd H1 r (.lst [])) r = some (.lst []) := upd_same
  generalize upd H1 r (.lst []) = H2 at hp2 hr2 ⊢
  refine ⟨_, rfl, p, ns, 1, rfl, SqL.of hp2, _, _, rfl, rfl, (show (0 : Int) < 3 by decide), _, rfl, by omega, by omega, ?_⟩
  obtain ⟨m1, hm1, hm2⟩ : ∃ m1 : Nat, (ns.getD 1 0 % 3).toNat = m1 ∧ m1 ≤ 2 := ⟨_, rfl, by omega⟩
  rw [hm1]
  refine for_range (n := m1) (fun i σ H' => ∃ (t4 : Option V) (ts : List RowI), σ = [some (.ref p), some (.int (d : Int)), some (.int ((2 ^ d : Nat) : Int)), some (.ref r), t4, none, none, none, none, none, none, none, none] ∧ H' p = some (.lst (ns.map V.int)) ∧ H' r = some (.lst (refsI ts)) ∧ RowsI H' ts ∧ ts.length = i ∧ ∀ x ∈ bareI ts, x.2 < 2 ^ 60)
    ⟨_, [], rfl, hp2, hr2, (fun x hx => nomatch hx), rfl, (fun x hx => nomatch hx)⟩ ?_ ?_
  · rintro i σ H' hi ⟨t4, ts, rfl, hp', hr', hR, hl, hb⟩
    have ei : V.int (0 + (i : Int)) = V.int (i : Int) := by rw [Int.zero_add]
    rw [ei]
    refine ⟨_, rfl, .inl ⟨rfl, _, SqL.of hr'⟩, _, rfl, _, rfl, _, rfl, 2, i, 2 + i, rfl, rfl, trivial, rfl, p, ns, 2 + i, rfl, SqL.of hp', _, _, rfl, rfl, (show (0 : Int) < 5 by decide), two2, fun t ht => ?_⟩
    have v5 : ns.getD (2 + i) 0 % 5 < 2 ^ 60 := Int.lt_trans (Int.emod_lt_of_pos _ (by decide)) (by decide)
    dsimp only
    generalize ns.getD (2 + i) 0 % 5 = v at v5 ⊢
    have S := Same.upd (o := .tup [.int (i : Int), .int v]) ht
    have hp3 := S _ _ hp'
    have hr3 := S _ _ hr'
    have hR3 := hR.same S
    have ht3 : (upd H' t (.tup [.int (i : Int), .int v])) t = some (.tup [.int (i : Int), .int v]) := upd_same
    generalize upd H' t (.tup [.int (i : Int), .int v]) = H3 at hp3 hr3 hR3 ht3 ⊢
    have htr : t ≠ r := ne_of ht3 hr3 (by intro z; cases z)
    refine ⟨r, _, _, rfl, rfl, hr3, by rw [len_refsI]; exact small1000 (by omega), ?_⟩
    refine ⟨_, ts ++ [(t, (i : Int), v)], rfl, by rw [upd_ne hpr]; exact hp3, ?_, fun y hy => ?_, ?_, fun y hy => ?_⟩
    · rw [upd_same]
      unfold refsI
      rw [List.map_append]
      rfl
    · rcases List.mem_append.mp hy with z | z
      · exact (hR3.lst hr3) y z
      · rw [List.mem_singleton.mp z, upd_ne htr]; exact ht3
    · rw [List.length_append, hl]; rfl
    · unfold bareI at hy
      rw [List.map_append] at hy
      rcases List.mem_append.mp hy with z | z
      · exact hb y z
      · have e : y = ((i : Int), v) := List.mem_singleton.mp z
        rw [e]; exact v5
  · rintro σ H' ⟨t4, ts, rfl, hp', hr', hR, hl, hb⟩
    refine ⟨_, rfl, p, ns, 5, rfl, SqL.of hp', _, rfl, _, _, rfl, rfl, hcpos, ?_⟩
    refine ⟨(show 3 ≤ sizeLine by decide), fun q1 hq1 => ?_⟩
    obtain ⟨x, hx⟩ := at3v (j := ns.getD 6 0 % 3) (by omega) (by omega)
    have S1 := Same.upd (o := .lst [V.int 3, V.non, V.int 0]) hq1
    have hp3 := S1 _ _ hp'
    have hr3 := S1 _ _ hr'
    have hR3 := hR.same S1
    refine ⟨_, rfl, p, ns, 6, rfl, SqL.of hp3, _, _, rfl, rfl, (show (0 : Int) < 3 by decide), q1, _, _, _, rfl, rfl, SqL.of upd_same, hx, ?_⟩
    generalize upd H' q1 (.lst [V.int 3, V.non, V.int 0]) = H3 at hp3 hr3 hR3 ⊢
    refine ⟨_, rfl, p, ns, 7, rfl, SqL.of hp3, _, _, rfl, rfl, (show (0 : Int) < 9 by decide), _, rfl, p, ns, 8, rfl, SqL.of hp3, _, _, rfl, rfl, (show (0 : Int) < 9 by decide), two2, fun b hb0 => ?_⟩
    have S2 := Same.upd (o := .lst [V.int (ns.getD 7 0 % 9), V.int (ns.getD 8 0 % 9)]) hb0
    have W0 : Wl (upd H3 b (.lst [V.int (ns.getD 7 0 % 9), V.int (ns.getD 8 0 % 9)])) p r b ns ts (ns.getD 7 0 % 9) (ns.getD 8 0 % 9) 2 :=
      ⟨S2 _ _ hp3, S2 _ _ hr3, hR3.same S2, by omega, hb, upd_same, Int.emod_lt_of_pos _ (by decide), Int.emod_lt_of_pos _ (by decide), (fun e => by rw [← e, hp3] at hb0; cases hb0), (fun e => by rw [← e, hr3] at hb0; cases hb0)⟩
    dsimp only
    generalize upd H3 b (.lst [V.int (ns.getD 7 0 % 9), V.int (ns.getD 8 0 % 9)]) = H4 at W0 ⊢
    generalize ns.getD 7 0 % 9 = a1 at W0
    generalize ns.getD 8 0 % 9 = a2 at W0
    generalize ns.getD 5 0 % ((2 ^ d : Nat) : Int) = k
    refine ⟨_, rfl, p, ns, 9, rfl, SqL.of W0.sc, _, _, rfl, rfl, (show (0 : Int) < 1000 by decide), ?_⟩
    dsimp only
    generalize ns.getD 9 0 % 1000 = sd
    refine ⟨_, rfl, p, ns, 10, rfl, SqL.of W0.sc, _, _, rfl, rfl, (show (0 : Int) < 9 by decide), _, rfl, p, ns, 11, rfl, SqL.of W0.sc, _, _, rfl, rfl, (show (0 : Int) < 9 by decide), two2, fun z hz => ⟨z, rfl, ⟨_, SqL.of upd_same⟩, ?_⟩⟩
    have zb : z ≠ b := W0.key_ne hz
    have W1 := W0.same (Same.upd (o := .lst [V.int (ns.getD 10 0 % 9), V.int (ns.getD 11 0 % 9)]) hz)
    have hz1 : (upd H4 z (.lst [V.int (ns.getD 10 0 % 9), V.int (ns.getD 11 0 % 9)])) z = some (.lst [V.int (ns.getD 10 0 % 9), V.int (ns.getD 11 0 % 9)]) := upd_same
    refine for_list (xs := [V.int (ns.getD 10 0 % 9), V.int (ns.getD 11 0 % 9)]) (fun i σ H' => ∃ (l : Addr) (ts : List RowI) (k : Int) (x : Option Int) (a1 a2 : Int) (t9 : Option V), σ = [some (.ref p), some (.int (d : Int)), some (.int ((2 ^ d : Nat) : Int)), some (.ref l), t4, some (.int k), some (oV x), some (.ref b), some (.int sd), t9, none, none, none] ∧ Wl H' p l b ns ts a1 a2 (2 + i) ∧ H' z = some (.lst [V.int (ns.getD 10 0 % 9), V.int (ns.getD 11 0 % 9)]))
      ⟨r, ts, k, x, a1, a2, _, rfl, W1, hz1⟩ ?_ ?_ ?_
    · rintro i σ H6 _ ⟨_, _, _, _, _, _, _, _, _, g⟩
      exact SqL.of g
    · rintro i y σ H6 hy ⟨l, ts, k, x, a1, a2, t9, rfl, W6, hz6⟩
      have hi : i < 2 := (List.getElem?_eq_some_iff.mp hy).1
      obtain ⟨way, rfl⟩ : ∃ way : Int, y = .int way := by
        have hm := List.mem_of_getElem? hy
        rcases List.mem_cons.mp hm with e | e
        · exact ⟨_, e⟩
        · exact ⟨_, List.mem_singleton.mp e⟩
      exact rw' _ p l b z ts _ k way x a1 a2 sd (2 + i) _ _ t4 none none none H6 W6 (by omega) hz6 zb fun l2 ts2 k2 x2 b1 b2 H7 W7 hz7 => ⟨l2, ts2, k2, x2, b1, b2, _, rfl, W7, hz7⟩
    · rintro σ H6 ⟨l, ts, k, x, a1, a2, t9, rfl, W6, hz6⟩
      have W7 : Wl H6 p l b ns ts a1 a2 4 := W6.more (show 2 + 2 ≤ 4 by decide)
      refine ⟨_, rfl, _, rfl, p, ns, 10, rfl, SqL.of W7.sc, _, _, rfl, rfl, (show (0 : Int) < 9 by decide), rfl, _, rfl, ite3 (fun e => ?_) (fun e => ?_)⟩
      · obtain ⟨v, hv, hm⟩ := at_of (xs := [-1, 9, 1000000000000, -2 - sd / 4 % 9]) (mod_of (j := sd) (n := 4) (by decide)).1 (mod_of (j := sd) (n := 4) (by decide)).2
        refine ⟨1, rfl, 2, rfl, _, rfl, _, _, rfl, rfl, ⟨by decide, by decide⟩, _, _, rfl, rfl, (show (0 : Int) < 9 by decide), _, _, rfl, rfl, (show 4 ≤ sizeLine by decide), fun q2 hq2 => ?_⟩
        have S := Same.upd (o := .lst ([-1, 9, 1000000000000, -2 - sd / 4 % 9].map V.int)) hq2
        refine ⟨_, rfl, _, _, rfl, rfl, (show (0 : Int) < 4 by decide), q2, _, _, _, rfl, rfl, SqL.of upd_same, hv, ?_⟩
        refine r12 p l b ts k x a1 a2 sd v t4 _ _ _ _ (W7.same S) (.inr fun ok => ?_)
        have h0 := ok.1
        have h8 := ok.2
        have := mod_of (j := sd / 4) (n := 9) (by decide)
        rcases List.mem_cons.mp hm with e | hm
        · omega
        rcases List.mem_cons.mp hm with e | hm
        · omega
        rcases List.mem_cons.mp hm with e | hm
        · omega
        have e := List.mem_singleton.mp hm
        omega
      · exact r12 p l b ts k x a1 a2 sd _ t4 _ _ _ _ W7 (.inl rfl)
end
end Ts
namespace Ts
open PySem L2
theorem own_mk {K : PySem.W.Frag} {h : Heap} {mg : Str → Option Value} {x : Str} {C : Addr} {bmB : List Value} {newId : String} (X : K.In h) (G : h.Ns mainGlobals mg) (e : PySem.W.nsIn K mainGlobals x = some (some (.ref C))) (q : PySem.W.excIn K C bmB newId = true) :
    PyProof.Rows.OwnCls x C bmB newId mg h := by
  refine ⟨PySem.W.mg_of X G e, ?_⟩
  unfold PySem.W.excIn at q
  split at q
  · rename_i dd1 cd1 sl1 ho1
    split at q
    · rename_i C1 bm1 z0 z1 z2 z3 n1 z5 hm1 hs1
      simp only [Bool.and_eq_true, Bool.not_eq_true', beq_iff_eq] at q
      obtain ⟨⟨⟨⟨⟨ec, en⟩, hdl⟩, htl⟩, hnk⟩, hno⟩ := q
      subst ec en
      obtain ⟨nm, bs, mro, ns, qn, hd, sn, sub, ab, col, del⟩ := cd1
      dsimp only at hm1 hdl hnk hno
      subst hm1 hdl
      obtain ⟨sls⟩ := sl1
      have hs2 : sls = _ := hs1
      subst hs2
      exact ⟨bm1, ns, nm, qn, bs, hd, sn, sub, ab, col, dd1, z0, z1, z2, z3, z5, _, X _ _ ho1, .of_isNs (PySem.W.isNs_of_in X hnk), PySem.W.nsMap_none_of_in X hnk hno, PySem.W.tail_of_in X htl⟩
    · cases q
  · cases q
end Ts
namespace Ts
open PySem L2
section
variable {K : PySem.W.Frag} {c : Ec} {SL : Addr}
theorem exm_of {t : Value} {C : Addr} {v : Bool} (cl : (PySem.W.clsIn K C).isSome = true) (ty : PySem.W.typeIn K (.ref C) = some (.type "type")) (be : PySem.W.subIn K (.ref C) (.type "BaseException") = some true) (su : PySem.W.subIn K t (.ref C) = some v) : PySem.W.exmOne K t (.ref C) = some v := by
  unfold PySem.W.exmOne
  rw [be, if_pos (by decide)]
  show (if ((PySem.W.clsIn K C).isSome && PySem.W.typeIn K (.ref C) == some (.type "type")) = true then PySem.W.subIn K t (.ref C) else none) = some v
  rw [cl, ty, if_pos (by decide)]
  exact su
theorem kit_cls_of {t : Value} {C : Addr} {v : Bool} (cl : (PySem.W.clsIn K C).isSome = true) (ty : PySem.W.typeIn K (.ref C) = some (.type "type")) (su : PySem.W.subIn K t (.ref C) = some v) : PySem.W.kitCls K t (.ref C) = some v := by
  show (if ((PySem.W.clsIn K C).isSome && PySem.W.typeIn K (.ref C) == some (.type "type")) = true then PySem.W.subIn K t (.ref C) else none) = some v
  rw [cl, ty, if_pos (by decide)]
  exact su
theorem ex_of (ek : ∀ u : Wd, ExcK K (c.at u)) (clS : (PySem.W.clsIn K SL).isSome = true) (tyS : PySem.W.typeIn K (.ref SL) = some (.type "type")) (be : ∀ u : Wd, PySem.W.subIn K (.ref (c.at u)) (.type "BaseException") = some true) (beS : PySem.W.subIn K (.ref SL) (.type "BaseException") = some true)
    (su : ∀ u v : Wd, u ≠ .done → v ≠ .done → PySem.W.subIn K (.ref (c.at u)) (.ref (c.at v)) = some (decide (u = v))) (ss : ∀ u : Wd, PySem.W.subIn K (.ref (c.at u)) (.ref SL) = some true) (sv : ∀ u : Wd, PySem.W.subIn K (.ref (c.at u)) (.type "ValueError") = some true) : Ex K c SL where
  eq := fun u v hu hv => exm_of (ek v).cl (ek v).ty (be v) (su u v hu hv)
  sup := fun u => exm_of clS tyS beS (ss u)
  one := fun u v hu hv => by
    unfold PySem.W.kitOne
    by_cases e : (Value.ref (c.at u) == Value.ref (c.at v)) = true
    · rw [if_pos e]
      have e2 : c.at u = c.at v := Value.ref.inj (beq_iff_eq.mp e)
      have h1 := su u v hu hv
      rw [e2, su v v hv hv] at h1
      rw [← h1, decide_eq_true rfl]
    · rw [if_neg e]
      exact kit_cls_of (ek v).cl (ek v).ty (su u v hu hv)
  val := fun u => by
    unfold PySem.W.kitOne
    rw [if_neg (by
      intro e
      have := beq_iff_eq.mp e
      cases this)]
    show (if PySem.W.kitMeta "ValueError" = true then PySem.W.subIn K (.ref (c.at u)) (.type "ValueError") else none) = some true
    rw [if_pos (by decide +kernel)]
    exact sv u
  ek := ek
end
end Ts
namespace Ts
open PySem L2
theorem all_mk {l : PySem.W.OpenLaw} {w : World} {K : PySem.W.Frag} {h : Heap} {mg : Str → Option Value} {fa f1 f2 f3 f4 f5 f6 f7 f8 f9 f10 f11 f12 f13 f14 f15 f16 f17 f18 f19 f20 f21 f22 f23 f24 f25 f26 f27 f28 f29 f30 f31 f32 f33 f34 f35 f36 f37 f38 f39 f40 f41 f42 f43 f44 f45 C1 C2 C3 C4 C5 SL : Addr} (X : K.In h) (G : h.Ns mainGlobals mg) (hfa : mg "law" = some (.ref fa))
    {od1 an1 od2 an2 od3 an3 od4 an4 od5 an5 od6 an6 od7 an7 od8 an8 od9 an9 od10 an10 od11 an11 od12 an12 od13 an13 od14 an14 od15 an15 od16 an16 od17 an17 od18 an18 od19 an19 od20 an20 od21 an21 od22 an22 od23 an23 od24 an24 od25 an25 od26 an26 od27 an27 od28 an28 od29 an29 od30 an30 od31 an31 od32 an32 od33 an33 od34 an34 od35 an35 od36 an36 od37 an37 od38 an38 od39 an39 od40 an40 od41 an41 od42 an42 od43 an43 od44 an44 od45 an45 : Option Addr} {sl1 sl2 sl3 sl4 sl5 sl6 sl7 sl8 sl9 sl10 sl11 sl12 sl13 sl14 sl15 sl16 sl17 sl18 sl19 sl20 sl21 sl22 sl23 sl24 sl25 sl26 sl27 sl28 sl29 sl30 sl31 sl32 sl33 sl34 sl35 sl36 sl37 sl38 sl39 sl40 sl41 sl42 sl43 sl44 sl45 : Array (Option Value)} {oc1 kV1 dc1 pm1 cd1 ct1 oc2 kV2 dc2 pm2 cd2 ct2 oc3 kV3 dc3 pm3 cd3 ct3 oc4 kV4 dc4 pm4 cd4 ct4 oc5 kV5 dc5 pm5 cd5 ct5 oc6 kV6 dc6 pm6 cd6 ct6 oc7 kV7 dc7 pm7 cd7 ct7 oc8 kV8 dc8 pm8 cd8 ct8 oc9 kV9 dc9 pm9 cd9 ct9 oc10 kV10 dc10 pm10 cd10 ct10 oc11 kV11 dc11 pm11 cd11 ct11 oc12 kV12 dc12 pm12 cd12 ct12 oc13 kV13 dc13 pm13 cd13 ct13 oc14 kV14 dc14 pm14 cd14 ct14 oc15 kV15 dc15 pm15 cd15 ct15 oc16 kV16 dc16 pm16 cd16 ct16 oc17 kV17 dc17 pm17 cd17 ct17 oc18 kV18 dc18 pm18 cd18 ct18 oc19 kV19 dc19 pm19 cd19 ct19 oc20 kV20 dc20 pm20 cd20 ct20 oc21 kV21 dc21 pm21 cd21 ct21 oc22 kV22 dc22 pm22 cd22 ct22 oc23 kV23 dc23 pm23 cd23 ct23 oc24 kV24 dc24 pm24 cd24 ct24 oc25 kV25 dc25 pm25 cd25 ct25 oc26 kV26 dc26 pm26 cd26 ct26 oc27 kV27 dc27 pm27 cd27 ct27 oc28 kV28 dc28 pm28 cd28 ct28 oc29 kV29 dc29 pm29 cd29 ct29 oc30 kV30 dc30 pm30 cd30 ct30 oc31 kV31 dc31 pm31 cd31 ct31 oc32 kV32 dc32 pm32 cd32 ct32 oc33 kV33 dc33 pm33 cd33 ct33 oc34 kV34 dc34 pm34 cd34 ct34 oc35 kV35 dc35 pm35 cd35 ct35 oc36 kV36 dc36 pm36 cd36 ct36 oc37 kV37 dc37 pm37 cd37 ct37 oc38 kV38 dc38 pm38 cd38 ct38 oc39 kV39 dc39 pm39 cd39 ct39 oc40 kV40 dc40 pm40 cd40 ct40 oc41 kV41 dc41 pm41 cd41 ct41 oc42 kV42 dc42 pm42 cd42 ct42 oc43 kV43 dc43 pm43 cd43 ct43 oc44 kV44 dc44 pm44 cd44 ct44 oc45 kV45 dc45 pm45 cd45 ct45 : Value} {tk1 : Tok} {cl1 cl2 cl3 cl4 cl5 cl6 : ClassData} {bm : List Value} {newId initId : String} (FB : ExcBaseFacts "ValueError" newId initId bm)
    (a1 : PySem.W.nsIn K mainGlobals "check_depth" = some (some (.ref f1))) (l1 : K.lookup f1 = some ⟨oc1, od1, .func (PySem.W.fnOf "check_depth" "check_depth" (defArgs sDepth) (defBody sDepth) (defScope sDepth) .none kV1 dc1 pm1 an1 cd1 ct1), sl1⟩) (c1 : PySem.W.codeIn K cd1 "check_depth" = true) (k1 : PySem.W.keepIn K (.ref f1) = true)
    (a2 : PySem.W.nsIn K mainGlobals "check_rows" = some (some (.ref f2))) (l2 : K.lookup f2 = some ⟨oc2, od2, .func (PySem.W.fnOf "check_rows" "check_rows" (defArgs sCRows) (defBody sCRows) (defScope sCRows) .none kV2 dc2 pm2 an2 cd2 ct2), sl2⟩) (c2 : PySem.W.codeIn K cd2 "check_rows" = true) (k2 : PySem.W.keepIn K (.ref f2) = true)
    (a3 : PySem.W.nsIn K mainGlobals "check_keys_of_rows" = some (some (.ref f3))) (l3 : K.lookup f3 = some ⟨oc3, od3, .func (PySem.W.fnOf "check_keys_of_rows" "check_keys_of_rows" (defArgs sCKeys) (defBody sCKeys) (defScope sCKeys) .none kV3 dc3 pm3 an3 cd3 ct3), sl3⟩) (c3 : PySem.W.codeIn K cd3 "check_keys_of_rows" = true) (k3 : PySem.W.keepIn K (.ref f3) = true)
    (a4 : PySem.W.nsIn K mainGlobals "check_key" = some (some (.ref f4))) (l4 : K.lookup f4 = some ⟨oc4, od4, .func (PySem.W.fnOf "check_key" "check_key" (defArgs sCKey) (defBody sCKey) (defScope sCKey) .none kV4 dc4 pm4 an4 cd4 ct4), sl4⟩) (c4 : PySem.W.codeIn K cd4 "check_key" = true) (k4 : PySem.W.keepIn K (.ref f4) = true)
    (a5 : PySem.W.nsIn K mainGlobals "check_value" = some (some (.ref f5))) (l5 : K.lookup f5 = some ⟨oc5, od5, .func (PySem.W.fnOf "check_value" "check_value" (defArgs sCVal) (defBody sCVal) (defScope sCVal) .none kV5 dc5 pm5 an5 cd5 ct5), sl5⟩) (c5 : PySem.W.codeIn K cd5 "check_value" = true) (k5 : PySem.W.keepIn K (.ref f5) = true)
    (a6 : PySem.W.nsIn K mainGlobals "check_value_or_none" = some (some (.ref f6))) (l6 : K.lookup f6 = some ⟨oc6, od6, .func (PySem.W.fnOf "check_value_or_none" "check_value_or_none" (defArgs sCValN) (defBody sCValN) (defScope sCValN) .none kV6 dc6 pm6 an6 cd6 ct6), sl6⟩) (c6 : PySem.W.codeIn K cd6 "check_value_or_none" = true) (k6 : PySem.W.keepIn K (.ref f6) = true)
    (a7 : PySem.W.nsIn K mainGlobals "check_numbers" = some (some (.ref f7))) (l7 : K.lookup f7 = some ⟨oc7, od7, .func (PySem.W.fnOf "check_numbers" "check_numbers" (defArgs sCNums) (defBody sCNums) (defScope sCNums) .none kV7 dc7 pm7 an7 cd7 ct7), sl7⟩) (c7 : PySem.W.codeIn K cd7 "check_numbers" = true) (k7 : PySem.W.keepIn K (.ref f7) = true)
    (a8 : PySem.W.nsIn K mainGlobals "check_top" = some (some (.ref f8))) (l8 : K.lookup f8 = some ⟨oc8, od8, .func (PySem.W.fnOf "check_top" "check_top" (defArgs sCTop) (defBody sCTop) (defScope sCTop) .none kV8 dc8 pm8 an8 cd8 ct8), sl8⟩) (c8 : PySem.W.codeIn K cd8 "check_top" = true) (k8 : PySem.W.keepIn K (.ref f8) = true)
    (a9 : PySem.W.nsIn K mainGlobals "count_of_places" = some (some (.ref f9))) (l9 : K.lookup f9 = some ⟨oc9, od9, .func (PySem.W.fnOf "count_of_places" "count_of_places" (defArgs sCount) (defBody sCount) (defScope sCount) .none kV9 dc9 pm9 an9 cd9 ct9), sl9⟩) (c9 : PySem.W.codeIn K cd9 "count_of_places" = true) (k9 : PySem.W.keepIn K (.ref f9) = true)
    (a10 : PySem.W.nsIn K mainGlobals "pair_of" = some (some (.ref f10))) (l10 : K.lookup f10 = some ⟨oc10, od10, .func (PySem.W.fnOf "pair_of" "pair_of" (defArgs sPair) (defBody sPair) (defScope sPair) .none kV10 dc10 pm10 an10 cd10 ct10), sl10⟩) (c10 : PySem.W.codeIn K cd10 "pair_of" = true) (k10 : PySem.W.keepIn K (.ref f10) = true)
    (a11 : PySem.W.nsIn K mainGlobals "parts_of" = some (some (.ref f11))) (l11 : K.lookup f11 = some ⟨oc11, od11, .func (PySem.W.fnOf "parts_of" "parts_of" (defArgs sParts) (defBody sParts) (defScope sParts) .none kV11 dc11 pm11 an11 cd11 ct11), sl11⟩) (c11 : PySem.W.codeIn K cd11 "parts_of" = true) (k11 : PySem.W.keepIn K (.ref f11) = true)
    (a12 : PySem.W.nsIn K mainGlobals "pairs_below" = some (some (.ref f12))) (l12 : K.lookup f12 = some ⟨oc12, od12, .func (PySem.W.fnOf "pairs_below" "pairs_below" (defArgs sBelow) (defBody sBelow) (defScope sBelow) .none kV12 dc12 pm12 an12 cd12 ct12), sl12⟩) (c12 : PySem.W.codeIn K cd12 "pairs_below" = true) (k12 : PySem.W.keepIn K (.ref f12) = true)
    (a13 : PySem.W.nsIn K mainGlobals "root_of" = some (some (.ref f13))) (l13 : K.lookup f13 = some ⟨oc13, od13, .func (PySem.W.fnOf "root_of" "root_of" (defArgs sRoot) (defBody sRoot) (defScope sRoot) .none kV13 dc13 pm13 an13 cd13 ct13), sl13⟩) (c13 : PySem.W.codeIn K cd13 "root_of" = true) (k13 : PySem.W.keepIn K (.ref f13) = true)
    (a14 : PySem.W.nsIn K mainGlobals "small_root_of" = some (some (.ref f14))) (l14 : K.lookup f14 = some ⟨oc14, od14, .func (PySem.W.fnOf "small_root_of" "small_root_of" (defArgs sSmall) (defBody sSmall) (defScope sSmall) .none kV14 dc14 pm14 an14 cd14 ct14), sl14⟩) (c14 : PySem.W.codeIn K cd14 "small_root_of" = true) (k14 : PySem.W.keepIn K (.ref f14) = true)
    (a15 : PySem.W.nsIn K mainGlobals "top_of" = some (some (.ref f15))) (l15 : K.lookup f15 = some ⟨oc15, od15, .func (PySem.W.fnOf "top_of" "top_of" (defArgs sTop) (defBody sTop) (defScope sTop) .none kV15 dc15 pm15 an15 cd15 ct15), sl15⟩) (c15 : PySem.W.codeIn K cd15 "top_of" = true) (k15 : PySem.W.keepIn K (.ref f15) = true)
    (a16 : PySem.W.nsIn K mainGlobals "rows_of" = some (some (.ref f16))) (l16 : K.lookup f16 = some ⟨oc16, od16, .func (PySem.W.fnOf "rows_of" "rows_of" (defArgs sRows) (defBody sRows) (defScope sRows) .none kV16 dc16 pm16 an16 cd16 ct16), sl16⟩) (c16 : PySem.W.codeIn K cd16 "rows_of" = true) (k16 : PySem.W.keepIn K (.ref f16) = true)
    (a17 : PySem.W.nsIn K mainGlobals "place_numbers" = some (some (.ref f17))) (l17 : K.lookup f17 = some ⟨oc17, od17, .func (PySem.W.fnOf "place_numbers" "place_numbers" (defArgs sPlace) (defBody sPlace) (defScope sPlace) .none kV17 dc17 pm17 an17 cd17 ct17), sl17⟩) (c17 : PySem.W.codeIn K cd17 "place_numbers" = true) (k17 : PySem.W.keepIn K (.ref f17) = true)
    (a18 : PySem.W.nsIn K mainGlobals "number_by" = some (some (.ref f18))) (l18 : K.lookup f18 = some ⟨oc18, od18, .func (PySem.W.fnOf "number_by" "number_by" (defArgs sNumBy) (defBody sNumBy) (defScope sNumBy) .none kV18 dc18 pm18 an18 cd18 ct18), sl18⟩) (c18 : PySem.W.codeIn K cd18 "number_by" = true) (k18 : PySem.W.keepIn K (.ref f18) = true)
    (a19 : PySem.W.nsIn K mainGlobals "value_by" = some (some (.ref f19))) (l19 : K.lookup f19 = some ⟨oc19, od19, .func (PySem.W.fnOf "value_by" "value_by" (defArgs sValBy) (defBody sValBy) (defScope sValBy) .none kV19 dc19 pm19 an19 cd19 ct19), sl19⟩) (c19 : PySem.W.codeIn K cd19 "value_by" = true) (k19 : PySem.W.keepIn K (.ref f19) = true)
    (a20 : PySem.W.nsIn K mainGlobals "paired" = some (some (.ref f20))) (l20 : K.lookup f20 = some ⟨oc20, od20, .func (PySem.W.fnOf "paired" "paired" (defArgs sPaired) (defBody sPaired) (defScope sPaired) .none kV20 dc20 pm20 an20 cd20 ct20), sl20⟩) (c20 : PySem.W.codeIn K cd20 "paired" = true) (k20 : PySem.W.keepIn K (.ref f20) = true)
    (a21 : PySem.W.nsIn K mainGlobals "parted" = some (some (.ref f21))) (l21 : K.lookup f21 = some ⟨oc21, od21, .func (PySem.W.fnOf "parted" "parted" (defArgs sParted) (defBody sParted) (defScope sParted) .none kV21 dc21 pm21 an21 cd21 ct21), sl21⟩) (c21 : PySem.W.codeIn K cd21 "parted" = true) (k21 : PySem.W.keepIn K (.ref f21) = true)
    (a22 : PySem.W.nsIn K mainGlobals "slip_for" = some (some (.ref f22))) (l22 : K.lookup f22 = some ⟨oc22, od22, .func (PySem.W.fnOf "slip_for" "slip_for" (defArgs sSlip) (defBody sSlip) (defScope sSlip) .none kV22 dc22 pm22 an22 cd22 ct22), sl22⟩) (c22 : PySem.W.codeIn K cd22 "slip_for" = true) (k22 : PySem.W.keepIn K (.ref f22) = true)
    (a23 : PySem.W.nsIn K mainGlobals "is_taken" = some (some (.ref f23))) (l23 : K.lookup f23 = some ⟨oc23, od23, .func (PySem.W.fnOf "is_taken" "is_taken" (defArgs sTaken) (defBody sTaken) (defScope sTaken) .none kV23 dc23 pm23 an23 cd23 ct23), sl23⟩) (c23 : PySem.W.codeIn K cd23 "is_taken" = true) (k23 : PySem.W.keepIn K (.ref f23) = true)
    (a24 : PySem.W.nsIn K mainGlobals "moved_top" = some (some (.ref f24))) (l24 : K.lookup f24 = some ⟨oc24, od24, .func (PySem.W.fnOf "moved_top" "moved_top" (defArgs sMoved) (defBody sMoved) (defScope sMoved) .none kV24 dc24 pm24 an24 cd24 ct24), sl24⟩) (c24 : PySem.W.codeIn K cd24 "moved_top" = true) (k24 : PySem.W.keepIn K (.ref f24) = true)
    (a25 : PySem.W.nsIn K mainGlobals "leads_to_slips" = some (some (.ref f25))) (l25 : K.lookup f25 = some ⟨oc25, od25, .func (PySem.W.fnOf "leads_to" "leads_to" (defArgs sLeads) (defBody sLeads) (defScope sLeads) .none kV25 dc25 pm25 an25 cd25 ct25), sl25⟩) (c25 : PySem.W.codeIn K cd25 "leads_to" = true) (k25 : PySem.W.keepIn K (.ref f25) = true)
    (a26 : PySem.W.nsIn K mainGlobals "led_up" = some (some (.ref f26))) (l26 : K.lookup f26 = some ⟨oc26, od26, .func (PySem.W.fnOf "led_up" "led_up" (defArgs sLedUp) (defBody sLedUp) (defScope sLedUp) .none kV26 dc26 pm26 an26 cd26 ct26), sl26⟩) (c26 : PySem.W.codeIn K cd26 "led_up" = true) (k26 : PySem.W.keepIn K (.ref f26) = true)
    (a27 : PySem.W.nsIn K mainGlobals "pair_at" = some (some (.ref f27))) (l27 : K.lookup f27 = some ⟨oc27, od27, .func (PySem.W.fnOf "pair_at" "pair_at" (defArgs sPairAt) (defBody sPairAt) (defScope sPairAt) .none kV27 dc27 pm27 an27 cd27 ct27), sl27⟩) (c27 : PySem.W.codeIn K cd27 "pair_at" = true) (k27 : PySem.W.keepIn K (.ref f27) = true)
    (a28 : PySem.W.nsIn K mainGlobals "span_for" = some (some (.ref f28))) (l28 : K.lookup f28 = some ⟨oc28, od28, .func (PySem.W.fnOf "span_for" "span_for" (defArgs sSpan) (defBody sSpan) (defScope sSpan) .none kV28 dc28 pm28 an28 cd28 ct28), sl28⟩) (c28 : PySem.W.codeIn K cd28 "span_for" = true) (k28 : PySem.W.keepIn K (.ref f28) = true)
    (a29 : PySem.W.nsIn K mainGlobals "is_span" = some (some (.ref f29))) (l29 : K.lookup f29 = some ⟨oc29, od29, .func (PySem.W.fnOf "is_span" "is_span" (defArgs sIsSpan) (defBody sIsSpan) (defScope sIsSpan) .none kV29 dc29 pm29 an29 cd29 ct29), sl29⟩) (c29 : PySem.W.codeIn K cd29 "is_span" = true) (k29 : PySem.W.keepIn K (.ref f29) = true)
    (a30 : PySem.W.nsIn K mainGlobals "check_span" = some (some (.ref f30))) (l30 : K.lookup f30 = some ⟨oc30, od30, .func (PySem.W.fnOf "check_span" "check_span" (defArgs sCSpan) (defBody sCSpan) (defScope sCSpan) .none kV30 dc30 pm30 an30 cd30 ct30), sl30⟩) (c30 : PySem.W.codeIn K cd30 "check_span" = true) (k30 : PySem.W.keepIn K (.ref f30) = true)
    (a31 : PySem.W.nsIn K mainGlobals "all_within" = some (some (.ref f31))) (l31 : K.lookup f31 = some ⟨oc31, od31, .func (PySem.W.fnOf "all_within" "all_within" (defArgs sWithin) (defBody sWithin) (defScope sWithin) .none kV31 dc31 pm31 an31 cd31 ct31), sl31⟩) (c31 : PySem.W.codeIn K cd31 "all_within" = true) (k31 : PySem.W.keepIn K (.ref f31) = true)
    (a32 : PySem.W.nsIn K mainGlobals "levels_of" = some (some (.ref f32))) (l32 : K.lookup f32 = some ⟨oc32, od32, .func (PySem.W.fnOf "levels_of" "levels_of" (defArgs sLevelsOf) (defBody sLevelsOf) (defScope sLevelsOf) .none kV32 dc32 pm32 an32 cd32 ct32), sl32⟩) (c32 : PySem.W.codeIn K cd32 "levels_of" = true) (k32 : PySem.W.keepIn K (.ref f32) = true)
    (a33 : PySem.W.nsIn K mainGlobals "parts_outside" = some (some (.ref f33))) (l33 : K.lookup f33 = some ⟨oc33, od33, .func (PySem.W.fnOf "parts_outside" "parts_outside" (defArgs sOutside) (defBody sOutside) (defScope sOutside) .none kV33 dc33 pm33 an33 cd33 ct33), sl33⟩) (c33 : PySem.W.codeIn K cd33 "parts_outside" = true) (k33 : PySem.W.keepIn K (.ref f33) = true)
    (a34 : PySem.W.nsIn K mainGlobals "leads_to_spans" = some (some (.ref f34))) (l34 : K.lookup f34 = some ⟨oc34, od34, .func (PySem.W.fnOf "leads_to" "leads_to" (defArgs sLeads6) (defBody sLeads6) (defScope sLeads6) .none kV34 dc34 pm34 an34 cd34 ct34), sl34⟩) (c34 : PySem.W.codeIn K cd34 "leads_to" = true) (k34 : PySem.W.keepIn K (.ref f34) = true)
    (a35 : PySem.W.nsIn K mainGlobals "differing" = some (some (.ref f35))) (l35 : K.lookup f35 = some ⟨oc35, od35, .func (PySem.W.fnOf "differing" "differing" (defArgs sDiffer) (defBody sDiffer) (defScope sDiffer) .none kV35 dc35 pm35 an35 cd35 ct35), sl35⟩) (c35 : PySem.W.codeIn K cd35 "differing" = true) (k35 : PySem.W.keepIn K (.ref f35) = true)
    (a36 : PySem.W.nsIn K mainGlobals "halves_of" = some (some (.ref f36))) (l36 : K.lookup f36 = some ⟨oc36, od36, .func (PySem.W.fnOf "halves_of" "halves_of" (defArgs sHalves) (defBody sHalves) (defScope sHalves) .none kV36 dc36 pm36 an36 cd36 ct36), sl36⟩) (c36 : PySem.W.codeIn K cd36 "halves_of" = true) (k36 : PySem.W.keepIn K (.ref f36) = true)
    (a37 : PySem.W.nsIn K mainGlobals "only_unlike" = some (some (.ref f37))) (l37 : K.lookup f37 = some ⟨oc37, od37, .func (PySem.W.fnOf "only_unlike" "only_unlike" (defArgs sUnlike) (defBody sUnlike) (defScope sUnlike) .none kV37 dc37 pm37 an37 cd37 ct37), sl37⟩) (c37 : PySem.W.codeIn K cd37 "only_unlike" = true) (k37 : PySem.W.keepIn K (.ref f37) = true)
    (a38 : PySem.W.nsIn K mainGlobals "_law_at" = some (some (.ref f38))) (l38 : K.lookup f38 = some ⟨oc38, od38, .func (PySem.W.fnOf "_law_at" "_law_at" (defArgs sAt) (defBody sAt) (defScope sAt) .none kV38 dc38 pm38 an38 cd38 ct38), sl38⟩) (c38 : PySem.W.codeIn K cd38 "_law_at" = true) (k38 : PySem.W.keepIn K (.ref f38) = true)
    (a39 : PySem.W.nsIn K mainGlobals "_law_first_ways" = some (some (.ref f39))) (l39 : K.lookup f39 = some ⟨oc39, od39, .func (PySem.W.fnOf "_law_first_ways" "_law_first_ways" (defArgs sFirstWays) (defBody sFirstWays) (defScope sFirstWays) .none kV39 dc39 pm39 an39 cd39 ct39), sl39⟩) (c39 : PySem.W.codeIn K cd39 "_law_first_ways" = true) (k39 : PySem.W.keepIn K (.ref f39) = true)
    (a40 : PySem.W.nsIn K mainGlobals "_law_other_ways" = some (some (.ref f40))) (l40 : K.lookup f40 = some ⟨oc40, od40, .func (PySem.W.fnOf "_law_other_ways" "_law_other_ways" (defArgs sOtherWays) (defBody sOtherWays) (defScope sOtherWays) .none kV40 dc40 pm40 an40 cd40 ct40), sl40⟩) (c40 : PySem.W.codeIn K cd40 "_law_other_ways" = true) (k40 : PySem.W.keepIn K (.ref f40) = true)
    (a41 : PySem.W.nsIn K mainGlobals "_law_said" = some (some (.ref f41))) (l41 : K.lookup f41 = some ⟨oc41, od41, .func (PySem.W.fnOf "_law_said" "_law_said" (defArgs sSaid) (defBody sSaid) (defScope sSaid) .none kV41 dc41 pm41 an41 cd41 ct41), sl41⟩) (c41 : PySem.W.codeIn K cd41 "_law_said" = true) (k41 : PySem.W.keepIn K (.ref f41) = true)
    (a42 : PySem.W.nsIn K mainGlobals "_law_word_due" = some (some (.ref f42))) (l42 : K.lookup f42 = some ⟨oc42, od42, .func (PySem.W.fnOf "_law_word_due" "_law_word_due" (defArgs sWordDue) (defBody sWordDue) (defScope sWordDue) .none kV42 dc42 pm42 an42 cd42 ct42), sl42⟩) (c42 : PySem.W.codeIn K cd42 "_law_word_due" = true) (k42 : PySem.W.keepIn K (.ref f42) = true)
    (a43 : PySem.W.nsIn K mainGlobals "_law_refuses" = some (some (.ref f43))) (l43 : K.lookup f43 = some ⟨oc43, od43, .func (PySem.W.fnOf "_law_refuses" "_law_refuses" (defArgs sRefuses) (defBody sRefuses) (defScope sRefuses) .none kV43 dc43 pm43 an43 cd43 ct43), sl43⟩) (c43 : PySem.W.codeIn K cd43 "_law_refuses" = true) (k43 : PySem.W.keepIn K (.ref f43) = true)
    (a44 : PySem.W.nsIn K mainGlobals "_law_as_due" = some (some (.ref f44))) (l44 : K.lookup f44 = some ⟨oc44, od44, .func (PySem.W.fnOf "_law_as_due" "_law_as_due" (defArgs sAsDue) (defBody sAsDue) (defScope sAsDue) .none kV44 dc44 pm44 an44 cd44 ct44), sl44⟩) (c44 : PySem.W.codeIn K cd44 "_law_as_due" = true) (k44 : PySem.W.keepIn K (.ref f44) = true)
    (a45 : PySem.W.nsIn K mainGlobals "law" = some (some (.ref f45))) (l45 : K.lookup f45 = some ⟨oc45, od45, .func (PySem.W.fnOf "law" "law" (defArgs sLaw) (defBody sLaw) (defScope sLaw) .none kV45 dc45 pm45 an45 cd45 ct45), sl45⟩) (c45 : PySem.W.codeIn K cd45 "law" = true) (k45 : PySem.W.keepIn K (.ref f45) = true)
    (e1 : PySem.W.nsIn K mainGlobals "BadDepth" = some (some (.ref C1))) (q1 : PySem.W.excIn K C1 bm newId = true)
    (e2 : PySem.W.nsIn K mainGlobals "BadKey" = some (some (.ref C2))) (q2 : PySem.W.excIn K C2 bm newId = true)
    (e3 : PySem.W.nsIn K mainGlobals "BadNumber" = some (some (.ref C3))) (q3 : PySem.W.excIn K C3 bm newId = true)
    (e4 : PySem.W.nsIn K mainGlobals "BadSpan" = some (some (.ref C4))) (q4 : PySem.W.excIn K C4 bm newId = true)
    (e5 : PySem.W.nsIn K mainGlobals "NotTaken" = some (some (.ref C5))) (q5 : PySem.W.excIn K C5 bm newId = true)
    (xc1 : PySem.W.clsIn K C1 = some cl1)
    (xt1 : PySem.W.typeIn K (.ref C1) = some (.type "type"))
    (xg1 : PySem.W.findIn K (.ref C1) "__getattribute__" = some (some (.builtin "BaseException.__getattribute__")))
    (xr1 : PySem.W.findIn K (.ref C1) "__getattr__" = some none)
    (xf1 : PySem.W.findIn K (.ref C1) "__class__" = some (some (.builtin "object.__class__")))
    (xo1 : PySem.W.mroIn K C1 (.type "object") = some true)
    (xb1 : PySem.W.mroIn K C1 (.type "BaseException") = some true)
    (xs1 : PySem.W.subIn K (.ref C1) (.type "BaseException") = some true)
    (xl1 : PySem.W.subIn K (.ref C1) (.ref SL) = some true)
    (xv1 : PySem.W.subIn K (.ref C1) (.type "ValueError") = some true)
    (xx11 : PySem.W.subIn K (.ref C1) (.ref C1) = some true)
    (xx12 : PySem.W.subIn K (.ref C1) (.ref C2) = some false)
    (xx13 : PySem.W.subIn K (.ref C1) (.ref C3) = some false)
    (xx14 : PySem.W.subIn K (.ref C1) (.ref C4) = some false)
    (xx15 : PySem.W.subIn K (.ref C1) (.ref C5) = some false)
    (xc2 : PySem.W.clsIn K C2 = some cl2)
    (xt2 : PySem.W.typeIn K (.ref C2) = some (.type "type"))
    (xg2 : PySem.W.findIn K (.ref C2) "__getattribute__" = some (some (.builtin "BaseException.__getattribute__")))
    (xr2 : PySem.W.findIn K (.ref C2) "__getattr__" = some none)
    (xf2 : PySem.W.findIn K (.ref C2) "__class__" = some (some (.builtin "object.__class__")))
    (xo2 : PySem.W.mroIn K C2 (.type "object") = some true)
    (xb2 : PySem.W.mroIn K C2 (.type "BaseException") = some true)
    (xs2 : PySem.W.subIn K (.ref C2) (.type "BaseException") = some true)
    (xl2 : PySem.W.subIn K (.ref C2) (.ref SL) = some true)
    (xv2 : PySem.W.subIn K (.ref C2) (.type "ValueError") = some true)
    (xx21 : PySem.W.subIn K (.ref C2) (.ref C1) = some false)
    (xx22 : PySem.W.subIn K (.ref C2) (.ref C2) = some true)
    (xx23 : PySem.W.subIn K (.ref C2) (.ref C3) = some false)
    (xx24 : PySem.W.subIn K (.ref C2) (.ref C4) = some false)
    (xx25 : PySem.W.subIn K (.ref C2) (.ref C5) = some false)
    (xc3 : PySem.W.clsIn K C3 = some cl3)
    (xt3 : PySem.W.typeIn K (.ref C3) = some (.type "type"))
    (xg3 : PySem.W.findIn K (.ref C3) "__getattribute__" = some (some (.builtin "BaseException.__getattribute__")))
    (xr3 : PySem.W.findIn K (.ref C3) "__getattr__" = some none)
    (xf3 : PySem.W.findIn K (.ref C3) "__class__" = some (some (.builtin "object.__class__")))
    (xo3 : PySem.W.mroIn K C3 (.type "object") = some true)
    (xb3 : PySem.W.mroIn K C3 (.type "BaseException") = some true)
    (xs3 : PySem.W.subIn K (.ref C3) (.type "BaseException") = some true)
    (xl3 : PySem.W.subIn K (.ref C3) (.ref SL) = some true)
    (xv3 : PySem.W.subIn K (.ref C3) (.type "ValueError") = some true)
    (xx31 : PySem.W.subIn K (.ref C3) (.ref C1) = some false)
    (xx32 : PySem.W.subIn K (.ref C3) (.ref C2) = some false)
    (xx33 : PySem.W.subIn K (.ref C3) (.ref C3) = some true)
    (xx34 : PySem.W.subIn K (.ref C3) (.ref C4) = some false)
    (xx35 : PySem.W.subIn K (.ref C3) (.ref C5) = some false)
    (xc4 : PySem.W.clsIn K C4 = some cl4)
    (xt4 : PySem.W.typeIn K (.ref C4) = some (.type "type"))
    (xg4 : PySem.W.findIn K (.ref C4) "__getattribute__" = some (some (.builtin "BaseException.__getattribute__")))
    (xr4 : PySem.W.findIn K (.ref C4) "__getattr__" = some none)
    (xf4 : PySem.W.findIn K (.ref C4) "__class__" = some (some (.builtin "object.__class__")))
    (xo4 : PySem.W.mroIn K C4 (.type "object") = some true)
    (xb4 : PySem.W.mroIn K C4 (.type "BaseException") = some true)
    (xs4 : PySem.W.subIn K (.ref C4) (.type "BaseException") = some true)
    (xl4 : PySem.W.subIn K (.ref C4) (.ref SL) = some true)
    (xv4 : PySem.W.subIn K (.ref C4) (.type "ValueError") = some true)
    (xx41 : PySem.W.subIn K (.ref C4) (.ref C1) = some false)
    (xx42 : PySem.W.subIn K (.ref C4) (.ref C2) = some false)
    (xx43 : PySem.W.subIn K (.ref C4) (.ref C3) = some false)
    (xx44 : PySem.W.subIn K (.ref C4) (.ref C4) = some true)
    (xx45 : PySem.W.subIn K (.ref C4) (.ref C5) = some false)
    (xc5 : PySem.W.clsIn K C5 = some cl5)
    (xt5 : PySem.W.typeIn K (.ref C5) = some (.type "type"))
    (xg5 : PySem.W.findIn K (.ref C5) "__getattribute__" = some (some (.builtin "BaseException.__getattribute__")))
    (xr5 : PySem.W.findIn K (.ref C5) "__getattr__" = some none)
    (xf5 : PySem.W.findIn K (.ref C5) "__class__" = some (some (.builtin "object.__class__")))
    (xo5 : PySem.W.mroIn K C5 (.type "object") = some true)
    (xb5 : PySem.W.mroIn K C5 (.type "BaseException") = some true)
    (xs5 : PySem.W.subIn K (.ref C5) (.type "BaseException") = some true)
    (xl5 : PySem.W.subIn K (.ref C5) (.ref SL) = some true)
    (xv5 : PySem.W.subIn K (.ref C5) (.type "ValueError") = some true)
    (xx51 : PySem.W.subIn K (.ref C5) (.ref C1) = some false)
    (xx52 : PySem.W.subIn K (.ref C5) (.ref C2) = some false)
    (xx53 : PySem.W.subIn K (.ref C5) (.ref C3) = some false)
    (xx54 : PySem.W.subIn K (.ref C5) (.ref C4) = some false)
    (xx55 : PySem.W.subIn K (.ref C5) (.ref C5) = some true)
    (eS : PySem.W.nsIn K mainGlobals "SlipError" = some (some (.ref SL)))
    (xcS : PySem.W.clsIn K SL = some cl6)
    (xtS : PySem.W.typeIn K (.ref SL) = some (.type "type"))
    (xsS : PySem.W.subIn K (.ref SL) (.type "BaseException") = some true)
    (xsg : PySem.W.specialIn K (.builtin "object.__class__") "__get__" = some (some (.builtin "getset_descriptor.__get__")))
    (xtk : PySem.W.takesIn K (.builtin "object.__class__") = some true)
    (g1 : PySem.W.nsIn K mainGlobals "GREATEST_DEPTH" = some (some (.int 8 tk1)))
    (z1 : PySem.W.nsIn K mainGlobals "len" = some none)    (z2 : PySem.W.nsIn K mainGlobals "range" = some none)    (z3 : PySem.W.nsIn K mainGlobals "min" = some none)    (z4 : PySem.W.nsIn K mainGlobals "isinstance" = some none)    (z5 : PySem.W.nsIn K mainGlobals "int" = some none)    (z6 : PySem.W.nsIn K mainGlobals "bool" = some none)    (z7 : PySem.W.nsIn K mainGlobals "tuple" = some none)    (z8 : PySem.W.nsIn K mainGlobals "list" = some none)    (z9 : PySem.W.nsIn K mainGlobals "str" = some none)    (z10 : PySem.W.nsIn K mainGlobals "sorted" = some none)    (z11 : PySem.W.nsIn K mainGlobals "set" = some none)    (z12 : PySem.W.nsIn K mainGlobals "max" = some none)    (z13 : PySem.W.nsIn K mainGlobals "dict" = some none)    (z14 : PySem.W.nsIn K mainGlobals "zip" = some none)    (z15 : PySem.W.nsIn K mainGlobals "enumerate" = some none)    (z16 : PySem.W.nsIn K mainGlobals "ValueError" = some none) :
    ∃ fd : FuncData, (∀ (s : Shared) (v : Value), BindsTo s fd ⟨[v], []⟩ [("_law_script", v)]) ∧ ∀ base : Heap, K.In base → base.Ns mainGlobals mg → FnOk l.prog w K mg base CX0 24 fa fd ["_law_script"] (spLaw K) := by
  have e := hfa.symm.trans (PySem.W.mg_of X G a45)
  cases e
  have F1 := fun_mk (st := sDepth) l1 c1 k1
  have m1 := PySem.W.mg_of X G a1
  have b1 := F1.binds (ps := ["depth"]) fun _ _ _ _ _ _ us hl => match us, hl with | [_], _ => rfl
  have F2 := fun_mk (st := sCRows) l2 c2 k2
  have m2 := PySem.W.mg_of X G a2
  have b2 := F2.binds (ps := ["depth", "rows"]) fun _ _ _ _ _ _ us hl => match us, hl with | [_, _], _ => rfl
  have F3 := fun_mk (st := sCKeys) l3 c3 k3
  have m3 := PySem.W.mg_of X G a3
  have b3 := F3.binds (ps := ["depth", "rows"]) fun _ _ _ _ _ _ us hl => match us, hl with | [_, _], _ => rfl
  have F4 := fun_mk (st := sCKey) l4 c4 k4
  have m4 := PySem.W.mg_of X G a4
  have b4 := F4.binds (ps := ["depth", "key"]) fun _ _ _ _ _ _ us hl => match us, hl with | [_, _], _ => rfl
  have F5 := fun_mk (st := sCVal) l5 c5 k5
  have m5 := PySem.W.mg_of X G a5
  have b5 := F5.binds (ps := ["value"]) fun _ _ _ _ _ _ us hl => match us, hl with | [_], _ => rfl
  have F6 := fun_mk (st := sCValN) l6 c6 k6
  have m6 := PySem.W.mg_of X G a6
  have b6 := F6.binds (ps := ["value"]) fun _ _ _ _ _ _ us hl => match us, hl with | [_], _ => rfl
  have F7 := fun_mk (st := sCNums) l7 c7 k7
  have m7 := PySem.W.mg_of X G a7
  have b7 := F7.binds (ps := ["numbers"]) fun _ _ _ _ _ _ us hl => match us, hl with | [_], _ => rfl
  have F8 := fun_mk (st := sCTop) l8 c8 k8
  have m8 := PySem.W.mg_of X G a8
  have b8 := F8.binds (ps := ["top"]) fun _ _ _ _ _ _ us hl => match us, hl with | [_], _ => rfl
  have F9 := fun_mk (st := sCount) l9 c9 k9
  have m9 := PySem.W.mg_of X G a9
  have b9 := F9.binds (ps := ["depth"]) fun _ _ _ _ _ _ us hl => match us, hl with | [_], _ => rfl
  have F10 := fun_mk (st := sPair) l10 c10 k10
  have m10 := PySem.W.mg_of X G a10
  have b10 := F10.binds (ps := ["one", "two"]) fun _ _ _ _ _ _ us hl => match us, hl with | [_, _], _ => rfl
  have F11 := fun_mk (st := sParts) l11 c11 k11
  have m11 := PySem.W.mg_of X G a11
  have b11 := F11.binds (ps := ["number"]) fun _ _ _ _ _ _ us hl => match us, hl with | [_], _ => rfl
  have F12 := fun_mk (st := sBelow) l12 c12 k12
  have m12 := PySem.W.mg_of X G a12
  have b12 := F12.binds (ps := ["total"]) fun _ _ _ _ _ _ us hl => match us, hl with | [_], _ => rfl
  have F13 := fun_mk (st := sRoot) l13 c13 k13
  have m13 := PySem.W.mg_of X G a13
  have b13 := F13.binds (ps := ["number"]) fun _ _ _ _ _ _ us hl => match us, hl with | [_], _ => rfl
  have F14 := fun_mk (st := sSmall) l14 c14 k14
  have m14 := PySem.W.mg_of X G a14
  have b14 := F14.binds (ps := ["number"]) fun _ _ _ _ _ _ us hl => match us, hl with | [_], _ => rfl
  have F15 := fun_mk (st := sTop) l15 c15 k15
  have m15 := PySem.W.mg_of X G a15
  have b15 := F15.binds (ps := ["depth", "rows"]) fun _ _ _ _ _ _ us hl => match us, hl with | [_, _], _ => rfl
  have F16 := fun_mk (st := sRows) l16 c16 k16
  have m16 := PySem.W.mg_of X G a16
  have b16 := F16.binds (ps := ["depth", "top"]) fun _ _ _ _ _ _ us hl => match us, hl with | [_, _], _ => rfl
  have F17 := fun_mk (st := sPlace) l17 c17 k17
  have m17 := PySem.W.mg_of X G a17
  have b17 := F17.binds (ps := ["depth", "rows"]) fun _ _ _ _ _ _ us hl => match us, hl with | [_, _], _ => rfl
  have F18 := fun_mk (st := sNumBy) l18 c18 k18
  have m18 := PySem.W.mg_of X G a18
  have b18 := F18.binds (ps := ["value"]) fun _ _ _ _ _ _ us hl => match us, hl with | [_], _ => rfl
  have F19 := fun_mk (st := sValBy) l19 c19 k19
  have m19 := PySem.W.mg_of X G a19
  have b19 := F19.binds (ps := ["number"]) fun _ _ _ _ _ _ us hl => match us, hl with | [_], _ => rfl
  have F20 := fun_mk (st := sPaired) l20 c20 k20
  have m20 := PySem.W.mg_of X G a20
  have b20 := F20.binds (ps := ["numbers"]) fun _ _ _ _ _ _ us hl => match us, hl with | [_], _ => rfl
  have F21 := fun_mk (st := sParted) l21 c21 k21
  have m21 := PySem.W.mg_of X G a21
  have b21 := F21.binds (ps := ["numbers"]) fun _ _ _ _ _ _ us hl => match us, hl with | [_], _ => rfl
  have F22 := fun_mk (st := sSlip) l22 c22 k22
  have m22 := PySem.W.mg_of X G a22
  have b22 := F22.binds (ps := ["depth", "rows", "key"]) fun _ _ _ _ _ _ us hl => match us, hl with | [_, _, _], _ => rfl
  have F23 := fun_mk (st := sTaken) l23 c23 k23
  have m23 := PySem.W.mg_of X G a23
  have b23 := F23.binds (ps := ["depth", "top", "key", "value", "slip"]) fun _ _ _ _ _ _ us hl => match us, hl with | [_, _, _, _, _], _ => rfl
  have F24 := fun_mk (st := sMoved) l24 c24 k24
  have m24 := PySem.W.mg_of X G a24
  have b24 := F24.binds (ps := ["depth", "top", "key", "slip", "old", "new"]) fun _ _ _ _ _ _ us hl => match us, hl with | [_, _, _, _, _, _], _ => rfl
  have F25 := fun_mk (st := sLeads) l25 c25 k25
  have m25 := PySem.W.mg_of X G a25
  have b25 := F25.binds (ps := ["top", "key", "value", "slip"]) fun _ _ _ _ _ _ us hl => match us, hl with | [_, _, _, _], _ => rfl
  have F26 := fun_mk (st := sLedUp) l26 c26 k26
  have m26 := PySem.W.mg_of X G a26
  have b26 := F26.binds (ps := ["key", "value", "slip"]) fun _ _ _ _ _ _ us hl => match us, hl with | [_, _, _], _ => rfl
  have F27 := fun_mk (st := sPairAt) l27 c27 k27
  have m27 := PySem.W.mg_of X G a27
  have b27 := F27.binds (ps := ["place", "number", "beside"]) fun _ _ _ _ _ _ us hl => match us, hl with | [_, _, _], _ => rfl
  have F28 := fun_mk (st := sSpan) l28 c28 k28
  have m28 := PySem.W.mg_of X G a28
  have b28 := F28.binds (ps := ["depth", "rows", "first", "last"]) fun _ _ _ _ _ _ us hl => match us, hl with | [_, _, _, _], _ => rfl
  have F29 := fun_mk (st := sIsSpan) l29 c29 k29
  have m29 := PySem.W.mg_of X G a29
  have b29 := F29.binds (ps := ["depth", "top", "first", "last", "rows", "numbers"]) fun _ _ _ _ _ _ us hl => match us, hl with | [_, _, _, _, _, _], _ => rfl
  have F30 := fun_mk (st := sCSpan) l30 c30 k30
  have m30 := PySem.W.mg_of X G a30
  have b30 := F30.binds (ps := ["depth", "first", "last"]) fun _ _ _ _ _ _ us hl => match us, hl with | [_, _, _], _ => rfl
  have F31 := fun_mk (st := sWithin) l31 c31 k31
  have m31 := PySem.W.mg_of X G a31
  have b31 := F31.binds (ps := ["rows", "first", "last"]) fun _ _ _ _ _ _ us hl => match us, hl with | [_, _, _], _ => rfl
  have F32 := fun_mk (st := sLevelsOf) l32 c32 k32
  have m32 := PySem.W.mg_of X G a32
  have b32 := F32.binds (ps := ["depth", "rows"]) fun _ _ _ _ _ _ us hl => match us, hl with | [_, _], _ => rfl
  have F33 := fun_mk (st := sOutside) l33 c33 k33
  have m33 := PySem.W.mg_of X G a33
  have b33 := F33.binds (ps := ["depth", "first", "last"]) fun _ _ _ _ _ _ us hl => match us, hl with | [_, _, _], _ => rfl
  have F34 := fun_mk (st := sLeads6) l34 c34 k34
  have m34 := PySem.W.mg_of X G a34
  have b34 := F34.binds (ps := ["depth", "top", "first", "last", "within", "outside"]) fun _ _ _ _ _ _ us hl => match us, hl with | [_, _, _, _, _, _], _ => rfl
  have F35 := fun_mk (st := sDiffer) l35 c35 k35
  have m35 := PySem.W.mg_of X G a35
  have b35 := F35.binds (ps := ["depth", "one", "two"]) fun _ _ _ _ _ _ us hl => match us, hl with | [_, _, _], _ => rfl
  have F36 := fun_mk (st := sHalves) l36 c36 k36
  have m36 := PySem.W.mg_of X G a36
  have b36 := F36.binds (ps := ["parts"]) fun _ _ _ _ _ _ us hl => match us, hl with | [_], _ => rfl
  have F37 := fun_mk (st := sUnlike) l37 c37 k37
  have m37 := PySem.W.mg_of X G a37
  have b37 := F37.binds (ps := ["parts"]) fun _ _ _ _ _ _ us hl => match us, hl with | [_], _ => rfl
  have F38 := fun_mk (st := sAt) l38 c38 k38
  have m38 := PySem.W.mg_of X G a38
  have b38 := F38.binds (ps := ["_law_script", "_law_k"]) fun _ _ _ _ _ _ us hl => match us, hl with | [_, _], _ => rfl
  have F39 := fun_mk (st := sFirstWays) l39 c39 k39
  have m39 := PySem.W.mg_of X G a39
  have b39 := F39.binds (ps := ["_law_which", "_law_depth", "_law_rows", "_law_key", "_law_value", "_law_slip"]) fun _ _ _ _ _ _ us hl => match us, hl with | [_, _, _, _, _, _], _ => rfl
  have F40 := fun_mk (st := sOtherWays) l40 c40 k40
  have m40 := PySem.W.mg_of X G a40
  have b40 := F40.binds (ps := ["_law_which", "_law_depth", "_law_rows", "_law_key", "_law_value", "_law_slip"]) fun _ _ _ _ _ _ us hl => match us, hl with | [_, _, _, _, _, _], _ => rfl
  have F41 := fun_mk (st := sSaid) l41 c41 k41
  have m41 := PySem.W.mg_of X G a41
  have b41 := F41.binds (ps := ["_law_which", "_law_depth", "_law_rows", "_law_key", "_law_value", "_law_slip"]) fun _ _ _ _ _ _ us hl => match us, hl with | [_, _, _, _, _, _], _ => rfl
  have F42 := fun_mk (st := sWordDue) l42 c42 k42
  have m42 := PySem.W.mg_of X G a42
  have b42 := F42.binds (ps := ["_law_which", "_law_count", "_law_rows", "_law_key", "_law_value", "_law_slip"]) fun _ _ _ _ _ _ us hl => match us, hl with | [_, _, _, _, _, _], _ => rfl
  have F43 := fun_mk (st := sRefuses) l43 c43 k43
  have m43 := PySem.W.mg_of X G a43
  have b43 := F43.binds (ps := ["_law_which", "_law_depth", "_law_rows", "_law_key", "_law_value", "_law_slip"]) fun _ _ _ _ _ _ us hl => match us, hl with | [_, _, _, _, _, _], _ => rfl
  have F44 := fun_mk (st := sAsDue) l44 c44 k44
  have m44 := PySem.W.mg_of X G a44
  have b44 := F44.binds (ps := ["_law_due", "_law_which", "_law_depth", "_law_rows", "_law_key", "_law_value", "_law_slip"]) fun _ _ _ _ _ _ us hl => match us, hl with | [_, _, _, _, _, _, _], _ => rfl
  have F45 := fun_mk (st := sLaw) l45 c45 k45
  have n_len := PySem.W.mg_none_of X G z1
  have n_range := PySem.W.mg_none_of X G z2
  have n_min := PySem.W.mg_none_of X G z3
  have n_isinstance := PySem.W.mg_none_of X G z4
  have n_int := PySem.W.mg_none_of X G z5
  have n_bool := PySem.W.mg_none_of X G z6
  have n_tuple := PySem.W.mg_none_of X G z7
  have n_list := PySem.W.mg_none_of X G z8
  have n_str := PySem.W.mg_none_of X G z9
  have n_sorted := PySem.W.mg_none_of X G z10
  have n_set := PySem.W.mg_none_of X G z11
  have n_max := PySem.W.mg_none_of X G z12
  have n_dict := PySem.W.mg_none_of X G z13
  have n_zip := PySem.W.mg_none_of X G z14
  have n_enumerate := PySem.W.mg_none_of X G z15
  have n_ValueError := PySem.W.mg_none_of X G z16
  have T : Blt mg := ⟨n_len, n_range, n_min, n_isinstance, n_int, n_bool, n_tuple, n_list, n_str⟩
  have M : Nm mg ⟨C1, C2, C3, C4, C5⟩ SL := ⟨PySem.W.mg_of X G e1, PySem.W.mg_of X G e2, PySem.W.mg_of X G e3, PySem.W.mg_of X G e4, PySem.W.mg_of X G e5, PySem.W.mg_of X G eS, n_ValueError⟩
  have yk : ∀ u : Wd, ExcK K (Ec.at ⟨C1, C2, C3, C4, C5⟩ u) := (fun u => by cases u with
    | done => exact ⟨(show (PySem.W.clsIn K C1).isSome = true by rw [xc1]; rfl), xt1, xg1, xr1, xf1, xsg, xtk, xo1, xb1⟩
    | depth => exact ⟨(show (PySem.W.clsIn K C1).isSome = true by rw [xc1]; rfl), xt1, xg1, xr1, xf1, xsg, xtk, xo1, xb1⟩
    | key => exact ⟨(show (PySem.W.clsIn K C2).isSome = true by rw [xc2]; rfl), xt2, xg2, xr2, xf2, xsg, xtk, xo2, xb2⟩
    | number => exact ⟨(show (PySem.W.clsIn K C3).isSome = true by rw [xc3]; rfl), xt3, xg3, xr3, xf3, xsg, xtk, xo3, xb3⟩
    | span => exact ⟨(show (PySem.W.clsIn K C4).isSome = true by rw [xc4]; rfl), xt4, xg4, xr4, xf4, xsg, xtk, xo4, xb4⟩
    | taken => exact ⟨(show (PySem.W.clsIn K C5).isSome = true by rw [xc5]; rfl), xt5, xg5, xr5, xf5, xsg, xtk, xo5, xb5⟩
    )
  have ys : ∀ u : Wd, PySem.W.subIn K (.ref (Ec.at ⟨C1, C2, C3, C4, C5⟩ u)) (.type "BaseException") = some true := (fun u => by cases u with
    | done => exact xs1
    | depth => exact xs1
    | key => exact xs2
    | number => exact xs3
    | span => exact xs4
    | taken => exact xs5
    )
  have yl : ∀ u : Wd, PySem.W.subIn K (.ref (Ec.at ⟨C1, C2, C3, C4, C5⟩ u)) (.ref SL) = some true := (fun u => by cases u with
    | done => exact xl1
    | depth => exact xl1
    | key => exact xl2
    | number => exact xl3
    | span => exact xl4
    | taken => exact xl5
    )
  have yv : ∀ u : Wd, PySem.W.subIn K (.ref (Ec.at ⟨C1, C2, C3, C4, C5⟩ u)) (.type "ValueError") = some true := (fun u => by cases u with
    | done => exact xv1
    | depth => exact xv1
    | key => exact xv2
    | number => exact xv3
    | span => exact xv4
    | taken => exact xv5
    )
  have yx : ∀ u v : Wd, u ≠ .done → v ≠ .done → PySem.W.subIn K (.ref (Ec.at ⟨C1, C2, C3, C4, C5⟩ u)) (.ref (Ec.at ⟨C1, C2, C3, C4, C5⟩ v)) = some (decide (u = v)) := by
    intro u v hu hv
    cases u with
    | done => exact absurd rfl hu
    | depth =>
      cases v with
      | done => exact absurd rfl hv
      | depth => exact xx11
      | key => exact xx12
      | number => exact xx13
      | span => exact xx14
      | taken => exact xx15
    | key =>
      cases v with
      | done => exact absurd rfl hv
      | depth => exact xx21
      | key => exact xx22
      | number => exact xx23
      | span => exact xx24
      | taken => exact xx25
    | number =>
      cases v with
      | done => exact absurd rfl hv
      | depth => exact xx31
      | key => exact xx32
      | number => exact xx33
      | span => exact xx34
      | taken => exact xx35
    | span =>
      cases v with
      | done => exact absurd rfl hv
      | depth => exact xx41
      | key => exact xx42
      | number => exact xx43
      | span => exact xx44
      | taken => exact xx45
    | taken =>
      cases v with
      | done => exact absurd rfl hv
      | depth => exact xx51
      | key => exact xx52
      | number => exact xx53
      | span => exact xx54
      | taken => exact xx55
  have Z : Ex K ⟨C1, C2, C3, C4, C5⟩ SL := ex_of yk (by rw [xcS]; rfl) xtS ys xsS yx yl yv
  refine ⟨PySem.W.fnOf "law" "law" (defArgs sLaw) (defBody sLaw) (defScope sLaw) .none kV45 dc45 pm45 an45 cd45 ct45, fun s v => .of_eq rfl, fun base KB GB => ?_⟩
  have O1 := own_mk KB GB e1 q1
  have O2 := own_mk KB GB e2 q2
  have O3 := own_mk KB GB e3 q3
  have O4 := own_mk KB GB e4 q4
  have O5 := own_mk KB GB e5 q5
  have G12 := ok_below (P := l.prog) (w := w) (mg := mg) (base := base) F12
  have h10 : Has l.prog w K mg base "pair_of" 2 ["one", "two"] spPair := ⟨_, _, ok_pair F10 G12 b12 k12 m12, b10, k10, m10⟩
  have G14 := ok_small (P := l.prog) (w := w) (mg := mg) (base := base) F14
  have G13 := ok_root F13 b13 m13 G14 b14 k14 m14 15
  have h11 : Has l.prog w K mg base "parts_of" 18 ["number"] spParts := ⟨_, _, ok_parts F11 G12 b12 k12 m12 G13 b13 k13 m13, b11, k11, m11⟩
  have h1 : Has l.prog w K mg base "check_depth" 1 ["depth"] spDepth := ⟨_, _, ok_depth F1 (PySem.W.mg_of X G g1), b1, k1, m1⟩
  have h9 : Has l.prog w K mg base "count_of_places" 1 ["depth"] spCount := ⟨_, _, ok_count F9, b9, k9, m9⟩
  have h4 : Has l.prog w K mg base "check_key" 2 ["depth", "key"] spCKey := ⟨_, _, ok_ckey F4 h9, b4, k4, m4⟩
  have h5 : Has l.prog w K mg base "check_value" 1 ["value"] spCVal := ⟨_, _, ok_cval F5, b5, k5, m5⟩
  have h3 : Has l.prog w K mg base "check_keys_of_rows" 3 ["depth", "rows"] (spCRows K) := ⟨_, _, ok_ckeys F3 h4, b3, k3, m3⟩
  have h2 : Has l.prog w K mg base "check_rows" 4 ["depth", "rows"] (spCRows K) := ⟨_, _, ok_crows F2 h3 h5, b2, k2, m2⟩
  have h18 : Has l.prog w K mg base "number_by" 1 ["value"] spNumBy := ⟨_, _, ok_numby F18, b18, k18, m18⟩
  have h17 : Has l.prog w K mg base "place_numbers" 2 ["depth", "rows"] (spPlace K) := ⟨_, _, ok_place F17 h9 h18, b17, k17, m17⟩
  have h20 : Has l.prog w K mg base "paired" 3 ["numbers"] (spPaired K) := ⟨_, _, ok_paired F20 n_range n_len h10, b20, k20, m20⟩
  have h6 : Has l.prog w K mg base "check_value_or_none" 2 ["value"] spCValN := ⟨_, _, ok_cvaln F6 h5, b6, k6, m6⟩
  have h7 : Has l.prog w K mg base "check_numbers" 1 ["numbers"] (spCNums K) := ⟨_, _, ok_cnums F7, b7, k7, m7⟩
  have h27 : Has l.prog w K mg base "pair_at" 3 ["place", "number", "beside"] spPairAt := ⟨_, _, ok_pairat F27 h10, b27, k27, m27⟩
  have h25 : Has l.prog w K mg base "leads_to_slips" 4 ["top", "key", "value", "slip"] (spLeads K) := ⟨_, _, ok_leads F25 h18 h27, b25, k25, m25⟩
  have h30 : Has l.prog w K mg base "check_span" 3 ["depth", "first", "last"] spCSpan := ⟨_, _, ok_cspan F30 h4, b30, k30, m30⟩
  have h31 : Has l.prog w K mg base "all_within" 1 ["rows", "first", "last"] (spWithin K) := ⟨_, _, ok_within F31, b31, k31, m31⟩
  have h32 : Has l.prog w K mg base "levels_of" 4 ["depth", "rows"] (spLevOf K) := ⟨_, _, ok_levof F32 n_len h17 h20, b32, k32, m32⟩
  have h33 : Has l.prog w K mg base "parts_outside" 1 ["depth", "first", "last"] (spOutside K) := ⟨_, _, ok_outside F33 n_range, b33, k33, m33⟩
  have h34 : Has l.prog w K mg base "leads_to_spans" 4 ["depth", "top", "first", "last", "within", "outside"] (spLeads6 K) := ⟨_, _, ok_leads6 F34 n_range n_max h20, b34, k34, m34⟩
  have h8 : Has l.prog w K mg base "check_top" 1 ["top"] spCVal := ⟨_, _, ok_ctop F8, b8, k8, m8⟩
  have h19 : Has l.prog w K mg base "value_by" 1 ["number"] spValBy := ⟨_, _, ok_valby F19, b19, k19, m19⟩
  have h21 : Has l.prog w K mg base "parted" 19 ["numbers"] (spParted K) := ⟨_, _, ok_parted F21 h11, b21, k21, m21⟩
  have h37 : Has l.prog w K mg base "only_unlike" 1 ["parts"] (spUnlike K) := ⟨_, _, ok_unlike F37, b37, k37, m37⟩
  have h36 : Has l.prog w K mg base "halves_of" 19 ["parts"] (spHalves K) := ⟨_, _, ok_halves F36 h11, b36, k36, m36⟩
  have h38 : Has l.prog w K mg base "_law_at" 1 ["_law_script", "_law_k"] (spAt K) := ⟨_, _, ok_at F38 T, b38, k38, m38⟩
  have hx1 : HasX l.prog w K mg base "check_depth" 1 ["depth"] (spDepthX C1) := ⟨_, _, ok_depthX F1 (PySem.W.mg_of X G g1) O1 FB, b1, k1, m1⟩
  have hx4 : HasX l.prog w K mg base "check_key" 2 ["depth", "key"] (spCKeyX C2) := ⟨_, _, ok_ckeyX F4 h9 O2 FB, b4, k4, m4⟩
  have hx5 : HasX l.prog w K mg base "check_value" 1 ["value"] (spCValX C3) := ⟨_, _, ok_cvalX F5 O3 FB, b5, k5, m5⟩
  have hx8 : HasX l.prog w K mg base "check_top" 1 ["top"] (spCValX C3) := ⟨_, _, ok_ctopX F8 O3 FB, b8, k8, m8⟩
  have hx6 : HasX l.prog w K mg base "check_value_or_none" 2 ["value"] (spCValNX C3) := ⟨_, _, ok_cvalnX F6 hx5, b6, k6, m6⟩
  have hx7 : HasX l.prog w K mg base "check_numbers" 1 ["numbers"] (spCNumsX K C3) := ⟨_, _, ok_cnumsX F7 O3 FB, b7, k7, m7⟩
  have hx30 : HasX l.prog w K mg base "check_span" 3 ["depth", "first", "last"] (spCSpanX C2 C4) := ⟨_, _, ok_cspanX F30 hx4 O4 FB, b30, k30, m30⟩
  have hx3 : HasX l.prog w K mg base "check_keys_of_rows" 3 ["depth", "rows"] (spCKeysX K C2) := ⟨_, _, ok_ckeysX F3 hx4 O2 FB, b3, k3, m3⟩
  have hx2 : HasX l.prog w K mg base "check_rows" 4 ["depth", "rows"] (spCRowsX K C2 C3) := ⟨_, _, ok_crowsX F2 hx3 hx5, b2, k2, m2⟩
  have hx15 : HasX l.prog w K mg base "top_of" 5 ["depth", "rows"] (spOr (spTop K) (spTopF K ⟨C1, C2, C3, C4, C5⟩)) := ⟨_, _, FnOk.or (ok_top F15 n_len h1 h2 h17 h20).lift (fail_top (c := ⟨C1, C2, C3, C4, C5⟩) F15 hx1 hx2), b15, k15, m15⟩
  have hx16 : HasX l.prog w K mg base "rows_of" 20 ["depth", "top"] (spOr (spRows K) (spRowsF ⟨C1, C2, C3, C4, C5⟩)) := ⟨_, _, FnOk.or (ok_rows F16 n_len n_enumerate h1 h9 h21 h8 h19).lift ((fail_rows (c := ⟨C1, C2, C3, C4, C5⟩) F16 hx1 hx8).mono (by decide)), b16, k16, m16⟩
  have hx22 : HasX l.prog w K mg base "slip_for" 5 ["depth", "rows", "key"] (spOr (spSlip K) (spSlipF K ⟨C1, C2, C3, C4, C5⟩)) := ⟨_, _, FnOk.or (ok_slip F22 n_len h1 h2 h4 h17 h20).lift (fail_slip (c := ⟨C1, C2, C3, C4, C5⟩) F22 hx1 hx2 hx4), b22, k22, m22⟩
  have hx23 : HasX l.prog w K mg base "is_taken" 5 ["depth", "top", "key", "value", "slip"] (spOr (spTaken K) (spTakenF K ⟨C1, C2, C3, C4, C5⟩)) := ⟨_, _, FnOk.or (ok_taken F23 n_len h1 h4 h6 h7 h25).lift (fail_taken (c := ⟨C1, C2, C3, C4, C5⟩) F23 hx1 hx4 hx6 hx7), b23, k23, m23⟩
  have hx24 : HasX l.prog w K mg base "moved_top" 6 ["depth", "top", "key", "slip", "old", "new"] (spMovedF K ⟨C1, C2, C3, C4, C5⟩) := ⟨_, _, fail_moved (c := ⟨C1, C2, C3, C4, C5⟩) F24 O5 FB hx23 hx6, b24, k24, m24⟩
  have hx28 : HasX l.prog w K mg base "span_for" 5 ["depth", "rows", "first", "last"] (spOr (spSpan K) (spSpanF K ⟨C1, C2, C3, C4, C5⟩)) := ⟨_, _, FnOk.or (ok_span F28 h1 h2 h30 h32 h33).lift (fail_span (c := ⟨C1, C2, C3, C4, C5⟩) F28 hx1 hx2 hx30), b28, k28, m28⟩
  have hx29 : HasX l.prog w K mg base "is_span" 5 ["depth", "top", "first", "last", "rows", "numbers"] (spOr (spIsSpan K) (spIsSpanF K ⟨C1, C2, C3, C4, C5⟩)) := ⟨_, _, FnOk.or (ok_isspan F29 n_len n_dict n_zip h1 h2 h30 h7 h33 h31 h17 h34).lift (fail_isspan (c := ⟨C1, C2, C3, C4, C5⟩) F29 hx1 hx2 hx30 hx7), b29, k29, m29⟩
  have hx35 : HasX l.prog w K mg base "differing" 20 ["depth", "one", "two"] (spOr (spDiffer K) (spDifferF ⟨C1, C2, C3, C4, C5⟩)) := ⟨_, _, FnOk.or (ok_differ F35 n_range n_len h1 h8 h37 h36 (has_valN h19)).lift ((fail_differ (c := ⟨C1, C2, C3, C4, C5⟩) F35 hx1 hx8).mono (by decide)), b35, k35, m35⟩
  have hx39 : HasX l.prog w K mg base "_law_first_ways" 21 ["_law_which", "_law_depth", "_law_rows", "_law_key", "_law_value", "_law_slip"] (spWay K ⟨C1, C2, C3, C4, C5⟩ 0 5) := ⟨_, _, ok_first F39 hx15 hx16 hx22 hx23 hx24, b39, k39, m39⟩
  have hx40 : HasX l.prog w K mg base "_law_other_ways" 21 ["_law_which", "_law_depth", "_law_rows", "_law_key", "_law_value", "_law_slip"] (spWay K ⟨C1, C2, C3, C4, C5⟩ 5 12) := ⟨_, _, ok_other F40 hx28 hx29 hx35 hx24, b40, k40, m40⟩
  have h41 : Has l.prog w K mg base "_law_said" 22 ["_law_which", "_law_depth", "_law_rows", "_law_key", "_law_value", "_law_slip"] (spSaid K) := ⟨_, _, ok_said F41 Z M hx39 hx40, b41, k41, m41⟩
  have h43 : Has l.prog w K mg base "_law_refuses" 22 ["_law_which", "_law_depth", "_law_rows", "_law_key", "_law_value", "_law_slip"] (spRefuses K) := ⟨_, _, ok_refuses F43 T Z M hx39 hx40, b43, k43, m43⟩
  have h42 : Has l.prog w K mg base "_law_word_due" 1 ["_law_which", "_law_count", "_law_rows", "_law_key", "_law_value", "_law_slip"] (spDue K) := ⟨_, _, ok_due F42 T n_sorted n_set, b42, k42, m42⟩
  have h44 : Has l.prog w K mg base "_law_as_due" 23 ["_law_due", "_law_which", "_law_depth", "_law_rows", "_law_key", "_law_value", "_law_slip"] (spAsDue K) := ⟨_, _, ok_asdue F44 h43 h41, b44, k44, m44⟩
  exact ok_law F45 T h38 h42 h44
theorem walk {l : PySem.W.OpenLaw} {q : Program} {loose : List Str} {XP : (Str → Option Value) → Heap → Prop} {YP : World → Heap → Prop} {d : DefRec} {K : Params → PySem.W.Frag} (hn : l.most = some 63) (hdf : d.params.defaults = [])
    (hY : ∀ (w : World) (h : Heap), YP w h → (K w.params).In h)
    (F : ∀ (w : World) (mg : Str → Option Value) (fa : Addr) (h : Heap), (K w.params).In h → h.Ns mainGlobals mg → mg d.name = some (.ref fa) →
      ∃ fd : FuncData, (∀ (s : Shared) (u : Value), BindsTo s fd ⟨[u], []⟩ [("_law_script", u)]) ∧ ∀ base : Heap, (K w.params).In base → base.Ns mainGlobals mg → FnOk l.prog w (K w.params) mg base CX0 24 fa fd ["_law_script"] (spLaw (K w.params))) :
    PySem.W.WalkO q loose XP YP l.row.toRowW d [] (fun f vs => PySem.call f vs) :=
  L2.walk_of (n := 63) (k := 24) (x := "_law_script") (CX := fun _ => CX0) (sp := fun w => spLaw (K w.params)) hn (by decide) hdf ⟨rfl, by decide, by decide⟩ hY F (fun _ _ a ns hl _ hS => ⟨a, ns, rfl, hS, hl, fun _ => rfl⟩) fun _ _ _ _ _ z => z
end Ts
namespace Tb
open L2 PySem
abbrev O := PySem.Params → PySem.Obj
abbrev BT := PySem.Params → PySem.W.BT
noncomputable def tp (i : Nat) : PySem.Stmt := PySem.Challenge.pw_topslip_k08_refused.main.body.getD i (.Pass ⟨0, 0, 0, 0⟩)
noncomputable def fo (c : PySem.Value) (n : PySem.Str) (i g : Nat) (m cd : PySem.Value) : PySem.Obj := { cls := c, data := .func { name := n, qualname := n, params := defArgs (tp i), body := .stmts (defBody (tp i)), scope := defScope (tp i), globals := g, closure := [], defaults := .none, kwdefaults := .none, pyModule := m, code := cd } }
noncomputable def cO (a : Array PySem.Value) : PySem.Obj := { cls := .type "code", data := .fields a }
noncomputable def tO (a : Array PySem.Value) : PySem.Obj := { cls := .type "tuple", data := .seq a }
noncomputable def de (P : PySem.Params) (k : PySem.Str) (t : Nat) (v : PySem.Value) : PySem.DictEntry := ⟨PySem.PyData.keyHash P k, .str k t, v⟩
noncomputable def b43 : O := fun P => tO #[]
noncomputable def b45 : O := fun P => cO #[.str (.ofString "<module>") 182, .str (.ofString "<module>") 183, .str (.ofString "/claim/cut.py") 184, .int 1 0, .int 0 0, .int 0 0, .int 0 0, .int 0 0, .ref 11, .bool false, .int 181 0, .ref 12, .none, .none, .none, .none, .int 185 0, .int 1 0, .str (.ofString "/claim/cut.py") 186]
noncomputable def b46 : O := fun P => { cls := .type "frame", slots := #[some (.ref 13), some (.ref 3), some (.ref 3), none, some (.str (.ofString "__main__") 164), none, some (.ref 0)] }
noncomputable def b51 : O := fun P => tO #[.type "ValueError"]
noncomputable def b52 : O := fun P => { cls := .type "builtin_function_or_method", data := .fields #[.builtin "type.__prepare__", .type "type"] }
noncomputable def b53 : O := fun P => { cls := .type "dict", data := .dict #[de P (.ofString "__module__") 196 (.str (.ofString "topslip.errors") 187), de P (.ofString "__qualname__") 198 (.str (.ofString "SlipError") 197), de P (.ofString "__firstlineno__") 200 (.int 2 199), de P (.ofString "__static_attributes__") 201 (.ref 22)] 4 }
noncomputable def b54 : O := fun P => tO #[]
noncomputable def b55 : O := fun P => { cls := .none, data := .fields #[] }
noncomputable def b56 : O := fun P => cO #[.str (.ofString "SlipError") 191, .str (.ofString "SlipError") 192, .str (.ofString "/claim/cut.py") 193, .int 2 0, .int 0 0, .int 0 0, .int 0 0, .int 0 0, .ref 18, .bool false, .int 181 0, .ref 19, .none, .none, .none, .none, .int 194 0, .int 2 0, .str (.ofString "/claim/cut.py") 195]
noncomputable def b57 : O := fun P => { cls := .type "frame", slots := #[some (.ref 20), some (.ref 3), some (.ref 17), none, some (.str (.ofString "topslip.errors") 187), none, some (.ref 0)] }
noncomputable def b58 : O := fun P => tO #[]
noncomputable def b59 : O := fun P => { cls := .type "dict", data := .dict #[de P (.ofString "__module__") 196 (.str (.ofString "topslip.errors") 187), de P (.ofString "__firstlineno__") 200 (.int 2 199), de P (.ofString "__static_attributes__") 201 (.ref 22), de P (.ofString "__weakref__") 203 (.ref 25), de P (.ofString "__doc__") 204 (.none)] 3 }
noncomputable def b61 : O := fun P => { cls := .type "getset_descriptor", data := .fields #[.str (.ofString "__weakref__") 202, .ref 24, .builtin "ExceptionGroup.__weakref__", .none] }
noncomputable def b62 : O := fun P => { cls := .type "super", data := .fields #[.ref 24, .ref 24, .ref 24] }
noncomputable def b63 : O := fun P => { cls := .type "builtin_function_or_method", data := .fields #[.builtin "object.__init_subclass__", .ref 24] }
noncomputable def b67 : O := fun P => tO #[.ref 24]
noncomputable def b68 : O := fun P => { cls := .type "builtin_function_or_method", data := .fields #[.builtin "type.__prepare__", .type "type"] }
noncomputable def b69 : O := fun P => { cls := .type "dict", data := .dict #[de P (.ofString "__module__") 214 (.str (.ofString "topslip.errors") 187), de P (.ofString "__qualname__") 216 (.str (.ofString "BadNumber") 215), de P (.ofString "__firstlineno__") 218 (.int 4 217), de P (.ofString "__static_attributes__") 219 (.ref 35)] 4 }
noncomputable def b70 : O := fun P => tO #[]
noncomputable def b71 : O := fun P => { cls := .none, data := .fields #[] }
noncomputable def b72 : O := fun P => cO #[.str (.ofString "BadNumber") 209, .str (.ofString "BadNumber") 210, .str (.ofString "/claim/cut.py") 211, .int 4 0, .int 0 0, .int 0 0, .int 0 0, .int 0 0, .ref 31, .bool false, .int 181 0, .ref 32, .none, .none, .none, .none, .int 212 0, .int 4 0, .str (.ofString "/claim/cut.py") 213]
noncomputable def b73 : O := fun P => { cls := .type "frame", slots := #[some (.ref 33), some (.ref 3), some (.ref 30), none, some (.str (.ofString "topslip.errors") 187), none, some (.ref 0)] }
noncomputable def b74 : O := fun P => tO #[]
noncomputable def b75 : O := fun P => { cls := .type "dict", data := .dict #[de P (.ofString "__module__") 214 (.str (.ofString "topslip.errors") 187), de P (.ofString "__firstlineno__") 218 (.int 4 217), de P (.ofString "__static_attributes__") 219 (.ref 35), de P (.ofString "__doc__") 220 (.none)] 2 }
noncomputable def b76 : O := fun P => { cls := .type "type", data := .cls { name := .ofString "BadNumber", bases := [.ref 24], mro := [.ref 37, .ref 24, .type "ValueError", .type "Exception", .type "BaseException", .type "object"], ns := 36, qualname := .ofString "BadNumber" }, slots := #[some (.ref 28), none, some (.str (.ofString "BadNumber") 207), some (.str (.ofString "BadNumber") 215), some (.builtin "ValueError.__new__"), some (.bool true)] }
noncomputable def b77 : O := fun P => { cls := .type "super", data := .fields #[.ref 37, .ref 37, .ref 37] }
noncomputable def b78 : O := fun P => { cls := .type "builtin_function_or_method", data := .fields #[.builtin "object.__init_subclass__", .ref 37] }
noncomputable def b82 : O := fun P => tO #[.ref 24]
noncomputable def b83 : O := fun P => { cls := .type "builtin_function_or_method", data := .fields #[.builtin "type.__prepare__", .type "type"] }
noncomputable def b84 : O := fun P => { cls := .type "dict", data := .dict #[de P (.ofString "__module__") 230 (.str (.ofString "topslip.errors") 187), de P (.ofString "__qualname__") 232 (.str (.ofString "BadDepth") 231), de P (.ofString "__firstlineno__") 234 (.int 6 233), de P (.ofString "__static_attributes__") 235 (.ref 47)] 4 }
noncomputable def b85 : O := fun P => tO #[]
noncomputable def b86 : O := fun P => { cls := .none, data := .fields #[] }
noncomputable def b87 : O := fun P => cO #[.str (.ofString "BadDepth") 225, .str (.ofString "BadDepth") 226, .str (.ofString "/claim/cut.py") 227, .int 6 0, .int 0 0, .int 0 0, .int 0 0, .int 0 0, .ref 43, .bool false, .int 181 0, .ref 44, .none, .none, .none, .none, .int 228 0, .int 6 0, .str (.ofString "/claim/cut.py") 229]
noncomputable def b88 : O := fun P => { cls := .type "frame", slots := #[some (.ref 45), some (.ref 3), some (.ref 42), none, some (.str (.ofString "topslip.errors") 187), none, some (.ref 0)] }
noncomputable def b89 : O := fun P => tO #[]
noncomputable def b90 : O := fun P => { cls := .type "dict", data := .dict #[de P (.ofString "__module__") 230 (.str (.ofString "topslip.errors") 187), de P (.ofString "__firstlineno__") 234 (.int 6 233), de P (.ofString "__static_attributes__") 235 (.ref 47), de P (.ofString "__doc__") 236 (.none)] 2 }
noncomputable def b91 : O := fun P => { cls := .type "type", data := .cls { name := .ofString "BadDepth", bases := [.ref 24], mro := [.ref 49, .ref 24, .type "ValueError", .type "Exception", .type "BaseException", .type "object"], ns := 48, qualname := .ofString "BadDepth" }, slots := #[some (.ref 40), none, some (.str (.ofString "BadDepth") 223), some (.str (.ofString "BadDepth") 231), some (.builtin "ValueError.__new__"), some (.bool true)] }
noncomputable def b92 : O := fun P => { cls := .type "super", data := .fields #[.ref 49, .ref 49, .ref 49] }
noncomputable def b93 : O := fun P => { cls := .type "builtin_function_or_method", data := .fields #[.builtin "object.__init_subclass__", .ref 49] }
noncomputable def b97 : O := fun P => tO #[.ref 24]
noncomputable def b98 : O := fun P => { cls := .type "builtin_function_or_method", data := .fields #[.builtin "type.__prepare__", .type "type"] }
noncomputable def b99 : O := fun P => { cls := .type "dict", data := .dict #[de P (.ofString "__module__") 246 (.str (.ofString "topslip.errors") 187), de P (.ofString "__qualname__") 248 (.str (.ofString "BadKey") 247), de P (.ofString "__firstlineno__") 250 (.int 8 249), de P (.ofString "__static_attributes__") 251 (.ref 59)] 4 }
noncomputable def b100 : O := fun P => tO #[]
noncomputable def b101 : O := fun P => { cls := .none, data := .fields #[] }
noncomputable def b102 : O := fun P => cO #[.str (.ofString "BadKey") 241, .str (.ofString "BadKey") 242, .str (.ofString "/claim/cut.py") 243, .int 8 0, .int 0 0, .int 0 0, .int 0 0, .int 0 0, .ref 55, .bool false, .int 181 0, .ref 56, .none, .none, .none, .none, .int 244 0, .int 8 0, .str (.ofString "/claim/cut.py") 245]
noncomputable def b103 : O := fun P => { cls := .type "frame", slots := #[some (.ref 57), some (.ref 3), some (.ref 54), none, some (.str (.ofString "topslip.errors") 187), none, some (.ref 0)] }
noncomputable def b104 : O := fun P => tO #[]
noncomputable def b105 : O := fun P => { cls := .type "dict", data := .dict #[de P (.ofString "__module__") 246 (.str (.ofString "topslip.errors") 187), de P (.ofString "__firstlineno__") 250 (.int 8 249), de P (.ofString "__static_attributes__") 251 (.ref 59), de P (.ofString "__doc__") 252 (.none)] 2 }
noncomputable def b106 : O := fun P => { cls := .type "type", data := .cls { name := .ofString "BadKey", bases := [.ref 24], mro := [.ref 61, .ref 24, .type "ValueError", .type "Exception", .type "BaseException", .type "object"], ns := 60, qualname := .ofString "BadKey" }, slots := #[some (.ref 52), none, some (.str (.ofString "BadKey") 239), some (.str (.ofString "BadKey") 247), some (.builtin "ValueError.__new__"), some (.bool true)] }
noncomputable def b107 : O := fun P => { cls := .type "super", data := .fields #[.ref 61, .ref 61, .ref 61] }
noncomputable def b108 : O := fun P => { cls := .type "builtin_function_or_method", data := .fields #[.builtin "object.__init_subclass__", .ref 61] }
noncomputable def b112 : O := fun P => tO #[.ref 24]
noncomputable def b113 : O := fun P => { cls := .type "builtin_function_or_method", data := .fields #[.builtin "type.__prepare__", .type "type"] }
noncomputable def b114 : O := fun P => { cls := .type "dict", data := .dict #[de P (.ofString "__module__") 262 (.str (.ofString "topslip.errors") 187), de P (.ofString "__qualname__") 264 (.str (.ofString "BadSpan") 263), de P (.ofString "__firstlineno__") 266 (.int 10 265), de P (.ofString "__static_attributes__") 267 (.ref 71)] 4 }
noncomputable def b115 : O := fun P => tO #[]
noncomputable def b116 : O := fun P => { cls := .none, data := .fields #[] }
noncomputable def b117 : O := fun P => cO #[.str (.ofString "BadSpan") 257, .str (.ofString "BadSpan") 258, .str (.ofString "/claim/cut.py") 259, .int 10 0, .int 0 0, .int 0 0, .int 0 0, .int 0 0, .ref 67, .bool false, .int 181 0, .ref 68, .none, .none, .none, .none, .int 260 0, .int 10 0, .str (.ofString "/claim/cut.py") 261]
noncomputable def b118 : O := fun P => { cls := .type "frame", slots := #[some (.ref 69), some (.ref 3), some (.ref 66), none, some (.str (.ofString "topslip.errors") 187), none, some (.ref 0)] }
noncomputable def b119 : O := fun P => tO #[]
noncomputable def b120 : O := fun P => { cls := .type "dict", data := .dict #[de P (.ofString "__module__") 262 (.str (.ofString "topslip.errors") 187), de P (.ofString "__firstlineno__") 266 (.int 10 265), de P (.ofString "__static_attributes__") 267 (.ref 71), de P (.ofString "__doc__") 268 (.none)] 2 }
noncomputable def b121 : O := fun P => { cls := .type "type", data := .cls { name := .ofString "BadSpan", bases := [.ref 24], mro := [.ref 73, .ref 24, .type "ValueError", .type "Exception", .type "BaseException", .type "object"], ns := 72, qualname := .ofString "BadSpan" }, slots := #[some (.ref 64), none, some (.str (.ofString "BadSpan") 255), some (.str (.ofString "BadSpan") 263), some (.builtin "ValueError.__new__"), some (.bool true)] }
noncomputable def b122 : O := fun P => { cls := .type "super", data := .fields #[.ref 73, .ref 73, .ref 73] }
noncomputable def b123 : O := fun P => { cls := .type "builtin_function_or_method", data := .fields #[.builtin "object.__init_subclass__", .ref 73] }
noncomputable def b126 : O := fun P => { cls := .type "type", data := .cls { name := .ofString "SlipError", bases := [.type "ValueError"], mro := [.ref 24, .type "ValueError", .type "Exception", .type "BaseException", .type "object"], ns := 23, qualname := .ofString "SlipError", subclasses := [.ref 37, .ref 49, .ref 61, .ref 73, .ref 85] }, slots := #[some (.ref 15), none, some (.str (.ofString "SlipError") 189), some (.str (.ofString "SlipError") 197), some (.builtin "ValueError.__new__"), some (.bool true)] }
noncomputable def b127 : O := fun P => tO #[.ref 24]
noncomputable def b128 : O := fun P => { cls := .type "builtin_function_or_method", data := .fields #[.builtin "type.__prepare__", .type "type"] }
noncomputable def b129 : O := fun P => { cls := .type "dict", data := .dict #[de P (.ofString "__module__") 278 (.str (.ofString "topslip.errors") 187), de P (.ofString "__qualname__") 280 (.str (.ofString "NotTaken") 279), de P (.ofString "__firstlineno__") 282 (.int 12 281), de P (.ofString "__static_attributes__") 283 (.ref 83)] 4 }
noncomputable def b130 : O := fun P => tO #[]
noncomputable def b131 : O := fun P => { cls := .none, data := .fields #[] }
noncomputable def b132 : O := fun P => cO #[.str (.ofString "NotTaken") 273, .str (.ofString "NotTaken") 274, .str (.ofString "/claim/cut.py") 275, .int 12 0, .int 0 0, .int 0 0, .int 0 0, .int 0 0, .ref 79, .bool false, .int 181 0, .ref 80, .none, .none, .none, .none, .int 276 0, .int 12 0, .str (.ofString "/claim/cut.py") 277]
noncomputable def b133 : O := fun P => { cls := .type "frame", slots := #[some (.ref 81), some (.ref 3), some (.ref 78), none, some (.str (.ofString "topslip.errors") 187), none, some (.ref 0)] }
noncomputable def b134 : O := fun P => tO #[]
noncomputable def b135 : O := fun P => { cls := .type "dict", data := .dict #[de P (.ofString "__module__") 278 (.str (.ofString "topslip.errors") 187), de P (.ofString "__firstlineno__") 282 (.int 12 281), de P (.ofString "__static_attributes__") 283 (.ref 83), de P (.ofString "__doc__") 284 (.none)] 2 }
noncomputable def b136 : O := fun P => { cls := .type "type", data := .cls { name := .ofString "NotTaken", bases := [.ref 24], mro := [.ref 85, .ref 24, .type "ValueError", .type "Exception", .type "BaseException", .type "object"], ns := 84, qualname := .ofString "NotTaken" }, slots := #[some (.ref 76), none, some (.str (.ofString "NotTaken") 271), some (.str (.ofString "NotTaken") 279), some (.builtin "ValueError.__new__"), some (.bool true)] }
noncomputable def b137 : O := fun P => { cls := .type "super", data := .fields #[.ref 85, .ref 85, .ref 85] }
noncomputable def b138 : O := fun P => { cls := .type "builtin_function_or_method", data := .fields #[.builtin "object.__init_subclass__", .ref 85] }
noncomputable def b139 : O := fun P => tO #[]
noncomputable def b140 : O := fun P => { cls := .none, data := .fields #[] }
noncomputable def b141 : O := fun P => tO #[.str (.ofString "depth") 294]
noncomputable def b142 : O := fun P => tO #[]
noncomputable def b143 : O := fun P => fo (.none) (.ofString "check_depth") 9 0 .none .none
noncomputable def b144 : O := fun P => cO #[.str (.ofString "check_depth") 291, .str (.ofString "check_depth") 292, .str (.ofString "/claim/cut.py") 293, .int 16 0, .int 1 0, .int 0 0, .int 0 0, .int 3 0, .ref 88, .bool true, .int 181 0, .ref 89, .none, .ref 90, .ref 91, .ref 92, .int 295 0, .int 16 0, .str (.ofString "/claim/cut.py") 296]
noncomputable def b145 : O := fun P => fo (.type "function") (.ofString "check_depth") 9 3 (.str (.ofString "topslip.checks") 287) (.ref 93)
noncomputable def b146 : O := fun P => tO #[]
noncomputable def b147 : O := fun P => { cls := .none, data := .fields #[] }
noncomputable def b148 : O := fun P => tO #[.str (.ofString "depth") 301, .str (.ofString "rows") 302, .str (.ofString "row") 303]
noncomputable def b149 : O := fun P => tO #[]
noncomputable def b150 : O := fun P => fo (.none) (.ofString "check_rows") 10 0 .none .none
noncomputable def b151 : O := fun P => cO #[.str (.ofString "check_rows") 298, .str (.ofString "check_rows") 299, .str (.ofString "/claim/cut.py") 300, .int 19 0, .int 2 0, .int 0 0, .int 0 0, .int 3 0, .ref 95, .bool true, .int 181 0, .ref 96, .none, .ref 97, .ref 98, .ref 99, .int 304 0, .int 19 0, .str (.ofString "/claim/cut.py") 305]
noncomputable def b152 : O := fun P => fo (.type "function") (.ofString "check_rows") 10 3 (.str (.ofString "topslip.checks") 287) (.ref 100)
noncomputable def b153 : O := fun P => tO #[]
noncomputable def b154 : O := fun P => { cls := .none, data := .fields #[] }
noncomputable def b155 : O := fun P => tO #[.str (.ofString "depth") 310, .str (.ofString "rows") 311, .str (.ofString "met") 312, .str (.ofString "row") 313, .str (.ofString "key") 314]
noncomputable def b156 : O := fun P => tO #[]
noncomputable def b157 : O := fun P => fo (.none) (.ofString "check_keys_of_rows") 11 0 .none .none
noncomputable def b158 : O := fun P => cO #[.str (.ofString "check_keys_of_rows") 307, .str (.ofString "check_keys_of_rows") 308, .str (.ofString "/claim/cut.py") 309, .int 23 0, .int 2 0, .int 0 0, .int 0 0, .int 3 0, .ref 102, .bool true, .int 181 0, .ref 103, .none, .ref 104, .ref 105, .ref 106, .int 315 0, .int 23 0, .str (.ofString "/claim/cut.py") 316]
noncomputable def b159 : O := fun P => fo (.type "function") (.ofString "check_keys_of_rows") 11 3 (.str (.ofString "topslip.checks") 287) (.ref 107)
noncomputable def b160 : O := fun P => tO #[]
noncomputable def b161 : O := fun P => { cls := .none, data := .fields #[] }
noncomputable def b162 : O := fun P => tO #[.str (.ofString "depth") 321, .str (.ofString "key") 322]
noncomputable def b163 : O := fun P => tO #[]
noncomputable def b164 : O := fun P => fo (.none) (.ofString "check_key") 12 0 .none .none
noncomputable def b165 : O := fun P => cO #[.str (.ofString "check_key") 318, .str (.ofString "check_key") 319, .str (.ofString "/claim/cut.py") 320, .int 31 0, .int 2 0, .int 0 0, .int 0 0, .int 3 0, .ref 109, .bool true, .int 181 0, .ref 110, .none, .ref 111, .ref 112, .ref 113, .int 323 0, .int 31 0, .str (.ofString "/claim/cut.py") 324]
noncomputable def b166 : O := fun P => fo (.type "function") (.ofString "check_key") 12 3 (.str (.ofString "topslip.checks") 287) (.ref 114)
noncomputable def b167 : O := fun P => tO #[]
noncomputable def b168 : O := fun P => { cls := .none, data := .fields #[] }
noncomputable def b169 : O := fun P => tO #[.str (.ofString "value") 329]
noncomputable def b170 : O := fun P => tO #[]
noncomputable def b171 : O := fun P => fo (.none) (.ofString "check_value") 13 0 .none .none
noncomputable def b172 : O := fun P => cO #[.str (.ofString "check_value") 326, .str (.ofString "check_value") 327, .str (.ofString "/claim/cut.py") 328, .int 34 0, .int 1 0, .int 0 0, .int 0 0, .int 3 0, .ref 116, .bool true, .int 181 0, .ref 117, .none, .ref 118, .ref 119, .ref 120, .int 330 0, .int 34 0, .str (.ofString "/claim/cut.py") 331]
noncomputable def b173 : O := fun P => fo (.type "function") (.ofString "check_value") 13 3 (.str (.ofString "topslip.checks") 287) (.ref 121)
noncomputable def b174 : O := fun P => { cls := .type "dict", data := .dict #[de P (.ofString "__name__") 165 (.str (.ofString "topslip.tops") 407), de P (.ofString "__doc__") 166 (.none), de P (.ofString "__package__") 167 (.none), de P (.ofString "__loader__") 168 (.builtin "__main__.__loader__#opaque"), de P (.ofString "__spec__") 169 (.none), de P (.ofString "__annotations__") 170 (.ref 6), de P (.ofString "__builtins__") 171 (.ref 4), de P (.ofString "__file__") 173 (.str (.ofString "/claim/cut.py") 172), de P (.ofString "__cached__") 174 (.none), de P (.ofString "SlipError") 206 (.ref 24), de P (.ofString "BadNumber") 222 (.ref 37), de P (.ofString "BadDepth") 238 (.ref 49), de P (.ofString "BadKey") 254 (.ref 61), de P (.ofString "BadSpan") 270 (.ref 73), de P (.ofString "NotTaken") 286 (.ref 85), de P (.ofString "GREATEST_DEPTH") 290 (.int 8 289), de P (.ofString "check_depth") 297 (.ref 94), de P (.ofString "check_rows") 306 (.ref 101), de P (.ofString "check_keys_of_rows") 317 (.ref 108), de P (.ofString "check_key") 325 (.ref 115), de P (.ofString "check_value") 332 (.ref 122), de P (.ofString "check_value_or_none") 339 (.ref 129), de P (.ofString "check_numbers") 347 (.ref 136), de P (.ofString "check_top") 354 (.ref 143), de P (.ofString "count_of_places") 361 (.ref 150), de P (.ofString "pair_of") 372 (.ref 157), de P (.ofString "parts_of") 381 (.ref 164), de P (.ofString "pairs_below") 388 (.ref 171), de P (.ofString "root_of") 398 (.ref 178), de P (.ofString "small_root_of") 406 (.ref 185), de P (.ofString "top_of") 417 (.ref 192), de P (.ofString "rows_of") 423 (.ref 197), de P (.ofString "place_numbers") 433 (.ref 204)] 33 }
noncomputable def b175 : O := fun P => { cls := .none, data := .fields #[.int 2 0, .int 0 0, .ref 20, .int 4 0, .int 0 0, .ref 33, .int 6 0, .int 0 0, .ref 45, .int 8 0, .int 0 0, .ref 57, .int 10 0, .int 0 0, .ref 69, .int 12 0, .int 0 0, .ref 81, .int 16 0, .int 0 0, .ref 93, .int 19 0, .int 0 0, .ref 100, .int 23 0, .int 0 0, .ref 107, .int 31 0, .int 0 0, .ref 114, .int 34 0, .int 0 0, .ref 121, .int 37 0, .int 0 0, .ref 128, .int 40 0, .int 0 0, .ref 135, .int 44 0, .int 0 0, .ref 142, .int 47 0, .int 0 0, .ref 149, .int 50 0, .int 0 0, .ref 156, .int 55 0, .int 0 0, .ref 163, .int 61 0, .int 0 0, .ref 170, .int 63 0, .int 0 0, .ref 177, .int 73 0, .int 0 0, .ref 184, .int 79 0, .int 0 0, .ref 191, .int 86 0, .int 0 0, .ref 196, .int 93 0, .int 0 0, .ref 203] }
noncomputable def b176 : O := fun P => tO #[]
noncomputable def b177 : O := fun P => { cls := .none, data := .fields #[] }
noncomputable def b178 : O := fun P => tO #[.str (.ofString "value") 336]
noncomputable def b179 : O := fun P => tO #[]
noncomputable def b180 : O := fun P => fo (.none) (.ofString "check_value_or_none") 14 0 .none .none
noncomputable def b181 : O := fun P => cO #[.str (.ofString "check_value_or_none") 333, .str (.ofString "check_value_or_none") 334, .str (.ofString "/claim/cut.py") 335, .int 37 0, .int 1 0, .int 0 0, .int 0 0, .int 3 0, .ref 123, .bool true, .int 181 0, .ref 124, .none, .ref 125, .ref 126, .ref 127, .int 337 0, .int 37 0, .str (.ofString "/claim/cut.py") 338]
noncomputable def b182 : O := fun P => fo (.type "function") (.ofString "check_value_or_none") 14 3 (.str (.ofString "topslip.checks") 287) (.ref 128)
noncomputable def b183 : O := fun P => tO #[]
noncomputable def b184 : O := fun P => { cls := .none, data := .fields #[] }
noncomputable def b185 : O := fun P => tO #[.str (.ofString "numbers") 343, .str (.ofString "number") 344]
noncomputable def b186 : O := fun P => tO #[]
noncomputable def b187 : O := fun P => fo (.none) (.ofString "check_numbers") 15 0 .none .none
noncomputable def b188 : O := fun P => cO #[.str (.ofString "check_numbers") 340, .str (.ofString "check_numbers") 341, .str (.ofString "/claim/cut.py") 342, .int 40 0, .int 1 0, .int 0 0, .int 0 0, .int 3 0, .ref 130, .bool true, .int 181 0, .ref 131, .none, .ref 132, .ref 133, .ref 134, .int 345 0, .int 40 0, .str (.ofString "/claim/cut.py") 346]
noncomputable def b189 : O := fun P => fo (.type "function") (.ofString "check_numbers") 15 3 (.str (.ofString "topslip.checks") 287) (.ref 135)
noncomputable def b190 : O := fun P => tO #[]
noncomputable def b191 : O := fun P => { cls := .none, data := .fields #[] }
noncomputable def b192 : O := fun P => tO #[.str (.ofString "top") 351]
noncomputable def b193 : O := fun P => tO #[]
noncomputable def b194 : O := fun P => fo (.none) (.ofString "check_top") 16 0 .none .none
noncomputable def b195 : O := fun P => cO #[.str (.ofString "check_top") 348, .str (.ofString "check_top") 349, .str (.ofString "/claim/cut.py") 350, .int 44 0, .int 1 0, .int 0 0, .int 0 0, .int 3 0, .ref 137, .bool true, .int 181 0, .ref 138, .none, .ref 139, .ref 140, .ref 141, .int 352 0, .int 44 0, .str (.ofString "/claim/cut.py") 353]
noncomputable def b196 : O := fun P => fo (.type "function") (.ofString "check_top") 16 3 (.str (.ofString "topslip.checks") 287) (.ref 142)
noncomputable def b197 : O := fun P => tO #[]
noncomputable def b198 : O := fun P => { cls := .none, data := .fields #[] }
noncomputable def b199 : O := fun P => tO #[.str (.ofString "depth") 358]
noncomputable def b200 : O := fun P => tO #[]
noncomputable def b201 : O := fun P => fo (.none) (.ofString "count_of_places") 17 0 .none .none
noncomputable def b202 : O := fun P => cO #[.str (.ofString "count_of_places") 355, .str (.ofString "count_of_places") 356, .str (.ofString "/claim/cut.py") 357, .int 47 0, .int 1 0, .int 0 0, .int 0 0, .int 3 0, .ref 144, .bool true, .int 181 0, .ref 145, .none, .ref 146, .ref 147, .ref 148, .int 359 0, .int 47 0, .str (.ofString "/claim/cut.py") 360]
noncomputable def b203 : O := fun P => fo (.type "function") (.ofString "count_of_places") 17 3 (.str (.ofString "topslip.checks") 287) (.ref 149)
noncomputable def b204 : O := fun P => tO #[]
noncomputable def b205 : O := fun P => { cls := .none, data := .fields #[] }
noncomputable def b206 : O := fun P => tO #[.str (.ofString "one") 367, .str (.ofString "two") 368, .str (.ofString "total") 369]
noncomputable def b207 : O := fun P => tO #[]
noncomputable def b208 : O := fun P => fo (.none) (.ofString "pair_of") 19 0 .none .none
noncomputable def b209 : O := fun P => cO #[.str (.ofString "pair_of") 364, .str (.ofString "pair_of") 365, .str (.ofString "/claim/cut.py") 366, .int 50 0, .int 2 0, .int 0 0, .int 0 0, .int 3 0, .ref 151, .bool true, .int 181 0, .ref 152, .none, .ref 153, .ref 154, .ref 155, .int 370 0, .int 50 0, .str (.ofString "/claim/cut.py") 371]
noncomputable def b210 : O := fun P => fo (.type "function") (.ofString "pair_of") 19 3 (.str (.ofString "topslip.pairing") 362) (.ref 156)
noncomputable def b211 : O := fun P => tO #[]
noncomputable def b212 : O := fun P => { cls := .none, data := .fields #[] }
noncomputable def b213 : O := fun P => tO #[.str (.ofString "number") 376, .str (.ofString "total") 377, .str (.ofString "two") 378]
noncomputable def b214 : O := fun P => tO #[]
noncomputable def b215 : O := fun P => fo (.none) (.ofString "parts_of") 20 0 .none .none
noncomputable def b216 : O := fun P => cO #[.str (.ofString "parts_of") 373, .str (.ofString "parts_of") 374, .str (.ofString "/claim/cut.py") 375, .int 55 0, .int 1 0, .int 0 0, .int 0 0, .int 3 0, .ref 158, .bool true, .int 181 0, .ref 159, .none, .ref 160, .ref 161, .ref 162, .int 379 0, .int 55 0, .str (.ofString "/claim/cut.py") 380]
noncomputable def b217 : O := fun P => fo (.type "function") (.ofString "parts_of") 20 3 (.str (.ofString "topslip.pairing") 362) (.ref 163)
noncomputable def b218 : O := fun P => tO #[]
noncomputable def b219 : O := fun P => { cls := .none, data := .fields #[] }
noncomputable def b220 : O := fun P => tO #[.str (.ofString "total") 385]
noncomputable def b221 : O := fun P => tO #[]
noncomputable def b222 : O := fun P => fo (.none) (.ofString "pairs_below") 21 0 .none .none
noncomputable def b223 : O := fun P => cO #[.str (.ofString "pairs_below") 382, .str (.ofString "pairs_below") 383, .str (.ofString "/claim/cut.py") 384, .int 61 0, .int 1 0, .int 0 0, .int 0 0, .int 3 0, .ref 165, .bool true, .int 181 0, .ref 166, .none, .ref 167, .ref 168, .ref 169, .int 386 0, .int 61 0, .str (.ofString "/claim/cut.py") 387]
noncomputable def b224 : O := fun P => fo (.type "function") (.ofString "pairs_below") 21 3 (.str (.ofString "topslip.pairing") 362) (.ref 170)
noncomputable def b225 : O := fun P => tO #[]
noncomputable def b226 : O := fun P => { cls := .none, data := .fields #[] }
noncomputable def b227 : O := fun P => tO #[.str (.ofString "number") 392, .str (.ofString "cut") 393, .str (.ofString "near") 394, .str (.ofString "nearer") 395]
noncomputable def b228 : O := fun P => tO #[]
noncomputable def b229 : O := fun P => fo (.none) (.ofString "root_of") 22 0 .none .none
noncomputable def b230 : O := fun P => cO #[.str (.ofString "root_of") 389, .str (.ofString "root_of") 390, .str (.ofString "/claim/cut.py") 391, .int 63 0, .int 1 0, .int 0 0, .int 0 0, .int 3 0, .ref 172, .bool true, .int 181 0, .ref 173, .none, .ref 174, .ref 175, .ref 176, .int 396 0, .int 63 0, .str (.ofString "/claim/cut.py") 397]
noncomputable def b231 : O := fun P => fo (.type "function") (.ofString "root_of") 22 3 (.str (.ofString "topslip.pairing") 362) (.ref 177)
noncomputable def b232 : O := fun P => tO #[]
noncomputable def b233 : O := fun P => { cls := .none, data := .fields #[] }
noncomputable def b234 : O := fun P => tO #[.str (.ofString "number") 402, .str (.ofString "root") 403]
noncomputable def b235 : O := fun P => tO #[]
noncomputable def b236 : O := fun P => fo (.none) (.ofString "small_root_of") 23 0 .none .none
noncomputable def b237 : O := fun P => cO #[.str (.ofString "small_root_of") 399, .str (.ofString "small_root_of") 400, .str (.ofString "/claim/cut.py") 401, .int 73 0, .int 1 0, .int 0 0, .int 0 0, .int 3 0, .ref 179, .bool true, .int 181 0, .ref 180, .none, .ref 181, .ref 182, .ref 183, .int 404 0, .int 73 0, .str (.ofString "/claim/cut.py") 405]
noncomputable def b238 : O := fun P => fo (.type "function") (.ofString "small_root_of") 23 3 (.str (.ofString "topslip.pairing") 362) (.ref 184)
noncomputable def b239 : O := fun P => tO #[]
noncomputable def b240 : O := fun P => { cls := .none, data := .fields #[] }
noncomputable def b241 : O := fun P => tO #[.str (.ofString "depth") 412, .str (.ofString "rows") 413, .str (.ofString "numbers") 414]
noncomputable def b242 : O := fun P => tO #[]
noncomputable def b243 : O := fun P => fo (.none) (.ofString "top_of") 25 0 .none .none
noncomputable def b244 : O := fun P => cO #[.str (.ofString "top_of") 409, .str (.ofString "top_of") 410, .str (.ofString "/claim/cut.py") 411, .int 79 0, .int 2 0, .int 0 0, .int 0 0, .int 3 0, .ref 186, .bool true, .int 181 0, .ref 187, .none, .ref 188, .ref 189, .ref 190, .int 415 0, .int 79 0, .str (.ofString "/claim/cut.py") 416]
noncomputable def b245 : O := fun P => fo (.type "function") (.ofString "top_of") 25 3 (.str (.ofString "topslip.tops") 407) (.ref 191)
noncomputable def b246 : O := fun P => tO #[]
noncomputable def b247 : O := fun P => { cls := .none, data := .fields #[] }
noncomputable def b248 : O := fun P => fo (.none) (.ofString "rows_of") 26 0 .none .none
noncomputable def b249 : O := fun P => cO #[.str (.ofString "rows_of") 418, .str (.ofString "rows_of") 419, .str (.ofString "/claim/cut.py") 420, .int 86 0, .int 2 0, .int 0 0, .int 0 0, .int 3 0, .ref 193, .bool true, .int 181 0, .ref 194, .none, .none, .none, .ref 195, .int 421 0, .int 86 0, .str (.ofString "/claim/cut.py") 422]
noncomputable def b250 : O := fun P => fo (.type "function") (.ofString "rows_of") 26 3 (.str (.ofString "topslip.tops") 407) (.ref 196)
noncomputable def b251 : O := fun P => tO #[]
noncomputable def b252 : O := fun P => { cls := .none, data := .fields #[] }
noncomputable def b253 : O := fun P => tO #[.str (.ofString "depth") 427, .str (.ofString "rows") 428, .str (.ofString "numbers") 429, .str (.ofString "row") 430]
noncomputable def b254 : O := fun P => tO #[]
noncomputable def b255 : O := fun P => fo (.none) (.ofString "place_numbers") 27 0 .none .none
noncomputable def b256 : O := fun P => cO #[.str (.ofString "place_numbers") 424, .str (.ofString "place_numbers") 425, .str (.ofString "/claim/cut.py") 426, .int 93 0, .int 2 0, .int 0 0, .int 0 0, .int 3 0, .ref 198, .bool true, .int 181 0, .ref 199, .none, .ref 200, .ref 201, .ref 202, .int 431 0, .int 93 0, .str (.ofString "/claim/cut.py") 432]
noncomputable def b257 : O := fun P => fo (.type "function") (.ofString "place_numbers") 27 3 (.str (.ofString "topslip.tops") 407) (.ref 203)
noncomputable def b258 : O := fun P => { cls := .type "dict", data := .dict #[de P (.ofString "__name__") 165 (.str (.ofString "topslip.spans") 536), de P (.ofString "__doc__") 166 (.none), de P (.ofString "__package__") 167 (.none), de P (.ofString "__loader__") 168 (.builtin "__main__.__loader__#opaque"), de P (.ofString "__spec__") 169 (.none), de P (.ofString "__annotations__") 170 (.ref 6), de P (.ofString "__builtins__") 171 (.ref 4), de P (.ofString "__file__") 173 (.str (.ofString "/claim/cut.py") 172), de P (.ofString "__cached__") 174 (.none), de P (.ofString "SlipError") 206 (.ref 24), de P (.ofString "BadNumber") 222 (.ref 37), de P (.ofString "BadDepth") 238 (.ref 49), de P (.ofString "BadKey") 254 (.ref 61), de P (.ofString "BadSpan") 270 (.ref 73), de P (.ofString "NotTaken") 286 (.ref 85), de P (.ofString "GREATEST_DEPTH") 290 (.int 8 289), de P (.ofString "check_depth") 297 (.ref 94), de P (.ofString "check_rows") 306 (.ref 101), de P (.ofString "check_keys_of_rows") 317 (.ref 108), de P (.ofString "check_key") 325 (.ref 115), de P (.ofString "check_value") 332 (.ref 122), de P (.ofString "check_value_or_none") 339 (.ref 129), de P (.ofString "check_numbers") 347 (.ref 136), de P (.ofString "check_top") 354 (.ref 143), de P (.ofString "count_of_places") 361 (.ref 150), de P (.ofString "pair_of") 372 (.ref 157), de P (.ofString "parts_of") 381 (.ref 164), de P (.ofString "pairs_below") 388 (.ref 171), de P (.ofString "root_of") 398 (.ref 178), de P (.ofString "small_root_of") 406 (.ref 185), de P (.ofString "top_of") 417 (.ref 192), de P (.ofString "rows_of") 423 (.ref 197), de P (.ofString "place_numbers") 433 (.ref 204), de P (.ofString "number_by") 440 (.ref 211), de P (.ofString "value_by") 447 (.ref 218), de P (.ofString "paired") 453 (.ref 223), de P (.ofString "parted") 462 (.ref 230), de P (.ofString "slip_for") 476 (.ref 237), de P (.ofString "is_taken") 487 (.ref 244), de P (.ofString "moved_top") 500 (.ref 251), de P (.ofString "leads_to") 513 (.ref 258), de P (.ofString "leads_to_slips") 514 (.ref 258), de P (.ofString "led_up") 526 (.ref 265), de P (.ofString "pair_at") 535 (.ref 272), de P (.ofString "span_for") 543 (.ref 277)] 45 }
noncomputable def b259 : O := fun P => { cls := .none, data := .fields #[.int 2 0, .int 0 0, .ref 20, .int 4 0, .int 0 0, .ref 33, .int 6 0, .int 0 0, .ref 45, .int 8 0, .int 0 0, .ref 57, .int 10 0, .int 0 0, .ref 69, .int 12 0, .int 0 0, .ref 81, .int 16 0, .int 0 0, .ref 93, .int 19 0, .int 0 0, .ref 100, .int 23 0, .int 0 0, .ref 107, .int 31 0, .int 0 0, .ref 114, .int 34 0, .int 0 0, .ref 121, .int 37 0, .int 0 0, .ref 128, .int 40 0, .int 0 0, .ref 135, .int 44 0, .int 0 0, .ref 142, .int 47 0, .int 0 0, .ref 149, .int 50 0, .int 0 0, .ref 156, .int 55 0, .int 0 0, .ref 163, .int 61 0, .int 0 0, .ref 170, .int 63 0, .int 0 0, .ref 177, .int 73 0, .int 0 0, .ref 184, .int 79 0, .int 0 0, .ref 191, .int 86 0, .int 0 0, .ref 196, .int 93 0, .int 0 0, .ref 203, .int 98 0, .int 0 0, .ref 210, .int 100 0, .int 0 0, .ref 217, .int 102 0, .int 0 0, .ref 222, .int 104 0, .int 0 0, .ref 229, .int 110 0, .int 0 0, .ref 236, .int 122 0, .int 0 0, .ref 243, .int 128 0, .int 0 0, .ref 250, .int 134 0, .int 0 0, .ref 257, .int 144 0, .int 0 0, .ref 264, .int 151 0, .int 0 0, .ref 271, .int 156 0, .int 0 0, .ref 276] }
noncomputable def b260 : O := fun P => tO #[]
noncomputable def b261 : O := fun P => { cls := .none, data := .fields #[] }
noncomputable def b262 : O := fun P => tO #[.str (.ofString "value") 437]
noncomputable def b263 : O := fun P => tO #[]
noncomputable def b264 : O := fun P => fo (.none) (.ofString "number_by") 28 0 .none .none
noncomputable def b265 : O := fun P => cO #[.str (.ofString "number_by") 434, .str (.ofString "number_by") 435, .str (.ofString "/claim/cut.py") 436, .int 98 0, .int 1 0, .int 0 0, .int 0 0, .int 3 0, .ref 205, .bool true, .int 181 0, .ref 206, .none, .ref 207, .ref 208, .ref 209, .int 438 0, .int 98 0, .str (.ofString "/claim/cut.py") 439]
noncomputable def b266 : O := fun P => fo (.type "function") (.ofString "number_by") 28 3 (.str (.ofString "topslip.tops") 407) (.ref 210)
noncomputable def b267 : O := fun P => tO #[]
noncomputable def b268 : O := fun P => { cls := .none, data := .fields #[] }
noncomputable def b269 : O := fun P => tO #[.str (.ofString "number") 444]
noncomputable def b270 : O := fun P => tO #[]
noncomputable def b271 : O := fun P => fo (.none) (.ofString "value_by") 29 0 .none .none
noncomputable def b272 : O := fun P => cO #[.str (.ofString "value_by") 441, .str (.ofString "value_by") 442, .str (.ofString "/claim/cut.py") 443, .int 100 0, .int 1 0, .int 0 0, .int 0 0, .int 3 0, .ref 212, .bool true, .int 181 0, .ref 213, .none, .ref 214, .ref 215, .ref 216, .int 445 0, .int 100 0, .str (.ofString "/claim/cut.py") 446]
noncomputable def b273 : O := fun P => fo (.type "function") (.ofString "value_by") 29 3 (.str (.ofString "topslip.tops") 407) (.ref 217)
noncomputable def b274 : O := fun P => tO #[]
noncomputable def b275 : O := fun P => { cls := .none, data := .fields #[] }
noncomputable def b276 : O := fun P => fo (.none) (.ofString "paired") 30 0 .none .none
noncomputable def b277 : O := fun P => cO #[.str (.ofString "paired") 448, .str (.ofString "paired") 449, .str (.ofString "/claim/cut.py") 450, .int 102 0, .int 1 0, .int 0 0, .int 0 0, .int 3 0, .ref 219, .bool true, .int 181 0, .ref 220, .none, .none, .none, .ref 221, .int 451 0, .int 102 0, .str (.ofString "/claim/cut.py") 452]
noncomputable def b278 : O := fun P => fo (.type "function") (.ofString "paired") 30 3 (.str (.ofString "topslip.tops") 407) (.ref 222)
noncomputable def b279 : O := fun P => tO #[]
noncomputable def b280 : O := fun P => { cls := .none, data := .fields #[] }
noncomputable def b281 : O := fun P => tO #[.str (.ofString "numbers") 457, .str (.ofString "parts") 458, .str (.ofString "number") 459]
noncomputable def b282 : O := fun P => tO #[]
noncomputable def b283 : O := fun P => fo (.none) (.ofString "parted") 31 0 .none .none
noncomputable def b284 : O := fun P => cO #[.str (.ofString "parted") 454, .str (.ofString "parted") 455, .str (.ofString "/claim/cut.py") 456, .int 104 0, .int 1 0, .int 0 0, .int 0 0, .int 3 0, .ref 224, .bool true, .int 181 0, .ref 225, .none, .ref 226, .ref 227, .ref 228, .int 460 0, .int 104 0, .str (.ofString "/claim/cut.py") 461]
noncomputable def b285 : O := fun P => fo (.type "function") (.ofString "parted") 31 3 (.str (.ofString "topslip.tops") 407) (.ref 229)
noncomputable def b286 : O := fun P => tO #[]
noncomputable def b287 : O := fun P => { cls := .none, data := .fields #[] }
noncomputable def b288 : O := fun P => tO #[.str (.ofString "depth") 468, .str (.ofString "rows") 469, .str (.ofString "key") 470, .str (.ofString "slip") 471, .str (.ofString "place") 472, .str (.ofString "numbers") 473]
noncomputable def b289 : O := fun P => tO #[]
noncomputable def b290 : O := fun P => fo (.none) (.ofString "slip_for") 33 0 .none .none
noncomputable def b291 : O := fun P => cO #[.str (.ofString "slip_for") 465, .str (.ofString "slip_for") 466, .str (.ofString "/claim/cut.py") 467, .int 110 0, .int 3 0, .int 0 0, .int 0 0, .int 3 0, .ref 231, .bool true, .int 181 0, .ref 232, .none, .ref 233, .ref 234, .ref 235, .int 474 0, .int 110 0, .str (.ofString "/claim/cut.py") 475]
noncomputable def b292 : O := fun P => fo (.type "function") (.ofString "slip_for") 33 3 (.str (.ofString "topslip.slips") 463) (.ref 236)
noncomputable def b293 : O := fun P => tO #[]
noncomputable def b294 : O := fun P => { cls := .none, data := .fields #[] }
noncomputable def b295 : O := fun P => tO #[.str (.ofString "depth") 480, .str (.ofString "top") 481, .str (.ofString "key") 482, .str (.ofString "value") 483, .str (.ofString "slip") 484]
noncomputable def b296 : O := fun P => tO #[]
noncomputable def b297 : O := fun P => fo (.none) (.ofString "is_taken") 34 0 .none .none
noncomputable def b298 : O := fun P => cO #[.str (.ofString "is_taken") 477, .str (.ofString "is_taken") 478, .str (.ofString "/claim/cut.py") 479, .int 122 0, .int 5 0, .int 0 0, .int 0 0, .int 3 0, .ref 238, .bool true, .int 181 0, .ref 239, .none, .ref 240, .ref 241, .ref 242, .int 485 0, .int 122 0, .str (.ofString "/claim/cut.py") 486]
noncomputable def b299 : O := fun P => fo (.type "function") (.ofString "is_taken") 34 3 (.str (.ofString "topslip.slips") 463) (.ref 243)
noncomputable def b300 : O := fun P => tO #[]
noncomputable def b301 : O := fun P => { cls := .none, data := .fields #[] }
noncomputable def b302 : O := fun P => tO #[.str (.ofString "depth") 491, .str (.ofString "top") 492, .str (.ofString "key") 493, .str (.ofString "slip") 494, .str (.ofString "old") 495, .str (.ofString "new") 496, .str (.ofString "taken") 497]
noncomputable def b303 : O := fun P => tO #[]
noncomputable def b304 : O := fun P => fo (.none) (.ofString "moved_top") 35 0 .none .none
noncomputable def b305 : O := fun P => cO #[.str (.ofString "moved_top") 488, .str (.ofString "moved_top") 489, .str (.ofString "/claim/cut.py") 490, .int 128 0, .int 6 0, .int 0 0, .int 0 0, .int 3 0, .ref 245, .bool true, .int 181 0, .ref 246, .none, .ref 247, .ref 248, .ref 249, .int 498 0, .int 128 0, .str (.ofString "/claim/cut.py") 499]
noncomputable def b306 : O := fun P => fo (.type "function") (.ofString "moved_top") 35 3 (.str (.ofString "topslip.slips") 463) (.ref 250)
noncomputable def b307 : O := fun P => tO #[]
noncomputable def b308 : O := fun P => { cls := .none, data := .fields #[] }
noncomputable def b309 : O := fun P => tO #[.str (.ofString "top") 504, .str (.ofString "key") 505, .str (.ofString "value") 506, .str (.ofString "slip") 507, .str (.ofString "number") 508, .str (.ofString "place") 509, .str (.ofString "beside") 510]
noncomputable def b310 : O := fun P => tO #[]
noncomputable def b311 : O := fun P => fo (.none) (.ofString "leads_to") 36 0 .none .none
noncomputable def b312 : O := fun P => cO #[.str (.ofString "leads_to") 501, .str (.ofString "leads_to") 502, .str (.ofString "/claim/cut.py") 503, .int 134 0, .int 4 0, .int 0 0, .int 0 0, .int 3 0, .ref 252, .bool true, .int 181 0, .ref 253, .none, .ref 254, .ref 255, .ref 256, .int 511 0, .int 134 0, .str (.ofString "/claim/cut.py") 512]
noncomputable def b313 : O := fun P => fo (.type "function") (.ofString "leads_to") 36 3 (.str (.ofString "topslip.slips") 463) (.ref 257)
noncomputable def b314 : O := fun P => tO #[]
noncomputable def b315 : O := fun P => { cls := .none, data := .fields #[] }
noncomputable def b316 : O := fun P => tO #[.str (.ofString "key") 518, .str (.ofString "value") 519, .str (.ofString "slip") 520, .str (.ofString "number") 521, .str (.ofString "place") 522, .str (.ofString "beside") 523]
noncomputable def b317 : O := fun P => tO #[]
noncomputable def b318 : O := fun P => fo (.none) (.ofString "led_up") 38 0 .none .none
noncomputable def b319 : O := fun P => cO #[.str (.ofString "led_up") 515, .str (.ofString "led_up") 516, .str (.ofString "/claim/cut.py") 517, .int 144 0, .int 3 0, .int 0 0, .int 0 0, .int 3 0, .ref 259, .bool true, .int 181 0, .ref 260, .none, .ref 261, .ref 262, .ref 263, .int 524 0, .int 144 0, .str (.ofString "/claim/cut.py") 525]
noncomputable def b320 : O := fun P => fo (.type "function") (.ofString "led_up") 38 3 (.str (.ofString "topslip.slips") 463) (.ref 264)
noncomputable def b321 : O := fun P => tO #[]
noncomputable def b322 : O := fun P => { cls := .none, data := .fields #[] }
noncomputable def b323 : O := fun P => tO #[.str (.ofString "place") 530, .str (.ofString "number") 531, .str (.ofString "beside") 532]
noncomputable def b324 : O := fun P => tO #[]
noncomputable def b325 : O := fun P => fo (.none) (.ofString "pair_at") 39 0 .none .none
noncomputable def b326 : O := fun P => cO #[.str (.ofString "pair_at") 527, .str (.ofString "pair_at") 528, .str (.ofString "/claim/cut.py") 529, .int 151 0, .int 3 0, .int 0 0, .int 0 0, .int 3 0, .ref 266, .bool true, .int 181 0, .ref 267, .none, .ref 268, .ref 269, .ref 270, .int 533 0, .int 151 0, .str (.ofString "/claim/cut.py") 534]
noncomputable def b327 : O := fun P => fo (.type "function") (.ofString "pair_at") 39 3 (.str (.ofString "topslip.slips") 463) (.ref 271)
noncomputable def b328 : O := fun P => tO #[]
noncomputable def b329 : O := fun P => { cls := .none, data := .fields #[] }
noncomputable def b330 : O := fun P => fo (.none) (.ofString "span_for") 41 0 .none .none
noncomputable def b331 : O := fun P => cO #[.str (.ofString "span_for") 538, .str (.ofString "span_for") 539, .str (.ofString "/claim/cut.py") 540, .int 156 0, .int 4 0, .int 0 0, .int 0 0, .int 3 0, .ref 273, .bool true, .int 181 0, .ref 274, .none, .none, .none, .ref 275, .int 541 0, .int 156 0, .str (.ofString "/claim/cut.py") 542]
noncomputable def b332 : O := fun P => fo (.type "function") (.ofString "span_for") 41 3 (.str (.ofString "topslip.spans") 536) (.ref 276)
noncomputable def b333 : O := fun P => { cls := .type "dict", data := .dict #[de P (.ofString "__name__") 165 (.str (.ofString "law_topslip_k08_refused") 644), de P (.ofString "__doc__") 166 (.none), de P (.ofString "__package__") 167 (.none), de P (.ofString "__loader__") 168 (.builtin "__main__.__loader__#opaque"), de P (.ofString "__spec__") 169 (.none), de P (.ofString "__annotations__") 170 (.ref 6), de P (.ofString "__builtins__") 171 (.ref 4), de P (.ofString "__file__") 173 (.str (.ofString "/claim/cut.py") 172), de P (.ofString "__cached__") 174 (.none), de P (.ofString "SlipError") 206 (.ref 24), de P (.ofString "BadNumber") 222 (.ref 37), de P (.ofString "BadDepth") 238 (.ref 49), de P (.ofString "BadKey") 254 (.ref 61), de P (.ofString "BadSpan") 270 (.ref 73), de P (.ofString "NotTaken") 286 (.ref 85), de P (.ofString "GREATEST_DEPTH") 290 (.int 8 289), de P (.ofString "check_depth") 297 (.ref 94), de P (.ofString "check_rows") 306 (.ref 101), de P (.ofString "check_keys_of_rows") 317 (.ref 108), de P (.ofString "check_key") 325 (.ref 115), de P (.ofString "check_value") 332 (.ref 122), de P (.ofString "check_value_or_none") 339 (.ref 129), de P (.ofString "check_numbers") 347 (.ref 136), de P (.ofString "check_top") 354 (.ref 143), de P (.ofString "count_of_places") 361 (.ref 150), de P (.ofString "pair_of") 372 (.ref 157), de P (.ofString "parts_of") 381 (.ref 164), de P (.ofString "pairs_below") 388 (.ref 171), de P (.ofString "root_of") 398 (.ref 178), de P (.ofString "small_root_of") 406 (.ref 185), de P (.ofString "top_of") 417 (.ref 192), de P (.ofString "rows_of") 423 (.ref 197), de P (.ofString "place_numbers") 433 (.ref 204), de P (.ofString "number_by") 440 (.ref 211), de P (.ofString "value_by") 447 (.ref 218), de P (.ofString "paired") 453 (.ref 223), de P (.ofString "parted") 462 (.ref 230), de P (.ofString "slip_for") 476 (.ref 237), de P (.ofString "is_taken") 487 (.ref 244), de P (.ofString "moved_top") 500 (.ref 251), de P (.ofString "leads_to") 513 (.ref 319), de P (.ofString "leads_to_slips") 514 (.ref 258), de P (.ofString "led_up") 526 (.ref 265), de P (.ofString "pair_at") 535 (.ref 272), de P (.ofString "span_for") 543 (.ref 277), de P (.ofString "is_span") 557 (.ref 284), de P (.ofString "check_span") 566 (.ref 291), de P (.ofString "all_within") 576 (.ref 298), de P (.ofString "levels_of") 585 (.ref 305), de P (.ofString "parts_outside") 599 (.ref 312), de P (.ofString "leads_to_spans") 616 (.ref 319), de P (.ofString "differing") 624 (.ref 324), de P (.ofString "halves_of") 637 (.ref 331), de P (.ofString "only_unlike") 643 (.ref 336), de P (.ofString "_law_at") 653 (.ref 343), de P (.ofString "_law_first_ways") 665 (.ref 350)] 56 }
noncomputable def b334 : O := fun P => { cls := .none, data := .fields #[.int 2 0, .int 0 0, .ref 20, .int 4 0, .int 0 0, .ref 33, .int 6 0, .int 0 0, .ref 45, .int 8 0, .int 0 0, .ref 57, .int 10 0, .int 0 0, .ref 69, .int 12 0, .int 0 0, .ref 81, .int 16 0, .int 0 0, .ref 93, .int 19 0, .int 0 0, .ref 100, .int 23 0, .int 0 0, .ref 107, .int 31 0, .int 0 0, .ref 114, .int 34 0, .int 0 0, .ref 121, .int 37 0, .int 0 0, .ref 128, .int 40 0, .int 0 0, .ref 135, .int 44 0, .int 0 0, .ref 142, .int 47 0, .int 0 0, .ref 149, .int 50 0, .int 0 0, .ref 156, .int 55 0, .int 0 0, .ref 163, .int 61 0, .int 0 0, .ref 170, .int 63 0, .int 0 0, .ref 177, .int 73 0, .int 0 0, .ref 184, .int 79 0, .int 0 0, .ref 191, .int 86 0, .int 0 0, .ref 196, .int 93 0, .int 0 0, .ref 203, .int 98 0, .int 0 0, .ref 210, .int 100 0, .int 0 0, .ref 217, .int 102 0, .int 0 0, .ref 222, .int 104 0, .int 0 0, .ref 229, .int 110 0, .int 0 0, .ref 236, .int 122 0, .int 0 0, .ref 243, .int 128 0, .int 0 0, .ref 250, .int 134 0, .int 0 0, .ref 257, .int 144 0, .int 0 0, .ref 264, .int 151 0, .int 0 0, .ref 271, .int 156 0, .int 0 0, .ref 276, .int 162 0, .int 0 0, .ref 283, .int 172 0, .int 0 0, .ref 290, .int 177 0, .int 0 0, .ref 297, .int 182 0, .int 0 0, .ref 304, .int 187 0, .int 0 0, .ref 311, .int 200 0, .int 0 0, .ref 318, .int 217 0, .int 0 0, .ref 323, .int 227 0, .int 0 0, .ref 330, .int 235 0, .int 0 0, .ref 335, .int 238 0, .int 0 0, .ref 342, .int 242 0, .int 0 0, .ref 349] }
noncomputable def b335 : O := fun P => tO #[]
noncomputable def b336 : O := fun P => { cls := .none, data := .fields #[] }
noncomputable def b337 : O := fun P => tO #[.str (.ofString "depth") 547, .str (.ofString "top") 548, .str (.ofString "first") 549, .str (.ofString "last") 550, .str (.ofString "rows") 551, .str (.ofString "numbers") 552, .str (.ofString "parts") 553, .str (.ofString "within") 554]
noncomputable def b338 : O := fun P => tO #[]
noncomputable def b339 : O := fun P => fo (.none) (.ofString "is_span") 42 0 .none .none
noncomputable def b340 : O := fun P => cO #[.str (.ofString "is_span") 544, .str (.ofString "is_span") 545, .str (.ofString "/claim/cut.py") 546, .int 162 0, .int 6 0, .int 0 0, .int 0 0, .int 3 0, .ref 278, .bool true, .int 181 0, .ref 279, .none, .ref 280, .ref 281, .ref 282, .int 555 0, .int 162 0, .str (.ofString "/claim/cut.py") 556]
noncomputable def b341 : O := fun P => fo (.type "function") (.ofString "is_span") 42 3 (.str (.ofString "topslip.spans") 536) (.ref 283)
noncomputable def b342 : O := fun P => tO #[]
noncomputable def b343 : O := fun P => { cls := .none, data := .fields #[] }
noncomputable def b344 : O := fun P => tO #[.str (.ofString "depth") 561, .str (.ofString "first") 562, .str (.ofString "last") 563]
noncomputable def b345 : O := fun P => tO #[]
noncomputable def b346 : O := fun P => fo (.none) (.ofString "check_span") 43 0 .none .none
noncomputable def b347 : O := fun P => cO #[.str (.ofString "check_span") 558, .str (.ofString "check_span") 559, .str (.ofString "/claim/cut.py") 560, .int 172 0, .int 3 0, .int 0 0, .int 0 0, .int 3 0, .ref 285, .bool true, .int 181 0, .ref 286, .none, .ref 287, .ref 288, .ref 289, .int 564 0, .int 172 0, .str (.ofString "/claim/cut.py") 565]
noncomputable def b348 : O := fun P => fo (.type "function") (.ofString "check_span") 43 3 (.str (.ofString "topslip.spans") 536) (.ref 290)
noncomputable def b349 : O := fun P => tO #[]
noncomputable def b350 : O := fun P => { cls := .none, data := .fields #[] }
noncomputable def b351 : O := fun P => tO #[.str (.ofString "rows") 570, .str (.ofString "first") 571, .str (.ofString "last") 572, .str (.ofString "row") 573]
noncomputable def b352 : O := fun P => tO #[]
noncomputable def b353 : O := fun P => fo (.none) (.ofString "all_within") 44 0 .none .none
noncomputable def b354 : O := fun P => cO #[.str (.ofString "all_within") 567, .str (.ofString "all_within") 568, .str (.ofString "/claim/cut.py") 569, .int 177 0, .int 3 0, .int 0 0, .int 0 0, .int 3 0, .ref 292, .bool true, .int 181 0, .ref 293, .none, .ref 294, .ref 295, .ref 296, .int 574 0, .int 177 0, .str (.ofString "/claim/cut.py") 575]
noncomputable def b355 : O := fun P => fo (.type "function") (.ofString "all_within") 44 3 (.str (.ofString "topslip.spans") 536) (.ref 297)
noncomputable def b356 : O := fun P => tO #[]
noncomputable def b357 : O := fun P => { cls := .none, data := .fields #[] }
noncomputable def b358 : O := fun P => tO #[.str (.ofString "depth") 580, .str (.ofString "rows") 581, .str (.ofString "levels") 582]
noncomputable def b359 : O := fun P => tO #[]
noncomputable def b360 : O := fun P => fo (.none) (.ofString "levels_of") 45 0 .none .none
noncomputable def b361 : O := fun P => cO #[.str (.ofString "levels_of") 577, .str (.ofString "levels_of") 578, .str (.ofString "/claim/cut.py") 579, .int 182 0, .int 2 0, .int 0 0, .int 0 0, .int 3 0, .ref 299, .bool true, .int 181 0, .ref 300, .none, .ref 301, .ref 302, .ref 303, .int 583 0, .int 182 0, .str (.ofString "/claim/cut.py") 584]
noncomputable def b362 : O := fun P => fo (.type "function") (.ofString "levels_of") 45 3 (.str (.ofString "topslip.spans") 536) (.ref 304)
noncomputable def b363 : O := fun P => tO #[]
noncomputable def b364 : O := fun P => { cls := .none, data := .fields #[] }
noncomputable def b365 : O := fun P => tO #[.str (.ofString "depth") 589, .str (.ofString "first") 590, .str (.ofString "last") 591, .str (.ofString "before") 592, .str (.ofString "behind") 593, .str (.ofString "low") 594, .str (.ofString "high") 595, .str (.ofString "level") 596]
noncomputable def b366 : O := fun P => tO #[]
noncomputable def b367 : O := fun P => fo (.none) (.ofString "parts_outside") 46 0 .none .none
noncomputable def b368 : O := fun P => cO #[.str (.ofString "parts_outside") 586, .str (.ofString "parts_outside") 587, .str (.ofString "/claim/cut.py") 588, .int 187 0, .int 3 0, .int 0 0, .int 0 0, .int 3 0, .ref 306, .bool true, .int 181 0, .ref 307, .none, .ref 308, .ref 309, .ref 310, .int 597 0, .int 187 0, .str (.ofString "/claim/cut.py") 598]
noncomputable def b369 : O := fun P => fo (.type "function") (.ofString "parts_outside") 46 3 (.str (.ofString "topslip.spans") 536) (.ref 311)
noncomputable def b370 : O := fun P => tO #[]
noncomputable def b371 : O := fun P => { cls := .none, data := .fields #[] }
noncomputable def b372 : O := fun P => tO #[.str (.ofString "depth") 603, .str (.ofString "top") 604, .str (.ofString "first") 605, .str (.ofString "last") 606, .str (.ofString "within") 607, .str (.ofString "outside") 608, .str (.ofString "numbers") 609, .str (.ofString "low") 610, .str (.ofString "high") 611, .str (.ofString "level") 612]
noncomputable def b373 : O := fun P => tO #[]
noncomputable def b374 : O := fun P => fo (.none) (.ofString "leads_to") 47 0 .none .none
noncomputable def b375 : O := fun P => cO #[.str (.ofString "leads_to") 600, .str (.ofString "leads_to") 601, .str (.ofString "/claim/cut.py") 602, .int 200 0, .int 6 0, .int 0 0, .int 0 0, .int 3 0, .ref 313, .bool true, .int 181 0, .ref 314, .none, .ref 315, .ref 316, .ref 317, .int 613 0, .int 200 0, .str (.ofString "/claim/cut.py") 614]
noncomputable def b376 : O := fun P => fo (.type "function") (.ofString "leads_to") 47 3 (.str (.ofString "topslip.spans") 536) (.ref 318)
noncomputable def b377 : O := fun P => tO #[]
noncomputable def b378 : O := fun P => { cls := .none, data := .fields #[] }
noncomputable def b379 : O := fun P => fo (.none) (.ofString "differing") 50 0 .none .none
noncomputable def b380 : O := fun P => cO #[.str (.ofString "differing") 619, .str (.ofString "differing") 620, .str (.ofString "/claim/cut.py") 621, .int 217 0, .int 3 0, .int 0 0, .int 0 0, .int 3 0, .ref 320, .bool true, .int 181 0, .ref 321, .none, .none, .none, .ref 322, .int 622 0, .int 217 0, .str (.ofString "/claim/cut.py") 623]
noncomputable def b381 : O := fun P => fo (.type "function") (.ofString "differing") 50 3 (.str (.ofString "topslip.differing") 617) (.ref 323)
noncomputable def b382 : O := fun P => tO #[]
noncomputable def b383 : O := fun P => { cls := .none, data := .fields #[] }
noncomputable def b384 : O := fun P => tO #[.str (.ofString "parts") 628, .str (.ofString "halves") 629, .str (.ofString "place") 630, .str (.ofString "first") 631, .str (.ofString "second") 632, .str (.ofString "in_first") 633, .str (.ofString "in_second") 634]
noncomputable def b385 : O := fun P => tO #[]
noncomputable def b386 : O := fun P => fo (.none) (.ofString "halves_of") 51 0 .none .none
noncomputable def b387 : O := fun P => cO #[.str (.ofString "halves_of") 625, .str (.ofString "halves_of") 626, .str (.ofString "/claim/cut.py") 627, .int 227 0, .int 1 0, .int 0 0, .int 0 0, .int 3 0, .ref 325, .bool true, .int 181 0, .ref 326, .none, .ref 327, .ref 328, .ref 329, .int 635 0, .int 227 0, .str (.ofString "/claim/cut.py") 636]
noncomputable def b388 : O := fun P => fo (.type "function") (.ofString "halves_of") 51 3 (.str (.ofString "topslip.differing") 617) (.ref 330)
noncomputable def b389 : O := fun P => tO #[]
noncomputable def b390 : O := fun P => { cls := .none, data := .fields #[] }
noncomputable def b391 : O := fun P => fo (.none) (.ofString "only_unlike") 52 0 .none .none
noncomputable def b392 : O := fun P => cO #[.str (.ofString "only_unlike") 638, .str (.ofString "only_unlike") 639, .str (.ofString "/claim/cut.py") 640, .int 235 0, .int 1 0, .int 0 0, .int 0 0, .int 3 0, .ref 332, .bool true, .int 181 0, .ref 333, .none, .none, .none, .ref 334, .int 641 0, .int 235 0, .str (.ofString "/claim/cut.py") 642]
noncomputable def b393 : O := fun P => fo (.type "function") (.ofString "only_unlike") 52 3 (.str (.ofString "topslip.differing") 617) (.ref 335)
noncomputable def b394 : O := fun P => tO #[]
noncomputable def b395 : O := fun P => { cls := .none, data := .fields #[] }
noncomputable def b396 : O := fun P => tO #[.str (.ofString "_law_script") 649, .str (.ofString "_law_k") 650]
noncomputable def b397 : O := fun P => tO #[]
noncomputable def b398 : O := fun P => fo (.none) (.ofString "_law_at") 54 0 .none .none
noncomputable def b399 : O := fun P => cO #[.str (.ofString "_law_at") 646, .str (.ofString "_law_at") 647, .str (.ofString "/claim/cut.py") 648, .int 238 0, .int 2 0, .int 0 0, .int 0 0, .int 3 0, .ref 337, .bool true, .int 181 0, .ref 338, .none, .ref 339, .ref 340, .ref 341, .int 651 0, .int 238 0, .str (.ofString "/claim/cut.py") 652]
noncomputable def b400 : O := fun P => fo (.type "function") (.ofString "_law_at") 54 3 (.str (.ofString "law_topslip_k08_refused") 644) (.ref 342)
noncomputable def b401 : O := fun P => tO #[]
noncomputable def b402 : O := fun P => { cls := .none, data := .fields #[] }
noncomputable def b403 : O := fun P => tO #[.str (.ofString "_law_which") 657, .str (.ofString "_law_depth") 658, .str (.ofString "_law_rows") 659, .str (.ofString "_law_key") 660, .str (.ofString "_law_value") 661, .str (.ofString "_law_slip") 662]
noncomputable def b404 : O := fun P => tO #[]
noncomputable def b405 : O := fun P => fo (.none) (.ofString "_law_first_ways") 55 0 .none .none
noncomputable def b406 : O := fun P => cO #[.str (.ofString "_law_first_ways") 654, .str (.ofString "_law_first_ways") 655, .str (.ofString "/claim/cut.py") 656, .int 242 0, .int 6 0, .int 0 0, .int 0 0, .int 3 0, .ref 344, .bool true, .int 181 0, .ref 345, .none, .ref 346, .ref 347, .ref 348, .int 663 0, .int 242 0, .str (.ofString "/claim/cut.py") 664]
noncomputable def b407 : O := fun P => fo (.type "function") (.ofString "_law_first_ways") 55 3 (.str (.ofString "law_topslip_k08_refused") 644) (.ref 349)
noncomputable def b408 : O := fun P => { cls := .type "dict", data := .dict #[de P (.ofString "__name__") 165 (.str (.ofString "law_topslip_k08_refused") 644), de P (.ofString "__doc__") 166 (.none), de P (.ofString "__package__") 167 (.none), de P (.ofString "__loader__") 168 (.builtin "__main__.__loader__#opaque"), de P (.ofString "__spec__") 169 (.none), de P (.ofString "__annotations__") 170 (.ref 6), de P (.ofString "__builtins__") 171 (.ref 4), de P (.ofString "__file__") 173 (.str (.ofString "/claim/cut.py") 172), de P (.ofString "__cached__") 174 (.none), de P (.ofString "SlipError") 206 (.ref 24), de P (.ofString "BadNumber") 222 (.ref 37), de P (.ofString "BadDepth") 238 (.ref 49), de P (.ofString "BadKey") 254 (.ref 61), de P (.ofString "BadSpan") 270 (.ref 73), de P (.ofString "NotTaken") 286 (.ref 85), de P (.ofString "GREATEST_DEPTH") 290 (.int 8 289), de P (.ofString "check_depth") 297 (.ref 94), de P (.ofString "check_rows") 306 (.ref 101), de P (.ofString "check_keys_of_rows") 317 (.ref 108), de P (.ofString "check_key") 325 (.ref 115), de P (.ofString "check_value") 332 (.ref 122), de P (.ofString "check_value_or_none") 339 (.ref 129), de P (.ofString "check_numbers") 347 (.ref 136), de P (.ofString "check_top") 354 (.ref 143), de P (.ofString "count_of_places") 361 (.ref 150), de P (.ofString "pair_of") 372 (.ref 157), de P (.ofString "parts_of") 381 (.ref 164), de P (.ofString "pairs_below") 388 (.ref 171), de P (.ofString "root_of") 398 (.ref 178), de P (.ofString "small_root_of") 406 (.ref 185), de P (.ofString "top_of") 417 (.ref 192), de P (.ofString "rows_of") 423 (.ref 197), de P (.ofString "place_numbers") 433 (.ref 204), de P (.ofString "number_by") 440 (.ref 211), de P (.ofString "value_by") 447 (.ref 218), de P (.ofString "paired") 453 (.ref 223), de P (.ofString "parted") 462 (.ref 230), de P (.ofString "slip_for") 476 (.ref 237), de P (.ofString "is_taken") 487 (.ref 244), de P (.ofString "moved_top") 500 (.ref 251), de P (.ofString "leads_to") 513 (.ref 319), de P (.ofString "leads_to_slips") 514 (.ref 258), de P (.ofString "led_up") 526 (.ref 265), de P (.ofString "pair_at") 535 (.ref 272), de P (.ofString "span_for") 543 (.ref 277), de P (.ofString "is_span") 557 (.ref 284), de P (.ofString "check_span") 566 (.ref 291), de P (.ofString "all_within") 576 (.ref 298), de P (.ofString "levels_of") 585 (.ref 305), de P (.ofString "parts_outside") 599 (.ref 312), de P (.ofString "leads_to_spans") 616 (.ref 319), de P (.ofString "differing") 624 (.ref 324), de P (.ofString "halves_of") 637 (.ref 331), de P (.ofString "only_unlike") 643 (.ref 336), de P (.ofString "_law_at") 653 (.ref 343), de P (.ofString "_law_first_ways") 665 (.ref 350), de P (.ofString "_law_other_ways") 677 (.ref 357), de P (.ofString "_law_said") 690 (.ref 364), de P (.ofString "_law_word_due") 696 (.ref 369), de P (.ofString "_law_refuses") 710 (.ref 376), de P (.ofString "_law_as_due") 723 (.ref 383), de P (.ofString "law") 742 (.ref 390)] 62 }
noncomputable def b409 : O := fun P => { cls := .none, data := .fields #[.int 2 0, .int 0 0, .ref 20, .int 4 0, .int 0 0, .ref 33, .int 6 0, .int 0 0, .ref 45, .int 8 0, .int 0 0, .ref 57, .int 10 0, .int 0 0, .ref 69, .int 12 0, .int 0 0, .ref 81, .int 16 0, .int 0 0, .ref 93, .int 19 0, .int 0 0, .ref 100, .int 23 0, .int 0 0, .ref 107, .int 31 0, .int 0 0, .ref 114, .int 34 0, .int 0 0, .ref 121, .int 37 0, .int 0 0, .ref 128, .int 40 0, .int 0 0, .ref 135, .int 44 0, .int 0 0, .ref 142, .int 47 0, .int 0 0, .ref 149, .int 50 0, .int 0 0, .ref 156, .int 55 0, .int 0 0, .ref 163, .int 61 0, .int 0 0, .ref 170, .int 63 0, .int 0 0, .ref 177, .int 73 0, .int 0 0, .ref 184, .int 79 0, .int 0 0, .ref 191, .int 86 0, .int 0 0, .ref 196, .int 93 0, .int 0 0, .ref 203, .int 98 0, .int 0 0, .ref 210, .int 100 0, .int 0 0, .ref 217, .int 102 0, .int 0 0, .ref 222, .int 104 0, .int 0 0, .ref 229, .int 110 0, .int 0 0, .ref 236, .int 122 0, .int 0 0, .ref 243, .int 128 0, .int 0 0, .ref 250, .int 134 0, .int 0 0, .ref 257, .int 144 0, .int 0 0, .ref 264, .int 151 0, .int 0 0, .ref 271, .int 156 0, .int 0 0, .ref 276, .int 162 0, .int 0 0, .ref 283, .int 172 0, .int 0 0, .ref 290, .int 177 0, .int 0 0, .ref 297, .int 182 0, .int 0 0, .ref 304, .int 187 0, .int 0 0, .ref 311, .int 200 0, .int 0 0, .ref 318, .int 217 0, .int 0 0, .ref 323, .int 227 0, .int 0 0, .ref 330, .int 235 0, .int 0 0, .ref 335, .int 238 0, .int 0 0, .ref 342, .int 242 0, .int 0 0, .ref 349, .int 253 0, .int 0 0, .ref 356, .int 268 0, .int 0 0, .ref 363, .int 286 0, .int 0 0, .ref 368, .int 309 0, .int 0 0, .ref 375, .int 320 0, .int 0 0, .ref 382, .int 324 0, .int 0 0, .ref 389] }
noncomputable def b410 : O := fun P => tO #[]
noncomputable def b411 : O := fun P => { cls := .none, data := .fields #[] }
noncomputable def b412 : O := fun P => tO #[.str (.ofString "_law_which") 669, .str (.ofString "_law_depth") 670, .str (.ofString "_law_rows") 671, .str (.ofString "_law_key") 672, .str (.ofString "_law_value") 673, .str (.ofString "_law_slip") 674]
noncomputable def b413 : O := fun P => tO #[]
noncomputable def b414 : O := fun P => fo (.none) (.ofString "_law_other_ways") 56 0 .none .none
noncomputable def b415 : O := fun P => cO #[.str (.ofString "_law_other_ways") 666, .str (.ofString "_law_other_ways") 667, .str (.ofString "/claim/cut.py") 668, .int 253 0, .int 6 0, .int 0 0, .int 0 0, .int 3 0, .ref 351, .bool true, .int 181 0, .ref 352, .none, .ref 353, .ref 354, .ref 355, .int 675 0, .int 253 0, .str (.ofString "/claim/cut.py") 676]
noncomputable def b416 : O := fun P => fo (.type "function") (.ofString "_law_other_ways") 56 3 (.str (.ofString "law_topslip_k08_refused") 644) (.ref 356)
noncomputable def b417 : O := fun P => tO #[]
noncomputable def b418 : O := fun P => { cls := .none, data := .fields #[] }
noncomputable def b419 : O := fun P => tO #[.str (.ofString "_law_which") 681, .str (.ofString "_law_depth") 682, .str (.ofString "_law_rows") 683, .str (.ofString "_law_key") 684, .str (.ofString "_law_value") 685, .str (.ofString "_law_slip") 686, .str (.ofString "_law_word") 687]
noncomputable def b420 : O := fun P => tO #[]
noncomputable def b421 : O := fun P => fo (.none) (.ofString "_law_said") 57 0 .none .none
noncomputable def b422 : O := fun P => cO #[.str (.ofString "_law_said") 678, .str (.ofString "_law_said") 679, .str (.ofString "/claim/cut.py") 680, .int 268 0, .int 6 0, .int 0 0, .int 0 0, .int 3 0, .ref 358, .bool true, .int 181 0, .ref 359, .none, .ref 360, .ref 361, .ref 362, .int 688 0, .int 268 0, .str (.ofString "/claim/cut.py") 689]
noncomputable def b423 : O := fun P => fo (.type "function") (.ofString "_law_said") 57 3 (.str (.ofString "law_topslip_k08_refused") 644) (.ref 363)
noncomputable def b424 : O := fun P => tO #[]
noncomputable def b425 : O := fun P => { cls := .none, data := .fields #[] }
noncomputable def b426 : O := fun P => fo (.none) (.ofString "_law_word_due") 58 0 .none .none
noncomputable def b427 : O := fun P => cO #[.str (.ofString "_law_word_due") 691, .str (.ofString "_law_word_due") 692, .str (.ofString "/claim/cut.py") 693, .int 286 0, .int 6 0, .int 0 0, .int 0 0, .int 3 0, .ref 365, .bool true, .int 181 0, .ref 366, .none, .none, .none, .ref 367, .int 694 0, .int 286 0, .str (.ofString "/claim/cut.py") 695]
noncomputable def b428 : O := fun P => fo (.type "function") (.ofString "_law_word_due") 58 3 (.str (.ofString "law_topslip_k08_refused") 644) (.ref 368)
noncomputable def b429 : O := fun P => tO #[]
noncomputable def b430 : O := fun P => { cls := .none, data := .fields #[] }
noncomputable def b431 : O := fun P => tO #[.str (.ofString "_law_which") 700, .str (.ofString "_law_depth") 701, .str (.ofString "_law_rows") 702, .str (.ofString "_law_key") 703, .str (.ofString "_law_value") 704, .str (.ofString "_law_slip") 705, .str (.ofString "e") 706, .str (.ofString "_law_under") 707]
noncomputable def b432 : O := fun P => tO #[]
noncomputable def b433 : O := fun P => fo (.none) (.ofString "_law_refuses") 59 0 .none .none
noncomputable def b434 : O := fun P => cO #[.str (.ofString "_law_refuses") 697, .str (.ofString "_law_refuses") 698, .str (.ofString "/claim/cut.py") 699, .int 309 0, .int 6 0, .int 0 0, .int 0 0, .int 3 0, .ref 370, .bool true, .int 181 0, .ref 371, .none, .ref 372, .ref 373, .ref 374, .int 708 0, .int 309 0, .str (.ofString "/claim/cut.py") 709]
noncomputable def b435 : O := fun P => fo (.type "function") (.ofString "_law_refuses") 59 3 (.str (.ofString "law_topslip_k08_refused") 644) (.ref 375)
noncomputable def b436 : O := fun P => tO #[]
noncomputable def b437 : O := fun P => { cls := .none, data := .fields #[] }
noncomputable def b438 : O := fun P => tO #[.str (.ofString "_law_due") 714, .str (.ofString "_law_which") 715, .str (.ofString "_law_depth") 716, .str (.ofString "_law_rows") 717, .str (.ofString "_law_key") 718, .str (.ofString "_law_value") 719, .str (.ofString "_law_slip") 720]
noncomputable def b439 : O := fun P => tO #[]
noncomputable def b440 : O := fun P => fo (.none) (.ofString "_law_as_due") 60 0 .none .none
noncomputable def b441 : O := fun P => cO #[.str (.ofString "_law_as_due") 711, .str (.ofString "_law_as_due") 712, .str (.ofString "/claim/cut.py") 713, .int 320 0, .int 7 0, .int 0 0, .int 0 0, .int 3 0, .ref 377, .bool true, .int 181 0, .ref 378, .none, .ref 379, .ref 380, .ref 381, .int 721 0, .int 320 0, .str (.ofString "/claim/cut.py") 722]
noncomputable def b442 : O := fun P => fo (.type "function") (.ofString "_law_as_due") 60 3 (.str (.ofString "law_topslip_k08_refused") 644) (.ref 382)
noncomputable def b443 : O := fun P => tO #[]
noncomputable def b444 : O := fun P => { cls := .none, data := .fields #[] }
noncomputable def b445 : O := fun P => tO #[.str (.ofString "_law_script") 727, .str (.ofString "_law_depth") 728, .str (.ofString "_law_count") 729, .str (.ofString "_law_rows") 730, .str (.ofString "_law_k") 731, .str (.ofString "_law_key") 732, .str (.ofString "_law_value") 733, .str (.ofString "_law_slip") 734, .str (.ofString "_law_seed") 735, .str (.ofString "_law_way") 736, .str (.ofString "_law_deep") 737, .str (.ofString "_law_which") 738, .str (.ofString "_law_due") 739]
noncomputable def b446 : O := fun P => tO #[]
noncomputable def b447 : O := fun P => fo (.none) (.ofString "law") 61 0 .none .none
noncomputable def b448 : O := fun P => cO #[.str (.ofString "law") 724, .str (.ofString "law") 725, .str (.ofString "/claim/cut.py") 726, .int 324 0, .int 1 0, .int 0 0, .int 0 0, .int 3 0, .ref 384, .bool true, .int 181 0, .ref 385, .none, .ref 386, .ref 387, .ref 388, .int 740 0, .int 324 0, .str (.ofString "/claim/cut.py") 741]
noncomputable def b449 : O := fun P => fo (.type "function") (.ofString "law") 61 3 (.str (.ofString "law_topslip_k08_refused") 644) (.ref 389)
noncomputable def t257_1 : BT := fun P => .node (b51 P) (.node (b70 P) (.node (b108 P) (.node (b180 P) .nil .nil) (.node (b244 P) .nil .nil)) (.node (b146 P) (.node (b212 P) .nil .nil) .nil)) (.node (b89 P) (.node (b130 P) (.node (b196 P) .nil .nil) .nil) (.node (b162 P) (.node (b228 P) .nil .nil) .nil))
noncomputable def t257_2 : BT := fun P => .node (b59 P) (.node (b78 P) (.node (b119 P) (.node (b188 P) .nil .nil) (.node (b252 P) .nil .nil)) (.node (b154 P) (.node (b220 P) .nil .nil) .nil)) (.node (b100 P) (.node (b138 P) (.node (b204 P) .nil .nil) .nil) (.node (b170 P) (.node (b236 P) .nil .nil) .nil))
noncomputable def t257_3 : BT := fun P => .node (b55 P) (.node (b74 P) (.node (b115 P) (.node (b184 P) .nil .nil) (.node (b248 P) .nil .nil)) (.node (b150 P) (.node (b216 P) .nil .nil) .nil)) (.node (b93 P) (.node (b134 P) (.node (b200 P) .nil .nil) .nil) (.node (b166 P) (.node (b232 P) .nil .nil) .nil))
noncomputable def t257_4 : BT := fun P => .node (b63 P) (.node (b85 P) (.node (b123 P) (.node (b192 P) .nil .nil) (.node (b256 P) .nil .nil)) (.node (b158 P) (.node (b224 P) .nil .nil) .nil)) (.node (b104 P) (.node (b142 P) (.node (b208 P) .nil .nil) .nil) (.node (b176 P) (.node (b240 P) .nil .nil) .nil))
noncomputable def t257_5 : BT := fun P => .node (b53 P) (.node (b72 P) (.node (b113 P) (.node (b182 P) .nil .nil) (.node (b246 P) .nil .nil)) (.node (b148 P) (.node (b214 P) .nil .nil) .nil)) (.node (b91 P) (.node (b132 P) (.node (b198 P) .nil .nil) .nil) (.node (b164 P) (.node (b230 P) .nil .nil) .nil))
noncomputable def t257_6 : BT := fun P => .node (b61 P) (.node (b83 P) (.node (b121 P) (.node (b190 P) .nil .nil) (.node (b254 P) .nil .nil)) (.node (b156 P) (.node (b222 P) .nil .nil) .nil)) (.node (b102 P) (.node (b140 P) (.node (b206 P) .nil .nil) .nil) (.node (b172 P) (.node (b238 P) .nil .nil) .nil))
noncomputable def t257_7 : BT := fun P => .node (b57 P) (.node (b76 P) (.node (b117 P) (.node (b186 P) .nil .nil) (.node (b250 P) .nil .nil)) (.node (b152 P) (.node (b218 P) .nil .nil) .nil)) (.node (b98 P) (.node (b136 P) (.node (b202 P) .nil .nil) .nil) (.node (b168 P) (.node (b234 P) .nil .nil) .nil))
noncomputable def t257_8 : BT := fun P => .node (b68 P) (.node (b87 P) (.node (b128 P) (.node (b194 P) .nil .nil) .nil) (.node (b160 P) (.node (b226 P) .nil .nil) .nil)) (.node (b106 P) (.node (b144 P) (.node (b210 P) .nil .nil) .nil) (.node (b178 P) (.node (b242 P) .nil .nil) .nil))
noncomputable def t257_9 : BT := fun P => .node (b52 P) (.node (b71 P) (.node (b112 P) (.node (b181 P) .nil .nil) (.node (b245 P) .nil .nil)) (.node (b147 P) (.node (b213 P) .nil .nil) .nil)) (.node (b90 P) (.node (b131 P) (.node (b197 P) .nil .nil) .nil) (.node (b163 P) (.node (b229 P) .nil .nil) .nil))
noncomputable def t257_10 : BT := fun P => .node (b126 P) (.node (b82 P) (.node (b120 P) (.node (b189 P) .nil .nil) (.node (b253 P) .nil .nil)) (.node (b155 P) (.node (b221 P) .nil .nil) .nil)) (.node (b101 P) (.node (b139 P) (.node (b205 P) .nil .nil) .nil) (.node (b171 P) (.node (b237 P) .nil .nil) .nil))
noncomputable def t257_11 : BT := fun P => .node (b56 P) (.node (b75 P) (.node (b116 P) (.node (b185 P) .nil .nil) (.node (b249 P) .nil .nil)) (.node (b151 P) (.node (b217 P) .nil .nil) .nil)) (.node (b97 P) (.node (b135 P) (.node (b201 P) .nil .nil) .nil) (.node (b167 P) (.node (b233 P) .nil .nil) .nil))
noncomputable def t257_12 : BT := fun P => .node (b67 P) (.node (b86 P) (.node (b127 P) (.node (b193 P) .nil .nil) (.node (b257 P) .nil .nil)) (.node (b159 P) (.node (b225 P) .nil .nil) .nil)) (.node (b105 P) (.node (b143 P) (.node (b209 P) .nil .nil) .nil) (.node (b177 P) (.node (b241 P) .nil .nil) .nil))
noncomputable def t257_13 : BT := fun P => .node (b54 P) (.node (b73 P) (.node (b114 P) (.node (b183 P) .nil .nil) (.node (b247 P) .nil .nil)) (.node (b149 P) (.node (b215 P) .nil .nil) .nil)) (.node (b92 P) (.node (b133 P) (.node (b199 P) .nil .nil) .nil) (.node (b165 P) (.node (b231 P) .nil .nil) .nil))
noncomputable def t257_14 : BT := fun P => .node (b62 P) (.node (b84 P) (.node (b122 P) (.node (b191 P) .nil .nil) (.node (b255 P) .nil .nil)) (.node (b157 P) (.node (b223 P) .nil .nil) .nil)) (.node (b103 P) (.node (b141 P) (.node (b207 P) .nil .nil) .nil) (.node (b173 P) (.node (b239 P) .nil .nil) .nil))
noncomputable def t257_15 : BT := fun P => .node (b58 P) (.node (b77 P) (.node (b118 P) (.node (b187 P) .nil .nil) (.node (b251 P) .nil .nil)) (.node (b153 P) (.node (b219 P) .nil .nil) .nil)) (.node (b99 P) (.node (b137 P) (.node (b203 P) .nil .nil) .nil) (.node (b169 P) (.node (b235 P) .nil .nil) .nil))
noncomputable def t257_16 : BT := fun P => .node (b69 P) (.node (b88 P) (.node (b129 P) (.node (b195 P) .nil .nil) .nil) (.node (b161 P) (.node (b227 P) .nil .nil) .nil)) (.node (b107 P) (.node (b145 P) (.node (b211 P) .nil .nil) .nil) (.node (b179 P) (.node (b243 P) .nil .nil) .nil))
noncomputable def tree_257 : BT := fun P => .node (PySem.W.boot_o_0 P) (.node (PySem.W.boot_o_1 P) (.node (b174 P) (.node (PySem.W.boot_o_7 P) (t257_1 P) (t257_2 P)) (.node (b43 P) (t257_3 P) (t257_4 P))) (.node (PySem.W.boot_o_5 P) (.node (PySem.W.boot_o_9 P) (t257_5 P) (t257_6 P)) (.node (b45 P) (t257_7 P) (t257_8 P)))) (.node (PySem.W.boot_o_2 P) (.node (PySem.W.boot_o_4 P) (.node (PySem.W.boot_o_8 P) (t257_9 P) (t257_10 P)) (.node (b175 P) (t257_11 P) (t257_12 P))) (.node (PySem.W.boot_o_6 P) (.node (PySem.W.boot_o_10 P) (t257_13 P) (t257_14 P)) (.node (b46 P) (t257_15 P) (t257_16 P))))
noncomputable def t332_1 : BT := fun P => .node (b51 P) (.node (b70 P) (.node (b108 P) (.node (b180 P) (.node (b310 P) .nil .nil) .nil) (.node (b244 P) .nil .nil)) (.node (b146 P) (.node (b212 P) .nil .nil) (.node (b278 P) .nil .nil))) (.node (b89 P) (.node (b130 P) (.node (b196 P) (.node (b326 P) .nil .nil) .nil) (.node (b262 P) .nil .nil)) (.node (b162 P) (.node (b228 P) .nil .nil) (.node (b294 P) .nil .nil)))
noncomputable def t332_2 : BT := fun P => .node (b59 P) (.node (b78 P) (.node (b119 P) (.node (b188 P) (.node (b318 P) .nil .nil) .nil) (.node (b252 P) .nil .nil)) (.node (b154 P) (.node (b220 P) .nil .nil) (.node (b286 P) .nil .nil))) (.node (b100 P) (.node (b138 P) (.node (b204 P) .nil .nil) (.node (b270 P) .nil .nil)) (.node (b170 P) (.node (b236 P) .nil .nil) (.node (b302 P) .nil .nil)))
noncomputable def t332_3 : BT := fun P => .node (b55 P) (.node (b74 P) (.node (b115 P) (.node (b184 P) (.node (b314 P) .nil .nil) .nil) (.node (b248 P) .nil .nil)) (.node (b150 P) (.node (b216 P) .nil .nil) (.node (b282 P) .nil .nil))) (.node (b93 P) (.node (b134 P) (.node (b200 P) (.node (b330 P) .nil .nil) .nil) (.node (b266 P) .nil .nil)) (.node (b166 P) (.node (b232 P) .nil .nil) (.node (b298 P) .nil .nil)))
noncomputable def t332_4 : BT := fun P => .node (b63 P) (.node (b85 P) (.node (b123 P) (.node (b192 P) (.node (b322 P) .nil .nil) .nil) (.node (b256 P) .nil .nil)) (.node (b158 P) (.node (b224 P) .nil .nil) (.node (b290 P) .nil .nil))) (.node (b104 P) (.node (b142 P) (.node (b208 P) .nil .nil) (.node (b274 P) .nil .nil)) (.node (b176 P) (.node (b240 P) .nil .nil) (.node (b306 P) .nil .nil)))
noncomputable def t332_5 : BT := fun P => .node (b53 P) (.node (b72 P) (.node (b113 P) (.node (b182 P) (.node (b312 P) .nil .nil) .nil) (.node (b246 P) .nil .nil)) (.node (b148 P) (.node (b214 P) .nil .nil) (.node (b280 P) .nil .nil))) (.node (b91 P) (.node (b132 P) (.node (b198 P) (.node (b328 P) .nil .nil) .nil) (.node (b264 P) .nil .nil)) (.node (b164 P) (.node (b230 P) .nil .nil) (.node (b296 P) .nil .nil)))
noncomputable def t332_6 : BT := fun P => .node (b61 P) (.node (b83 P) (.node (b121 P) (.node (b190 P) (.node (b320 P) .nil .nil) .nil) (.node (b254 P) .nil .nil)) (.node (b156 P) (.node (b222 P) .nil .nil) (.node (b288 P) .nil .nil))) (.node (b102 P) (.node (b140 P) (.node (b206 P) .nil .nil) (.node (b272 P) .nil .nil)) (.node (b172 P) (.node (b238 P) .nil .nil) (.node (b304 P) .nil .nil)))
noncomputable def t332_7 : BT := fun P => .node (b57 P) (.node (b76 P) (.node (b117 P) (.node (b186 P) (.node (b316 P) .nil .nil) .nil) (.node (b250 P) .nil .nil)) (.node (b152 P) (.node (b218 P) .nil .nil) (.node (b284 P) .nil .nil))) (.node (b98 P) (.node (b136 P) (.node (b202 P) (.node (b332 P) .nil .nil) .nil) (.node (b268 P) .nil .nil)) (.node (b168 P) (.node (b234 P) .nil .nil) (.node (b300 P) .nil .nil)))
noncomputable def t332_8 : BT := fun P => .node (b68 P) (.node (b87 P) (.node (b128 P) (.node (b194 P) (.node (b324 P) .nil .nil) .nil) (.node (b260 P) .nil .nil)) (.node (b160 P) (.node (b226 P) .nil .nil) (.node (b292 P) .nil .nil))) (.node (b106 P) (.node (b144 P) (.node (b210 P) .nil .nil) (.node (b276 P) .nil .nil)) (.node (b178 P) (.node (b242 P) .nil .nil) (.node (b308 P) .nil .nil)))
noncomputable def t332_9 : BT := fun P => .node (b52 P) (.node (b71 P) (.node (b112 P) (.node (b181 P) (.node (b311 P) .nil .nil) .nil) (.node (b245 P) .nil .nil)) (.node (b147 P) (.node (b213 P) .nil .nil) (.node (b279 P) .nil .nil))) (.node (b90 P) (.node (b131 P) (.node (b197 P) (.node (b327 P) .nil .nil) .nil) (.node (b263 P) .nil .nil)) (.node (b163 P) (.node (b229 P) .nil .nil) (.node (b295 P) .nil .nil)))
noncomputable def t332_10 : BT := fun P => .node (b126 P) (.node (b82 P) (.node (b120 P) (.node (b189 P) (.node (b319 P) .nil .nil) .nil) (.node (b253 P) .nil .nil)) (.node (b155 P) (.node (b221 P) .nil .nil) (.node (b287 P) .nil .nil))) (.node (b101 P) (.node (b139 P) (.node (b205 P) .nil .nil) (.node (b271 P) .nil .nil)) (.node (b171 P) (.node (b237 P) .nil .nil) (.node (b303 P) .nil .nil)))
noncomputable def t332_11 : BT := fun P => .node (b56 P) (.node (b75 P) (.node (b116 P) (.node (b185 P) (.node (b315 P) .nil .nil) .nil) (.node (b249 P) .nil .nil)) (.node (b151 P) (.node (b217 P) .nil .nil) (.node (b283 P) .nil .nil))) (.node (b97 P) (.node (b135 P) (.node (b201 P) (.node (b331 P) .nil .nil) .nil) (.node (b267 P) .nil .nil)) (.node (b167 P) (.node (b233 P) .nil .nil) (.node (b299 P) .nil .nil)))
noncomputable def t332_12 : BT := fun P => .node (b67 P) (.node (b86 P) (.node (b127 P) (.node (b193 P) (.node (b323 P) .nil .nil) .nil) (.node (b257 P) .nil .nil)) (.node (b159 P) (.node (b225 P) .nil .nil) (.node (b291 P) .nil .nil))) (.node (b105 P) (.node (b143 P) (.node (b209 P) .nil .nil) (.node (b275 P) .nil .nil)) (.node (b177 P) (.node (b241 P) .nil .nil) (.node (b307 P) .nil .nil)))
noncomputable def t332_13 : BT := fun P => .node (b54 P) (.node (b73 P) (.node (b114 P) (.node (b183 P) (.node (b313 P) .nil .nil) .nil) (.node (b247 P) .nil .nil)) (.node (b149 P) (.node (b215 P) .nil .nil) (.node (b281 P) .nil .nil))) (.node (b92 P) (.node (b133 P) (.node (b199 P) (.node (b329 P) .nil .nil) .nil) (.node (b265 P) .nil .nil)) (.node (b165 P) (.node (b231 P) .nil .nil) (.node (b297 P) .nil .nil)))
noncomputable def t332_14 : BT := fun P => .node (b62 P) (.node (b84 P) (.node (b122 P) (.node (b191 P) (.node (b321 P) .nil .nil) .nil) (.node (b255 P) .nil .nil)) (.node (b157 P) (.node (b223 P) .nil .nil) (.node (b289 P) .nil .nil))) (.node (b103 P) (.node (b141 P) (.node (b207 P) .nil .nil) (.node (b273 P) .nil .nil)) (.node (b173 P) (.node (b239 P) .nil .nil) (.node (b305 P) .nil .nil)))
noncomputable def t332_15 : BT := fun P => .node (b58 P) (.node (b77 P) (.node (b118 P) (.node (b187 P) (.node (b317 P) .nil .nil) .nil) (.node (b251 P) .nil .nil)) (.node (b153 P) (.node (b219 P) .nil .nil) (.node (b285 P) .nil .nil))) (.node (b99 P) (.node (b137 P) (.node (b203 P) .nil .nil) (.node (b269 P) .nil .nil)) (.node (b169 P) (.node (b235 P) .nil .nil) (.node (b301 P) .nil .nil)))
noncomputable def t332_16 : BT := fun P => .node (b69 P) (.node (b88 P) (.node (b129 P) (.node (b195 P) (.node (b325 P) .nil .nil) .nil) (.node (b261 P) .nil .nil)) (.node (b161 P) (.node (b227 P) .nil .nil) (.node (b293 P) .nil .nil))) (.node (b107 P) (.node (b145 P) (.node (b211 P) .nil .nil) (.node (b277 P) .nil .nil)) (.node (b179 P) (.node (b243 P) .nil .nil) (.node (b309 P) .nil .nil)))
noncomputable def tree_332 : BT := fun P => .node (PySem.W.boot_o_0 P) (.node (PySem.W.boot_o_1 P) (.node (b258 P) (.node (PySem.W.boot_o_7 P) (t332_1 P) (t332_2 P)) (.node (b43 P) (t332_3 P) (t332_4 P))) (.node (PySem.W.boot_o_5 P) (.node (PySem.W.boot_o_9 P) (t332_5 P) (t332_6 P)) (.node (b45 P) (t332_7 P) (t332_8 P)))) (.node (PySem.W.boot_o_2 P) (.node (PySem.W.boot_o_4 P) (.node (PySem.W.boot_o_8 P) (t332_9 P) (t332_10 P)) (.node (b259 P) (t332_11 P) (t332_12 P))) (.node (PySem.W.boot_o_6 P) (.node (PySem.W.boot_o_10 P) (t332_13 P) (t332_14 P)) (.node (b46 P) (t332_15 P) (t332_16 P))))
noncomputable def t407_1 : BT := fun P => .node (b51 P) (.node (b70 P) (.node (b108 P) (.node (b180 P) (.node (b310 P) .nil .nil) .nil) (.node (b244 P) (.node (b376 P) .nil .nil) .nil)) (.node (b146 P) (.node (b212 P) (.node (b344 P) .nil .nil) .nil) (.node (b278 P) .nil .nil))) (.node (b89 P) (.node (b130 P) (.node (b196 P) (.node (b326 P) .nil .nil) .nil) (.node (b262 P) (.node (b392 P) .nil .nil) .nil)) (.node (b162 P) (.node (b228 P) (.node (b360 P) .nil .nil) .nil) (.node (b294 P) .nil .nil)))
noncomputable def t407_2 : BT := fun P => .node (b59 P) (.node (b78 P) (.node (b119 P) (.node (b188 P) (.node (b318 P) .nil .nil) .nil) (.node (b252 P) (.node (b384 P) .nil .nil) .nil)) (.node (b154 P) (.node (b220 P) (.node (b352 P) .nil .nil) .nil) (.node (b286 P) .nil .nil))) (.node (b100 P) (.node (b138 P) (.node (b204 P) (.node (b336 P) .nil .nil) .nil) (.node (b270 P) (.node (b400 P) .nil .nil) .nil)) (.node (b170 P) (.node (b236 P) (.node (b368 P) .nil .nil) .nil) (.node (b302 P) .nil .nil)))
noncomputable def t407_3 : BT := fun P => .node (b55 P) (.node (b74 P) (.node (b115 P) (.node (b184 P) (.node (b314 P) .nil .nil) .nil) (.node (b248 P) (.node (b380 P) .nil .nil) .nil)) (.node (b150 P) (.node (b216 P) (.node (b348 P) .nil .nil) .nil) (.node (b282 P) .nil .nil))) (.node (b93 P) (.node (b134 P) (.node (b200 P) (.node (b330 P) .nil .nil) .nil) (.node (b266 P) (.node (b396 P) .nil .nil) .nil)) (.node (b166 P) (.node (b232 P) (.node (b364 P) .nil .nil) .nil) (.node (b298 P) .nil .nil)))
noncomputable def t407_4 : BT := fun P => .node (b63 P) (.node (b85 P) (.node (b123 P) (.node (b192 P) (.node (b322 P) .nil .nil) .nil) (.node (b256 P) (.node (b388 P) .nil .nil) .nil)) (.node (b158 P) (.node (b224 P) (.node (b356 P) .nil .nil) .nil) (.node (b290 P) .nil .nil))) (.node (b104 P) (.node (b142 P) (.node (b208 P) (.node (b340 P) .nil .nil) .nil) (.node (b274 P) (.node (b404 P) .nil .nil) .nil)) (.node (b176 P) (.node (b240 P) (.node (b372 P) .nil .nil) .nil) (.node (b306 P) .nil .nil)))
noncomputable def t407_5 : BT := fun P => .node (b53 P) (.node (b72 P) (.node (b113 P) (.node (b182 P) (.node (b312 P) .nil .nil) .nil) (.node (b246 P) (.node (b378 P) .nil .nil) .nil)) (.node (b148 P) (.node (b214 P) (.node (b346 P) .nil .nil) .nil) (.node (b280 P) .nil .nil))) (.node (b91 P) (.node (b132 P) (.node (b198 P) (.node (b328 P) .nil .nil) .nil) (.node (b264 P) (.node (b394 P) .nil .nil) .nil)) (.node (b164 P) (.node (b230 P) (.node (b362 P) .nil .nil) .nil) (.node (b296 P) .nil .nil)))
noncomputable def t407_6 : BT := fun P => .node (b61 P) (.node (b83 P) (.node (b121 P) (.node (b190 P) (.node (b320 P) .nil .nil) .nil) (.node (b254 P) (.node (b386 P) .nil .nil) .nil)) (.node (b156 P) (.node (b222 P) (.node (b354 P) .nil .nil) .nil) (.node (b288 P) .nil .nil))) (.node (b102 P) (.node (b140 P) (.node (b206 P) (.node (b338 P) .nil .nil) .nil) (.node (b272 P) (.node (b402 P) .nil .nil) .nil)) (.node (b172 P) (.node (b238 P) (.node (b370 P) .nil .nil) .nil) (.node (b304 P) .nil .nil)))
noncomputable def t407_7 : BT := fun P => .node (b57 P) (.node (b76 P) (.node (b117 P) (.node (b186 P) (.node (b316 P) .nil .nil) .nil) (.node (b250 P) (.node (b382 P) .nil .nil) .nil)) (.node (b152 P) (.node (b218 P) (.node (b350 P) .nil .nil) .nil) (.node (b284 P) .nil .nil))) (.node (b98 P) (.node (b136 P) (.node (b202 P) (.node (b332 P) .nil .nil) .nil) (.node (b268 P) (.node (b398 P) .nil .nil) .nil)) (.node (b168 P) (.node (b234 P) (.node (b366 P) .nil .nil) .nil) (.node (b300 P) .nil .nil)))
noncomputable def t407_8 : BT := fun P => .node (b68 P) (.node (b87 P) (.node (b128 P) (.node (b194 P) (.node (b324 P) .nil .nil) .nil) (.node (b260 P) (.node (b390 P) .nil .nil) .nil)) (.node (b160 P) (.node (b226 P) (.node (b358 P) .nil .nil) .nil) (.node (b292 P) .nil .nil))) (.node (b106 P) (.node (b144 P) (.node (b210 P) (.node (b342 P) .nil .nil) .nil) (.node (b276 P) (.node (b406 P) .nil .nil) .nil)) (.node (b178 P) (.node (b242 P) (.node (b374 P) .nil .nil) .nil) (.node (b308 P) .nil .nil)))
noncomputable def t407_9 : BT := fun P => .node (b52 P) (.node (b71 P) (.node (b112 P) (.node (b181 P) (.node (b311 P) .nil .nil) .nil) (.node (b245 P) (.node (b377 P) .nil .nil) .nil)) (.node (b147 P) (.node (b213 P) (.node (b345 P) .nil .nil) .nil) (.node (b279 P) .nil .nil))) (.node (b90 P) (.node (b131 P) (.node (b197 P) (.node (b327 P) .nil .nil) .nil) (.node (b263 P) (.node (b393 P) .nil .nil) .nil)) (.node (b163 P) (.node (b229 P) (.node (b361 P) .nil .nil) .nil) (.node (b295 P) .nil .nil)))
noncomputable def t407_10 : BT := fun P => .node (b126 P) (.node (b82 P) (.node (b120 P) (.node (b189 P) (.node (b319 P) .nil .nil) .nil) (.node (b253 P) (.node (b385 P) .nil .nil) .nil)) (.node (b155 P) (.node (b221 P) (.node (b353 P) .nil .nil) .nil) (.node (b287 P) .nil .nil))) (.node (b101 P) (.node (b139 P) (.node (b205 P) (.node (b337 P) .nil .nil) .nil) (.node (b271 P) (.node (b401 P) .nil .nil) .nil)) (.node (b171 P) (.node (b237 P) (.node (b369 P) .nil .nil) .nil) (.node (b303 P) .nil .nil)))
noncomputable def t407_11 : BT := fun P => .node (b56 P) (.node (b75 P) (.node (b116 P) (.node (b185 P) (.node (b315 P) .nil .nil) .nil) (.node (b249 P) (.node (b381 P) .nil .nil) .nil)) (.node (b151 P) (.node (b217 P) (.node (b349 P) .nil .nil) .nil) (.node (b283 P) .nil .nil))) (.node (b97 P) (.node (b135 P) (.node (b201 P) (.node (b331 P) .nil .nil) .nil) (.node (b267 P) (.node (b397 P) .nil .nil) .nil)) (.node (b167 P) (.node (b233 P) (.node (b365 P) .nil .nil) .nil) (.node (b299 P) .nil .nil)))
noncomputable def t407_12 : BT := fun P => .node (b67 P) (.node (b86 P) (.node (b127 P) (.node (b193 P) (.node (b323 P) .nil .nil) .nil) (.node (b257 P) (.node (b389 P) .nil .nil) .nil)) (.node (b159 P) (.node (b225 P) (.node (b357 P) .nil .nil) .nil) (.node (b291 P) .nil .nil))) (.node (b105 P) (.node (b143 P) (.node (b209 P) (.node (b341 P) .nil .nil) .nil) (.node (b275 P) (.node (b405 P) .nil .nil) .nil)) (.node (b177 P) (.node (b241 P) (.node (b373 P) .nil .nil) .nil) (.node (b307 P) .nil .nil)))
noncomputable def t407_13 : BT := fun P => .node (b54 P) (.node (b73 P) (.node (b114 P) (.node (b183 P) (.node (b313 P) .nil .nil) .nil) (.node (b247 P) (.node (b379 P) .nil .nil) .nil)) (.node (b149 P) (.node (b215 P) (.node (b347 P) .nil .nil) .nil) (.node (b281 P) .nil .nil))) (.node (b92 P) (.node (b133 P) (.node (b199 P) (.node (b329 P) .nil .nil) .nil) (.node (b265 P) (.node (b395 P) .nil .nil) .nil)) (.node (b165 P) (.node (b231 P) (.node (b363 P) .nil .nil) .nil) (.node (b297 P) .nil .nil)))
noncomputable def t407_14 : BT := fun P => .node (b62 P) (.node (b84 P) (.node (b122 P) (.node (b191 P) (.node (b321 P) .nil .nil) .nil) (.node (b255 P) (.node (b387 P) .nil .nil) .nil)) (.node (b157 P) (.node (b223 P) (.node (b355 P) .nil .nil) .nil) (.node (b289 P) .nil .nil))) (.node (b103 P) (.node (b141 P) (.node (b207 P) (.node (b339 P) .nil .nil) .nil) (.node (b273 P) (.node (b403 P) .nil .nil) .nil)) (.node (b173 P) (.node (b239 P) (.node (b371 P) .nil .nil) .nil) (.node (b305 P) .nil .nil)))
noncomputable def t407_15 : BT := fun P => .node (b58 P) (.node (b77 P) (.node (b118 P) (.node (b187 P) (.node (b317 P) .nil .nil) .nil) (.node (b251 P) (.node (b383 P) .nil .nil) .nil)) (.node (b153 P) (.node (b219 P) (.node (b351 P) .nil .nil) .nil) (.node (b285 P) .nil .nil))) (.node (b99 P) (.node (b137 P) (.node (b203 P) (.node (b335 P) .nil .nil) .nil) (.node (b269 P) (.node (b399 P) .nil .nil) .nil)) (.node (b169 P) (.node (b235 P) (.node (b367 P) .nil .nil) .nil) (.node (b301 P) .nil .nil)))
noncomputable def t407_16 : BT := fun P => .node (b69 P) (.node (b88 P) (.node (b129 P) (.node (b195 P) (.node (b325 P) .nil .nil) .nil) (.node (b261 P) (.node (b391 P) .nil .nil) .nil)) (.node (b161 P) (.node (b227 P) (.node (b359 P) .nil .nil) .nil) (.node (b293 P) .nil .nil))) (.node (b107 P) (.node (b145 P) (.node (b211 P) (.node (b343 P) .nil .nil) .nil) (.node (b277 P) (.node (b407 P) .nil .nil) .nil)) (.node (b179 P) (.node (b243 P) (.node (b375 P) .nil .nil) .nil) (.node (b309 P) .nil .nil)))
noncomputable def tree_407 : BT := fun P => .node (PySem.W.boot_o_0 P) (.node (PySem.W.boot_o_1 P) (.node (b333 P) (.node (PySem.W.boot_o_7 P) (t407_1 P) (t407_2 P)) (.node (b43 P) (t407_3 P) (t407_4 P))) (.node (PySem.W.boot_o_5 P) (.node (PySem.W.boot_o_9 P) (t407_5 P) (t407_6 P)) (.node (b45 P) (t407_7 P) (t407_8 P)))) (.node (PySem.W.boot_o_2 P) (.node (PySem.W.boot_o_4 P) (.node (PySem.W.boot_o_8 P) (t407_9 P) (t407_10 P)) (.node (b334 P) (t407_11 P) (t407_12 P))) (.node (PySem.W.boot_o_6 P) (.node (PySem.W.boot_o_10 P) (t407_13 P) (t407_14 P)) (.node (b46 P) (t407_15 P) (t407_16 P))))
noncomputable def t449_1 : BT := fun P => .node (b51 P) (.node (b70 P) (.node (b108 P) (.node (b180 P) (.node (b310 P) .nil .nil) (.node (b442 P) .nil .nil)) (.node (b244 P) (.node (b376 P) .nil .nil) .nil)) (.node (b146 P) (.node (b212 P) (.node (b344 P) .nil .nil) .nil) (.node (b278 P) (.node (b410 P) .nil .nil) .nil))) (.node (b89 P) (.node (b130 P) (.node (b196 P) (.node (b326 P) .nil .nil) .nil) (.node (b262 P) (.node (b392 P) .nil .nil) .nil)) (.node (b162 P) (.node (b228 P) (.node (b360 P) .nil .nil) .nil) (.node (b294 P) (.node (b426 P) .nil .nil) .nil)))
noncomputable def t449_2 : BT := fun P => .node (b59 P) (.node (b78 P) (.node (b119 P) (.node (b188 P) (.node (b318 P) .nil .nil) .nil) (.node (b252 P) (.node (b384 P) .nil .nil) .nil)) (.node (b154 P) (.node (b220 P) (.node (b352 P) .nil .nil) .nil) (.node (b286 P) (.node (b418 P) .nil .nil) .nil))) (.node (b100 P) (.node (b138 P) (.node (b204 P) (.node (b336 P) .nil .nil) .nil) (.node (b270 P) (.node (b400 P) .nil .nil) .nil)) (.node (b170 P) (.node (b236 P) (.node (b368 P) .nil .nil) .nil) (.node (b302 P) (.node (b434 P) .nil .nil) .nil)))
noncomputable def t449_3 : BT := fun P => .node (b55 P) (.node (b74 P) (.node (b115 P) (.node (b184 P) (.node (b314 P) .nil .nil) (.node (b446 P) .nil .nil)) (.node (b248 P) (.node (b380 P) .nil .nil) .nil)) (.node (b150 P) (.node (b216 P) (.node (b348 P) .nil .nil) .nil) (.node (b282 P) (.node (b414 P) .nil .nil) .nil))) (.node (b93 P) (.node (b134 P) (.node (b200 P) (.node (b330 P) .nil .nil) .nil) (.node (b266 P) (.node (b396 P) .nil .nil) .nil)) (.node (b166 P) (.node (b232 P) (.node (b364 P) .nil .nil) .nil) (.node (b298 P) (.node (b430 P) .nil .nil) .nil)))
noncomputable def t449_4 : BT := fun P => .node (b63 P) (.node (b85 P) (.node (b123 P) (.node (b192 P) (.node (b322 P) .nil .nil) .nil) (.node (b256 P) (.node (b388 P) .nil .nil) .nil)) (.node (b158 P) (.node (b224 P) (.node (b356 P) .nil .nil) .nil) (.node (b290 P) (.node (b422 P) .nil .nil) .nil))) (.node (b104 P) (.node (b142 P) (.node (b208 P) (.node (b340 P) .nil .nil) .nil) (.node (b274 P) (.node (b404 P) .nil .nil) .nil)) (.node (b176 P) (.node (b240 P) (.node (b372 P) .nil .nil) .nil) (.node (b306 P) (.node (b438 P) .nil .nil) .nil)))
noncomputable def t449_5 : BT := fun P => .node (b53 P) (.node (b72 P) (.node (b113 P) (.node (b182 P) (.node (b312 P) .nil .nil) (.node (b444 P) .nil .nil)) (.node (b246 P) (.node (b378 P) .nil .nil) .nil)) (.node (b148 P) (.node (b214 P) (.node (b346 P) .nil .nil) .nil) (.node (b280 P) (.node (b412 P) .nil .nil) .nil))) (.node (b91 P) (.node (b132 P) (.node (b198 P) (.node (b328 P) .nil .nil) .nil) (.node (b264 P) (.node (b394 P) .nil .nil) .nil)) (.node (b164 P) (.node (b230 P) (.node (b362 P) .nil .nil) .nil) (.node (b296 P) (.node (b428 P) .nil .nil) .nil)))
noncomputable def t449_6 : BT := fun P => .node (b61 P) (.node (b83 P) (.node (b121 P) (.node (b190 P) (.node (b320 P) .nil .nil) .nil) (.node (b254 P) (.node (b386 P) .nil .nil) .nil)) (.node (b156 P) (.node (b222 P) (.node (b354 P) .nil .nil) .nil) (.node (b288 P) (.node (b420 P) .nil .nil) .nil))) (.node (b102 P) (.node (b140 P) (.node (b206 P) (.node (b338 P) .nil .nil) .nil) (.node (b272 P) (.node (b402 P) .nil .nil) .nil)) (.node (b172 P) (.node (b238 P) (.node (b370 P) .nil .nil) .nil) (.node (b304 P) (.node (b436 P) .nil .nil) .nil)))
noncomputable def t449_7 : BT := fun P => .node (b57 P) (.node (b76 P) (.node (b117 P) (.node (b186 P) (.node (b316 P) .nil .nil) (.node (b448 P) .nil .nil)) (.node (b250 P) (.node (b382 P) .nil .nil) .nil)) (.node (b152 P) (.node (b218 P) (.node (b350 P) .nil .nil) .nil) (.node (b284 P) (.node (b416 P) .nil .nil) .nil))) (.node (b98 P) (.node (b136 P) (.node (b202 P) (.node (b332 P) .nil .nil) .nil) (.node (b268 P) (.node (b398 P) .nil .nil) .nil)) (.node (b168 P) (.node (b234 P) (.node (b366 P) .nil .nil) .nil) (.node (b300 P) (.node (b432 P) .nil .nil) .nil)))
noncomputable def t449_8 : BT := fun P => .node (b68 P) (.node (b87 P) (.node (b128 P) (.node (b194 P) (.node (b324 P) .nil .nil) .nil) (.node (b260 P) (.node (b390 P) .nil .nil) .nil)) (.node (b160 P) (.node (b226 P) (.node (b358 P) .nil .nil) .nil) (.node (b292 P) (.node (b424 P) .nil .nil) .nil))) (.node (b106 P) (.node (b144 P) (.node (b210 P) (.node (b342 P) .nil .nil) .nil) (.node (b276 P) (.node (b406 P) .nil .nil) .nil)) (.node (b178 P) (.node (b242 P) (.node (b374 P) .nil .nil) .nil) (.node (b308 P) (.node (b440 P) .nil .nil) .nil)))
noncomputable def t449_9 : BT := fun P => .node (b52 P) (.node (b71 P) (.node (b112 P) (.node (b181 P) (.node (b311 P) .nil .nil) (.node (b443 P) .nil .nil)) (.node (b245 P) (.node (b377 P) .nil .nil) .nil)) (.node (b147 P) (.node (b213 P) (.node (b345 P) .nil .nil) .nil) (.node (b279 P) (.node (b411 P) .nil .nil) .nil))) (.node (b90 P) (.node (b131 P) (.node (b197 P) (.node (b327 P) .nil .nil) .nil) (.node (b263 P) (.node (b393 P) .nil .nil) .nil)) (.node (b163 P) (.node (b229 P) (.node (b361 P) .nil .nil) .nil) (.node (b295 P) (.node (b427 P) .nil .nil) .nil)))
noncomputable def t449_10 : BT := fun P => .node (b126 P) (.node (b82 P) (.node (b120 P) (.node (b189 P) (.node (b319 P) .nil .nil) .nil) (.node (b253 P) (.node (b385 P) .nil .nil) .nil)) (.node (b155 P) (.node (b221 P) (.node (b353 P) .nil .nil) .nil) (.node (b287 P) (.node (b419 P) .nil .nil) .nil))) (.node (b101 P) (.node (b139 P) (.node (b205 P) (.node (b337 P) .nil .nil) .nil) (.node (b271 P) (.node (b401 P) .nil .nil) .nil)) (.node (b171 P) (.node (b237 P) (.node (b369 P) .nil .nil) .nil) (.node (b303 P) (.node (b435 P) .nil .nil) .nil)))
noncomputable def t449_11 : BT := fun P => .node (b56 P) (.node (b75 P) (.node (b116 P) (.node (b185 P) (.node (b315 P) .nil .nil) (.node (b447 P) .nil .nil)) (.node (b249 P) (.node (b381 P) .nil .nil) .nil)) (.node (b151 P) (.node (b217 P) (.node (b349 P) .nil .nil) .nil) (.node (b283 P) (.node (b415 P) .nil .nil) .nil))) (.node (b97 P) (.node (b135 P) (.node (b201 P) (.node (b331 P) .nil .nil) .nil) (.node (b267 P) (.node (b397 P) .nil .nil) .nil)) (.node (b167 P) (.node (b233 P) (.node (b365 P) .nil .nil) .nil) (.node (b299 P) (.node (b431 P) .nil .nil) .nil)))
noncomputable def t449_12 : BT := fun P => .node (b67 P) (.node (b86 P) (.node (b127 P) (.node (b193 P) (.node (b323 P) .nil .nil) .nil) (.node (b257 P) (.node (b389 P) .nil .nil) .nil)) (.node (b159 P) (.node (b225 P) (.node (b357 P) .nil .nil) .nil) (.node (b291 P) (.node (b423 P) .nil .nil) .nil))) (.node (b105 P) (.node (b143 P) (.node (b209 P) (.node (b341 P) .nil .nil) .nil) (.node (b275 P) (.node (b405 P) .nil .nil) .nil)) (.node (b177 P) (.node (b241 P) (.node (b373 P) .nil .nil) .nil) (.node (b307 P) (.node (b439 P) .nil .nil) .nil)))
noncomputable def t449_13 : BT := fun P => .node (b54 P) (.node (b73 P) (.node (b114 P) (.node (b183 P) (.node (b313 P) .nil .nil) (.node (b445 P) .nil .nil)) (.node (b247 P) (.node (b379 P) .nil .nil) .nil)) (.node (b149 P) (.node (b215 P) (.node (b347 P) .nil .nil) .nil) (.node (b281 P) (.node (b413 P) .nil .nil) .nil))) (.node (b92 P) (.node (b133 P) (.node (b199 P) (.node (b329 P) .nil .nil) .nil) (.node (b265 P) (.node (b395 P) .nil .nil) .nil)) (.node (b165 P) (.node (b231 P) (.node (b363 P) .nil .nil) .nil) (.node (b297 P) (.node (b429 P) .nil .nil) .nil)))
noncomputable def t449_14 : BT := fun P => .node (b62 P) (.node (b84 P) (.node (b122 P) (.node (b191 P) (.node (b321 P) .nil .nil) .nil) (.node (b255 P) (.node (b387 P) .nil .nil) .nil)) (.node (b157 P) (.node (b223 P) (.node (b355 P) .nil .nil) .nil) (.node (b289 P) (.node (b421 P) .nil .nil) .nil))) (.node (b103 P) (.node (b141 P) (.node (b207 P) (.node (b339 P) .nil .nil) .nil) (.node (b273 P) (.node (b403 P) .nil .nil) .nil)) (.node (b173 P) (.node (b239 P) (.node (b371 P) .nil .nil) .nil) (.node (b305 P) (.node (b437 P) .nil .nil) .nil)))
noncomputable def t449_15 : BT := fun P => .node (b58 P) (.node (b77 P) (.node (b118 P) (.node (b187 P) (.node (b317 P) .nil .nil) (.node (b449 P) .nil .nil)) (.node (b251 P) (.node (b383 P) .nil .nil) .nil)) (.node (b153 P) (.node (b219 P) (.node (b351 P) .nil .nil) .nil) (.node (b285 P) (.node (b417 P) .nil .nil) .nil))) (.node (b99 P) (.node (b137 P) (.node (b203 P) (.node (b335 P) .nil .nil) .nil) (.node (b269 P) (.node (b399 P) .nil .nil) .nil)) (.node (b169 P) (.node (b235 P) (.node (b367 P) .nil .nil) .nil) (.node (b301 P) (.node (b433 P) .nil .nil) .nil)))
noncomputable def t449_16 : BT := fun P => .node (b69 P) (.node (b88 P) (.node (b129 P) (.node (b195 P) (.node (b325 P) .nil .nil) .nil) (.node (b261 P) (.node (b391 P) .nil .nil) .nil)) (.node (b161 P) (.node (b227 P) (.node (b359 P) .nil .nil) .nil) (.node (b293 P) (.node (b425 P) .nil .nil) .nil))) (.node (b107 P) (.node (b145 P) (.node (b211 P) (.node (b343 P) .nil .nil) .nil) (.node (b277 P) (.node (b407 P) .nil .nil) .nil)) (.node (b179 P) (.node (b243 P) (.node (b375 P) .nil .nil) .nil) (.node (b309 P) (.node (b441 P) .nil .nil) .nil)))
noncomputable def tree_449 : BT := fun P => .node (PySem.W.boot_o_0 P) (.node (PySem.W.boot_o_1 P) (.node (b408 P) (.node (PySem.W.boot_o_7 P) (t449_1 P) (t449_2 P)) (.node (b43 P) (t449_3 P) (t449_4 P))) (.node (PySem.W.boot_o_5 P) (.node (PySem.W.boot_o_9 P) (t449_5 P) (t449_6 P)) (.node (b45 P) (t449_7 P) (t449_8 P)))) (.node (PySem.W.boot_o_2 P) (.node (PySem.W.boot_o_4 P) (.node (PySem.W.boot_o_8 P) (t449_9 P) (t449_10 P)) (.node (b409 P) (t449_11 P) (t449_12 P))) (.node (PySem.W.boot_o_6 P) (.node (PySem.W.boot_o_10 P) (t449_13 P) (t449_14 P)) (.node (b46 P) (t449_15 P) (t449_16 P))))
noncomputable def h450_24 : PySem.Params → List PySem.Obj := fun P => b443 P :: b444 P :: b445 P :: b446 P :: b447 P :: b448 P :: b449 P :: []
noncomputable def h450_23 : PySem.Params → List PySem.Obj := fun P => b427 P :: b428 P :: b429 P :: b430 P :: b431 P :: b432 P :: b433 P :: b434 P :: b435 P :: b436 P :: b437 P :: b438 P :: b439 P :: b440 P :: b441 P :: b442 P :: h450_24 P
noncomputable def h450_22 : PySem.Params → List PySem.Obj := fun P => b411 P :: b412 P :: b413 P :: b414 P :: b415 P :: b416 P :: b417 P :: b418 P :: b419 P :: b420 P :: b421 P :: b422 P :: b423 P :: b424 P :: b425 P :: b426 P :: h450_23 P
noncomputable def h450_21 : PySem.Params → List PySem.Obj := fun P => b393 P :: b394 P :: b395 P :: b396 P :: b397 P :: b398 P :: b399 P :: b400 P :: b401 P :: b402 P :: b403 P :: b404 P :: b405 P :: b406 P :: b407 P :: b410 P :: h450_22 P
noncomputable def h450_20 : PySem.Params → List PySem.Obj := fun P => b377 P :: b378 P :: b379 P :: b380 P :: b381 P :: b382 P :: b383 P :: b384 P :: b385 P :: b386 P :: b387 P :: b388 P :: b389 P :: b390 P :: b391 P :: b392 P :: h450_21 P
noncomputable def h450_19 : PySem.Params → List PySem.Obj := fun P => b361 P :: b362 P :: b363 P :: b364 P :: b365 P :: b366 P :: b367 P :: b368 P :: b369 P :: b370 P :: b371 P :: b372 P :: b373 P :: b374 P :: b375 P :: b376 P :: h450_20 P
noncomputable def h450_18 : PySem.Params → List PySem.Obj := fun P => b345 P :: b346 P :: b347 P :: b348 P :: b349 P :: b350 P :: b351 P :: b352 P :: b353 P :: b354 P :: b355 P :: b356 P :: b357 P :: b358 P :: b359 P :: b360 P :: h450_19 P
noncomputable def h450_17 : PySem.Params → List PySem.Obj := fun P => b327 P :: b328 P :: b329 P :: b330 P :: b331 P :: b332 P :: b335 P :: b336 P :: b337 P :: b338 P :: b339 P :: b340 P :: b341 P :: b342 P :: b343 P :: b344 P :: h450_18 P
noncomputable def h450_16 : PySem.Params → List PySem.Obj := fun P => b311 P :: b312 P :: b313 P :: b314 P :: b315 P :: b316 P :: b317 P :: b318 P :: b319 P :: b320 P :: b321 P :: b322 P :: b323 P :: b324 P :: b325 P :: b326 P :: h450_17 P
noncomputable def h450_15 : PySem.Params → List PySem.Obj := fun P => b295 P :: b296 P :: b297 P :: b298 P :: b299 P :: b300 P :: b301 P :: b302 P :: b303 P :: b304 P :: b305 P :: b306 P :: b307 P :: b308 P :: b309 P :: b310 P :: h450_16 P
noncomputable def h450_14 : PySem.Params → List PySem.Obj := fun P => b279 P :: b280 P :: b281 P :: b282 P :: b283 P :: b284 P :: b285 P :: b286 P :: b287 P :: b288 P :: b289 P :: b290 P :: b291 P :: b292 P :: b293 P :: b294 P :: h450_15 P
noncomputable def h450_13 : PySem.Params → List PySem.Obj := fun P => b263 P :: b264 P :: b265 P :: b266 P :: b267 P :: b268 P :: b269 P :: b270 P :: b271 P :: b272 P :: b273 P :: b274 P :: b275 P :: b276 P :: b277 P :: b278 P :: h450_14 P
noncomputable def h450_12 : PySem.Params → List PySem.Obj := fun P => b245 P :: b246 P :: b247 P :: b248 P :: b249 P :: b250 P :: b251 P :: b252 P :: b253 P :: b254 P :: b255 P :: b256 P :: b257 P :: b260 P :: b261 P :: b262 P :: h450_13 P
noncomputable def h450_11 : PySem.Params → List PySem.Obj := fun P => b229 P :: b230 P :: b231 P :: b232 P :: b233 P :: b234 P :: b235 P :: b236 P :: b237 P :: b238 P :: b239 P :: b240 P :: b241 P :: b242 P :: b243 P :: b244 P :: h450_12 P
noncomputable def h450_10 : PySem.Params → List PySem.Obj := fun P => b213 P :: b214 P :: b215 P :: b216 P :: b217 P :: b218 P :: b219 P :: b220 P :: b221 P :: b222 P :: b223 P :: b224 P :: b225 P :: b226 P :: b227 P :: b228 P :: h450_11 P
noncomputable def h450_9 : PySem.Params → List PySem.Obj := fun P => b197 P :: b198 P :: b199 P :: b200 P :: b201 P :: b202 P :: b203 P :: b204 P :: b205 P :: b206 P :: b207 P :: b208 P :: b209 P :: b210 P :: b211 P :: b212 P :: h450_10 P
noncomputable def h450_8 : PySem.Params → List PySem.Obj := fun P => b181 P :: b182 P :: b183 P :: b184 P :: b185 P :: b186 P :: b187 P :: b188 P :: b189 P :: b190 P :: b191 P :: b192 P :: b193 P :: b194 P :: b195 P :: b196 P :: h450_9 P
noncomputable def h450_7 : PySem.Params → List PySem.Obj := fun P => b163 P :: b164 P :: b165 P :: b166 P :: b167 P :: b168 P :: b169 P :: b170 P :: b171 P :: b172 P :: b173 P :: b176 P :: b177 P :: b178 P :: b179 P :: b180 P :: h450_8 P
noncomputable def h450_6 : PySem.Params → List PySem.Obj := fun P => b147 P :: b148 P :: b149 P :: b150 P :: b151 P :: b152 P :: b153 P :: b154 P :: b155 P :: b156 P :: b157 P :: b158 P :: b159 P :: b160 P :: b161 P :: b162 P :: h450_7 P
noncomputable def h450_5 : PySem.Params → List PySem.Obj := fun P => b131 P :: b132 P :: b133 P :: b134 P :: b135 P :: b136 P :: b137 P :: b138 P :: b139 P :: b140 P :: b141 P :: b142 P :: b143 P :: b144 P :: b145 P :: b146 P :: h450_6 P
noncomputable def h450_4 : PySem.Params → List PySem.Obj := fun P => b112 P :: b113 P :: b114 P :: b115 P :: b116 P :: b117 P :: b118 P :: b119 P :: b120 P :: b121 P :: b122 P :: b123 P :: b127 P :: b128 P :: b129 P :: b130 P :: h450_5 P
noncomputable def h450_3 : PySem.Params → List PySem.Obj := fun P => b90 P :: b91 P :: b92 P :: b93 P :: b97 P :: b98 P :: b99 P :: b100 P :: b101 P :: b102 P :: b103 P :: b104 P :: b105 P :: b106 P :: b107 P :: b108 P :: h450_4 P
noncomputable def h450_2 : PySem.Params → List PySem.Obj := fun P => b71 P :: b72 P :: b73 P :: b74 P :: b75 P :: b76 P :: b77 P :: b78 P :: b82 P :: b83 P :: b84 P :: b85 P :: b86 P :: b87 P :: b88 P :: b89 P :: h450_3 P
noncomputable def h450_1 : PySem.Params → List PySem.Obj := fun P => b52 P :: b53 P :: b54 P :: b55 P :: b56 P :: b57 P :: b58 P :: b59 P :: b126 P :: b61 P :: b62 P :: b63 P :: b67 P :: b68 P :: b69 P :: b70 P :: h450_2 P
noncomputable def h450_0 : PySem.Params → List PySem.Obj := fun P => PySem.W.boot_o_0 P :: PySem.W.boot_o_1 P :: PySem.W.boot_o_2 P :: b408 P :: PySem.W.boot_o_4 P :: PySem.W.boot_o_5 P :: PySem.W.boot_o_6 P :: PySem.W.boot_o_7 P :: PySem.W.boot_o_8 P :: PySem.W.boot_o_9 P :: PySem.W.boot_o_10 P :: b43 P :: b409 P :: b45 P :: b46 P :: b51 P :: h450_1 P
noncomputable def heap_450 : PySem.Params → PySem.Heap := fun P => ⟨⟨h450_0 P⟩, {}⟩
theorem q_tree_257 : Function.const (PySem.Params → PySem.W.BT) true tree_257 = true := by k_qdec
theorem q_tree_332 : Function.const (PySem.Params → PySem.W.BT) true tree_332 = true := by k_qdec
theorem q_tree_407 : Function.const (PySem.Params → PySem.W.BT) true tree_407 = true := by k_qdec
theorem q_tree_449 : Function.const (PySem.Params → PySem.W.BT) true tree_449 = true := by k_qdec
theorem q_heap_450 : Function.const (PySem.Params → PySem.Heap) true heap_450 = true := by k_qdec
end Tb
noncomputable def PySem.W.Fast.tw12845683735333253314 : PySem.Params → PySem.W.BT := PySem.W.Fast.tw11307746088539521085
theorem PySem.W.Fast.te12845683735333253314 : Tb.tree_257 = PySem.W.Fast.tw12845683735333253314 := PySem.W.Fast.te11307746088539521085
noncomputable def PySem.W.Fast.tw2649520810157800816 : PySem.Params → PySem.W.BT := PySem.W.Fast.tw13149683802149371711
theorem PySem.W.Fast.te2649520810157800816 : Tb.tree_332 = PySem.W.Fast.tw2649520810157800816 := PySem.W.Fast.te13149683802149371711
noncomputable def PySem.W.Fast.tw4371107914704402337 : PySem.Params → PySem.W.BT := PySem.W.Fast.tw4802452072704914822
theorem PySem.W.Fast.te4371107914704402337 : Tb.tree_407 = PySem.W.Fast.tw4371107914704402337 := PySem.W.Fast.te4802452072704914822
noncomputable def PySem.W.Fast.tw10993186219121757552 : PySem.Params → PySem.W.BT := PySem.W.Fast.tw11115757211013967679
theorem PySem.W.Fast.te10993186219121757552 : Tb.tree_449 = PySem.W.Fast.tw10993186219121757552 := PySem.W.Fast.te11115757211013967679
noncomputable def PySem.W.Fast.tw6127846178459692284 : PySem.Params → PySem.Heap := PySem.W.Fast.tw7908114951587238059
theorem PySem.W.Fast.te6127846178459692284 : Tb.heap_450 = PySem.W.Fast.tw6127846178459692284 := PySem.W.Fast.te7908114951587238059
noncomputable def PySem.W.Fast.tw1867978078465237436 : Nat := 0
theorem PySem.W.Fast.te1867978078465237436 : True := trivial
open PySem PySem.W PyProof.Rows
set_option maxRecDepth 100000 in
set_option maxHeartbeats 0 in
theorem PySem.Challenge.cw_topslip_k08_refused_holds : PySem.Challenge.rw_topslip_k08_refused.Holds := by
  w_on; o_law; k_head; (case hw => w_witness2)
  k_fill
  refine Ts.walk (l := PySem.Challenge.rw_topslip_k08_refused) rfl rfl (fun w h Y => PySem.W.kIn_of Y) ?F
  case F =>
    intro w mg fa h KX G hmg
    refine' Ts.all_mk KX G hmg PySem.F.excBase_ValueError ?a1 ?l1 ?c1 ?k1 ?a2 ?l2 ?c2 ?k2 ?a3 ?l3 ?c3 ?k3 ?a4 ?l4 ?c4 ?k4 ?a5 ?l5 ?c5 ?k5 ?a6 ?l6 ?c6 ?k6 ?a7 ?l7 ?c7 ?k7 ?a8 ?l8 ?c8 ?k8 ?a9 ?l9 ?c9 ?k9 ?a10 ?l10 ?c10 ?k10 ?a11 ?l11 ?c11 ?k11 ?a12 ?l12 ?c12 ?k12 ?a13 ?l13 ?c13 ?k13 ?a14 ?l14 ?c14 ?k14 ?a15 ?l15 ?c15 ?k15 ?a16 ?l16 ?c16 ?k16 ?a17 ?l17 ?c17 ?k17 ?a18 ?l18 ?c18 ?k18 ?a19 ?l19 ?c19 ?k19 ?a20 ?l20 ?c20 ?k20 ?a21 ?l21 ?c21 ?k21 ?a22 ?l22 ?c22 ?k22 ?a23 ?l23 ?c23 ?k23 ?a24 ?l24 ?c24 ?k24 ?a25 ?l25 ?c25 ?k25 ?a26 ?l26 ?c26 ?k26 ?a27 ?l27 ?c27 ?k27 ?a28 ?l28 ?c28 ?k28 ?a29 ?l29 ?c29 ?k29 ?a30 ?l30 ?c30 ?k30 ?a31 ?l31 ?c31 ?k31 ?a32 ?l32 ?c32 ?k32 ?a33 ?l33 ?c33 ?k33 ?a34 ?l34 ?c34 ?k34 ?a35 ?l35 ?c35 ?k35 ?a36 ?l36 ?c36 ?k36 ?a37 ?l37 ?c37 ?k37 ?a38 ?l38 ?c38 ?k38 ?a39 ?l39 ?c39 ?k39 ?a40 ?l40 ?c40 ?k40 ?a41 ?l41 ?c41 ?k41 ?a42 ?l42 ?c42 ?k42 ?a43 ?l43 ?c43 ?k43 ?a44 ?l44 ?c44 ?k44 ?a45 ?l45 ?c45 ?k45 ?e1 ?q1 ?e2 ?q2 ?e3 ?q3 ?e4 ?q4 ?e5 ?q5 ?xc1 ?xt1 ?xg1 ?xr1 ?xf1 ?xo1 ?xb1 ?xs1 ?xl1 ?xv1 ?xx11 ?xx12 ?xx13 ?xx14 ?xx15 ?xc2 ?xt2 ?xg2 ?xr2 ?xf2 ?xo2 ?xb2 ?xs2 ?xl2 ?xv2 ?xx21 ?xx22 ?xx23 ?xx24 ?xx25 ?xc3 ?xt3 ?xg3 ?xr3 ?xf3 ?xo3 ?xb3 ?xs3 ?xl3 ?xv3 ?xx31 ?xx32 ?xx33 ?xx34 ?xx35 ?xc4 ?xt4 ?xg4 ?xr4 ?xf4 ?xo4 ?xb4 ?xs4 ?xl4 ?xv4 ?xx41 ?xx42 ?xx43 ?xx44 ?xx45 ?xc5 ?xt5 ?xg5 ?xr5 ?xf5 ?xo5 ?xb5 ?xs5 ?xl5 ?xv5 ?xx51 ?xx52 ?xx53 ?xx54 ?xx55 ?eS ?xcS ?xtS ?xsS ?xsg ?xtk ?g1 ?z1 ?z2 ?z3 ?z4 ?z5 ?z6 ?z7 ?z8 ?z9 ?z10 ?z11 ?z12 ?z13 ?z14 ?z15 ?z16
    (case a1 => k_is); (case l1 => k_is); (case c1 => k_is); (case k1 => k_is)
    (case a2 => k_is); (case l2 => k_is); (case c2 => k_is); (case k2 => k_is)
    (case a3 => k_is); (case l3 => k_is); (case c3 => k_is); (case k3 => k_is)
    (case a4 => k_is); (case l4 => k_is); (case c4 => k_is); (case k4 => k_is)
    (case a5 => k_is); (case l5 => k_is); (case c5 => k_is); (case k5 => k_is)
    (case a6 => k_is); (case l6 => k_is); (case c6 => k_is); (case k6 => k_is)
    (case a7 => k_is); (case l7 => k_is); (case c7 => k_is); (case k7 => k_is)
    (case a8 => k_is); (case l8 => k_is); (case c8 => k_is); (case k8 => k_is)
    (case a9 => k_is); (case l9 => k_is); (case c9 => k_is); (case k9 => k_is)
    (case a10 => k_is); (case l10 => k_is); (case c10 => k_is); (case k10 => k_is)
    (case a11 => k_is); (case l11 => k_is); (case c11 => k_is); (case k11 => k_is)
    (case a12 => k_is); (case l12 => k_is); (case c12 => k_is); (case k12 => k_is)
    (case a13 => k_is); (case l13 => k_is); (case c13 => k_is); (case k13 => k_is)
    (case a14 => k_is); (case l14 => k_is); (case c14 => k_is); (case k14 => k_is)
    (case a15 => k_is); (case l15 => k_is); (case c15 => k_is); (case k15 => k_is)
    (case a16 => k_is); (case l16 => k_is); (case c16 => k_is); (case k16 => k_is)
    (case a17 => k_is); (case l17 => k_is); (case c17 => k_is); (case k17 => k_is)
    (case a18 => k_is); (case l18 => k_is); (case c18 => k_is); (case k18 => k_is)
    (case a19 => k_is); (case l19 => k_is); (case c19 => k_is); (case k19 => k_is)
    (case a20 => k_is); (case l20 => k_is); (case c20 => k_is); (case k20 => k_is)
    (case a21 => k_is); (case l21 => k_is); (case c21 => k_is); (case k21 => k_is)
    (case a22 => k_is); (case l22 => k_is); (case c22 => k_is); (case k22 => k_is)
    (case a23 => k_is); (case l23 => k_is); (case c23 => k_is); (case k23 => k_is)
    (case a24 => k_is); (case l24 => k_is); (case c24 => k_is); (case k24 => k_is)
    (case a25 => k_is); (case l25 => k_is); (case c25 => k_is); (case k25 => k_is)
    (case a26 => k_is); (case l26 => k_is); (case c26 => k_is); (case k26 => k_is)
    (case a27 => k_is); (case l27 => k_is); (case c27 => k_is); (case k27 => k_is)
    (case a28 => k_is); (case l28 => k_is); (case c28 => k_is); (case k28 => k_is)
    (case a29 => k_is); (case l29 => k_is); (case c29 => k_is); (case k29 => k_is)
    (case a30 => k_is); (case l30 => k_is); (case c30 => k_is); (case k30 => k_is)
    (case a31 => k_is); (case l31 => k_is); (case c31 => k_is); (case k31 => k_is)
    (case a32 => k_is); (case l32 => k_is); (case c32 => k_is); (case k32 => k_is)
    (case a33 => k_is); (case l33 => k_is); (case c33 => k_is); (case k33 => k_is)
    (case a34 => k_is); (case l34 => k_is); (case c34 => k_is); (case k34 => k_is)
    (case a35 => k_is); (case l35 => k_is); (case c35 => k_is); (case k35 => k_is)
    (case a36 => k_is); (case l36 => k_is); (case c36 => k_is); (case k36 => k_is)
    (case a37 => k_is); (case l37 => k_is); (case c37 => k_is); (case k37 => k_is)
    (case a38 => k_is); (case l38 => k_is); (case c38 => k_is); (case k38 => k_is)
    (case a39 => k_is); (case l39 => k_is); (case c39 => k_is); (case k39 => k_is)
    (case a40 => k_is); (case l40 => k_is); (case c40 => k_is); (case k40 => k_is)
    (case a41 => k_is); (case l41 => k_is); (case c41 => k_is); (case k41 => k_is)
    (case a42 => k_is); (case l42 => k_is); (case c42 => k_is); (case k42 => k_is)
    (case a43 => k_is); (case l43 => k_is); (case c43 => k_is); (case k43 => k_is)
    (case a44 => k_is); (case l44 => k_is); (case c44 => k_is); (case k44 => k_is)
    (case a45 => k_is); (case l45 => k_is); (case c45 => k_is); (case k45 => k_is)
    (case e1 => k_is); (case q1 => k_exc)
    (case e2 => k_is); (case q2 => k_exc)
    (case e3 => k_is); (case q3 => k_exc)
    (case e4 => k_is); (case q4 => k_exc)
    (case e5 => k_is); (case q5 => k_exc)
    (case eS => k_is)
    (case xc1 => k_is)
    (case xt1 => k_is)
    (case xg1 => k_is)
    (case xr1 => k_is)
    (case xf1 => k_is)
    (case xo1 => k_is)
    (case xb1 => k_is)
    (case xs1 => k_is)
    (case xl1 => k_is)
    (case xv1 => k_is)
    (case xx11 => k_is)
    (case xx12 => k_is)
    (case xx13 => k_is)
    (case xx14 => k_is)
    (case xx15 => k_is)
    (case xc2 => k_is)
    (case xt2 => k_is)
    (case xg2 => k_is)
    (case xr2 => k_is)
    (case xf2 => k_is)
    (case xo2 => k_is)
    (case xb2 => k_is)
    (case xs2 => k_is)
    (case xl2 => k_is)
    (case xv2 => k_is)
    (case xx21 => k_is)
    (case xx22 => k_is)
    (case xx23 => k_is)
    (case xx24 => k_is)
    (case xx25 => k_is)
    (case xc3 => k_is)
    (case xt3 => k_is)
    (case xg3 => k_is)
    (case xr3 => k_is)
    (case xf3 => k_is)
    (case xo3 => k_is)
    (case xb3 => k_is)
    (case xs3 => k_is)
    (case xl3 => k_is)
    (case xv3 => k_is)
    (case xx31 => k_is)
    (case xx32 => k_is)
    (case xx33 => k_is)
    (case xx34 => k_is)
    (case xx35 => k_is)
    (case xc4 => k_is)
    (case xt4 => k_is)
    (case xg4 => k_is)
    (case xr4 => k_is)
    (case xf4 => k_is)
    (case xo4 => k_is)
    (case xb4 => k_is)
    (case xs4 => k_is)
    (case xl4 => k_is)
    (case xv4 => k_is)
    (case xx41 => k_is)
    (case xx42 => k_is)
    (case xx43 => k_is)
    (case xx44 => k_is)
    (case xx45 => k_is)
    (case xc5 => k_is)
    (case xt5 => k_is)
    (case xg5 => k_is)
    (case xr5 => k_is)
    (case xf5 => k_is)
    (case xo5 => k_is)
    (case xb5 => k_is)
    (case xs5 => k_is)
    (case xl5 => k_is)
    (case xv5 => k_is)
    (case xx51 => k_is)
    (case xx52 => k_is)
    (case xx53 => k_is)
    (case xx54 => k_is)
    (case xx55 => k_is)
    (case xcS => k_is)
    (case xtS => k_is)
    (case xsS => k_is)
    (case xsg => k_is)
    (case xtk => k_is)
    (case g1 => k_is)
    (case z1 => k_is)
    (case z2 => k_is)
    (case z3 => k_is)
    (case z4 => k_is)
    (case z5 => k_is)
    (case z6 => k_is)
    (case z7 => k_is)
    (case z8 => k_is)
    (case z9 => k_is)
    (case z10 => k_is)
    (case z11 => k_is)
    (case z12 => k_is)
    (case z13 => k_is)
    (case z14 => k_is)
    (case z15 => k_is)
    (case z16 => k_is)
