import PyProof.Rows.All
import Wide.All
import OpenK.AllK
import Wide.FinOn
import PyProof.EqAt
import PyProof.EqKinds
import PyProof.TupleCall
import KE.BitLaws
import Open.SpecLaws
import KE.OsHead
import KE.OsGo
import PySem.Challenge.RW_oneorder_s01_answers
set_option Elab.async false
set_option linter.all false
set_option maxRecDepth 100000
set_option maxHeartbeats 4000000
/-! THE HAND LAYER, for ints, bools, texts, own classes, lists, tuples, dicts, comprehensions, walks over dicts, enumerate, zip, reversed, texts, calls, loops. Paste it whole ahead of your own text; what your proof does not reach may be deleted. -/
namespace L2
open PySem PySem.Spec PyProof.Rows
/-- a key: an int or a str -/
abbrev Key := Sum Int Str
def keyIs : Key → Value → Bool
  | .inl k, v => Value.isInt k v
  | .inr x, v => Value.isStrOf x v
def keyH (w : World) : Key → Int
  | .inl k => hashInt k
  | .inr x => hashStr w x
theorem keyIs_shape : ∀ {k : Key} {v : Value}, keyIs k v = true → (∃ i t, k = Sum.inl i ∧ v = Value.int i t) ∨ (∃ x t, k = Sum.inr x ∧ v = Value.str x t)
  | .inl i, v, h => by
    obtain ⟨t, e⟩ := Value.isInt_shape (k := i) (v := v) h
    exact .inl ⟨i, t, rfl, e⟩
  | .inr x, v, h => by
    obtain ⟨t, e⟩ := Value.isStrOf_shape (x := x) (v := v) h
    exact .inr ⟨x, t, rfl, e⟩
theorem keyIs_int (i : Int) (t : Tok) : keyIs (.inl i) (.int i t) = true := by simp [keyIs, Value.isInt]
theorem keyIs_str (x : Str) (t : Tok) : keyIs (.inr x) (.str x t) = true := by simp [keyIs, Value.isStrOf]
theorem key_ll (a b : Int) : decide ((Sum.inl a : Key) = Sum.inl b) = (a == b) := by
  by_cases e : a = b
  · subst e; simp
  · have h : ¬ (Sum.inl a : Key) = Sum.inl b := fun q => e (Sum.inl.inj q)
    rw [decide_eq_false h]
    exact (beq_eq_false_iff_ne.mpr e).symm
theorem key_rr (a b : Str) : decide ((Sum.inr a : Key) = Sum.inr b) = decide (a = b) := by
  by_cases e : a = b
  · subst e; simp
  · have h : ¬ (Sum.inr a : Key) = Sum.inr b := fun q => e (Sum.inr.inj q)
    rw [decide_eq_false h, decide_eq_false e]
theorem key_lr (a : Int) (b : Str) : decide ((Sum.inl a : Key) = Sum.inr b) = false := decide_eq_false (fun q => nomatch q)
theorem key_rl (a : Str) (b : Int) : decide ((Sum.inr a : Key) = Sum.inl b) = false := decide_eq_false (fun q => nomatch q)
def mixKind (prog : Program) (w : World) : PySem.KeyKind prog w Key where
  is := keyIs
  hash := keyH w
  inj := fun v a b ha hb => by
    rcases keyIs_shape ha with ⟨i, t, rfl, rfl⟩ | ⟨x, t, rfl, rfl⟩
    · rcases keyIs_shape hb with ⟨j, u, rfl, e⟩ | ⟨y, u, rfl, e⟩
      · injection e with e1 _; rw [e1]
      · exact nomatch e
    · rcases keyIs_shape hb with ⟨j, u, rfl, e⟩ | ⟨y, u, rfl, e⟩
      · exact nomatch e
      · injection e with e1 _; rw [e1]
  byValue := fun k v h => by
    rcases keyIs_shape h with ⟨i, t, rfl, rfl⟩ | ⟨x, t, rfl, rfl⟩ <;> rfl
  pyHash := fun hv h => by
    rcases keyIs_shape hv with ⟨i, t, rfl, rfl⟩ | ⟨x, t, rfl, rfl⟩
    · exact wpAny_pyHash_int h
    · exact wpAny_pyHash_str h
  eqBool := fun hu hv h => by
    rcases keyIs_shape hu with ⟨i, t, rfl, rfl⟩ | ⟨x, t, rfl, rfl⟩
    · rcases keyIs_shape hv with ⟨j, u, rfl, rfl⟩ | ⟨y, u, rfl, rfl⟩
      · rw [key_ll] at h; exact wpAny_eqBool_int h
      · rw [key_lr] at h; exact SeqAt.EqAt.int_str i t y u _ _ _ _ h
    · rcases keyIs_shape hv with ⟨j, u, rfl, rfl⟩ | ⟨y, u, rfl, rfl⟩
      · rw [key_rl] at h; exact SeqAt.EqAt.str_int x t j u _ _ _ _ h
      · rw [key_rr] at h; exact wpAny_eqBool_str h
  «strs» := fun k x t v h => by
    rcases keyIs_shape h with ⟨i, u, rfl, e⟩ | ⟨y, u, rfl, e⟩
    · exact nomatch e
    · injection e with e1 _
      subst e1
      cases v <;> rfl
theorem mixKind_int (prog : Program) (w : World) (i : Int) (t : Tok) : (mixKind prog w).is (.inl i) (.int i t) = true := keyIs_int i t
theorem mixKind_str (prog : Program) (w : World) (x : Str) (t : Tok) : (mixKind prog w).is (.inr x) (.str x t) = true := keyIs_str x t
end L2
namespace L2
open PySem PySem.Spec PyProof.Rows
/-- a value, without the heap -/
inductive V where
  | non | bl (b : Bool) | int (i : Int) | str (x : Str) | byt (b : Array UInt8) | flt (b : UInt64) | ref (a : Addr) | ty (n : String)
  deriving DecidableEq
def RelV : V → Value → Prop
  | .non, u => u = Value.none
  | .bl b, u => u = Value.bool b
  | .int i, u => ∃ t, u = Value.int i t
  | .str x, u => ∃ t, u = Value.str x t
  | .byt b, u => ∃ t, u = Value.bytes b t
  | .flt b, u => ∃ t, u = Value.float b t
  | .ref a, u => u = Value.ref a
  | .ty n, u => u = Value.type n
abbrev Vals : List V → List Value → Prop := Paired RelV
theorem Vals.length {xs : List V} {us : List Value} (r : Vals xs us) : xs.length = us.length := Paired.length r
theorem Vals.get : ∀ {xs : List V} {us : List Value} {i : Nat} {x : V}, Vals xs us → xs[i]? = some x → ∃ u, us[i]? = some u ∧ RelV x u
  | _, _, _, _, .nil, e => by simp at e
  | _, _, 0, _, .cons r _, e => by simp at e; subst e; exact ⟨_, rfl, r⟩
  | _, _, i + 1, x, .cons _ t, e => by
    obtain ⟨u, h1, h2⟩ := Vals.get (i := i) (x := x) t (by simpa using e)
    exact ⟨u, by simpa using h1, h2⟩
theorem Vals.set {x : V} {u : Value} (r : RelV x u) : ∀ {xs : List V} {us : List Value} (i : Nat), Vals xs us → Vals (xs.set i x) (us.set i u)
  | _, _, _, .nil => .nil
  | _, _, 0, .cons _ t => .cons r t
  | _, _, i + 1, .cons q t => .cons q (Vals.set r i t)
theorem Vals.append : ∀ {xs ys : List V} {us ws : List Value}, Vals xs us → Vals ys ws → Vals (xs ++ ys) (us ++ ws)
  | _, _, _, _, .nil, s => s
  | _, _, _, _, .cons r t, s => .cons r (Vals.append t s)
theorem Vals.take : ∀ {xs : List V} {us : List Value} (n : Nat), Vals xs us → Vals (xs.take n) (us.take n)
  | _, _, 0, _ => .nil
  | _, _, _ + 1, .nil => .nil
  | _, _, n + 1, .cons r t => .cons r (Vals.take n t)
theorem Vals.drop : ∀ {xs : List V} {us : List Value} (n : Nat), Vals xs us → Vals (xs.drop n) (us.drop n)
  | _, _, 0, r => r
  | _, _, _ + 1, .nil => .nil
  | _, _, n + 1, .cons _ t => Vals.drop n t
def RelO : Option V → Option Value → Prop
  | some v, some u => RelV v u
  | none, none => True
  | _, _ => False
def KV {κ : Type} : List (κ × V) → List (κ × Value) → Prop := Paired fun (p : κ × V) (q : κ × Value) => p.1 = q.1 ∧ RelV p.2 q.2
/-- a key of a dict (00_mix): an int or a text -/
def kV : Key → V
  | .inl i => .int i
  | .inr x => .str x
/-- what stands at a tracked address -/
inductive HO where
  /-- a list -/
  | lst (xs : List V)
  /-- a tuple (never changes) -/
  | tup (xs : List V)
  /-- a dict whose keys are ints and texts; one whose keys are tuples of ints and texts (the empty one is both) -/
  | dK (kvs : List (Key × V)) | dT (kvs : List (List Key × V))
  /-- a set of ints: its members, its size -/
  | set (S : Int → Bool) (n : Nat)
  /-- an instance of the class at C, its dict at dx, its attributes -/
  | ins (C dx : Addr) (fs : List (Str × V))
  /-- the dict of the instance at x -/
  | own (x : Addr)
  /-- the dict of an exception -/
  | xd (fs : List (Str × V))
  /-- a bound method, f of x -/
  | met (f x : Addr)
  /-- a range object lo, lo + 1, .. below hi -/
  | rng (lo hi : Int)
  /-- a thing that is known to the object (the script; a dict while a loop walks it): read, never written while it is so -/
  | frz (o : Obj) (u : HO)
  /-- a code object's table -/
  | tbl (ps : Array Value)
  /-- any other thing, by what is true of its one object (a def of one's own: SetO a S n := HO.ext fun h => ..) -/
  | ext (φ : Heap → Prop)
abbrev Hp := Addr → Option HO
def upd (H : Hp) (a : Addr) (o : HO) : Hp := fun b => if b = a then some o else H b
theorem upd_same {H : Hp} {a : Addr} {o : HO} : upd H a o a = some o := by unfold upd; rw [if_pos rfl]
theorem upd_ne {H : Hp} {a b : Addr} {o : HO} (h : b ≠ a) : upd H a o b = H b := by unfold upd; rw [if_neg h]
/-- two objects of different content stand apart -/
theorem ne_of {H : Hp} {a b : Addr} {o u : HO} (h : H a = some o) (h' : H b = some u) (d : o ≠ u) : a ≠ b := by
  intro e; subst e; rw [h] at h'; exact d (Option.some.inj h')
theorem ne_of_none {H : Hp} {a b : Addr} {o : HO} (h : H a = some o) (h' : H b = none) : a ≠ b := by
  intro e; subst e; rw [h] at h'; cases h'
section
variable (P : Program) (w : World)
def ObjOk (H : Hp) (h : Heap) (a : Addr) : HO → Prop
  | .lst xs => xs.length ≤ sizeLine ∧ ∃ (its : List Value) (n : Nat), Vals xs its ∧ h.get? a = some { cls := .type "list", data := .seq its.toArray n }
  | .tup xs => xs.length ≤ sizeLine ∧ ∃ its : List Value, Vals xs its ∧ IsTup h a its.toArray
  | .dK kvs => kvs.length ≤ sizeLine ∧ (a == sysModules) = false ∧ ∃ vs, KV kvs vs ∧ h.DictOf (mixKind P w) a vs
  | .dT kvs => kvs.length ≤ sizeLine ∧ (a == sysModules) = false ∧ ∃ xs : List (List Key × Addr × Value),
      Paired (fun (p : List Key × V) (q : List Key × Addr × Value) => p.1 = q.1 ∧ H q.2.1 = some (.tup (p.1.map kV)) ∧ RelV p.2 q.2.2) kvs xs ∧
      ∃ o es ep, h.get? a = some o ∧ o.ExactDict ∧ o.data = .dict es ep ∧ es.toList = xs.map (entryOfKey (tupleKind (mixKind P w))) ∧ (xs.map (·.1)).Nodup
  | .set S n => h.SetOf (intKind P w) a S n
  | .ins C dx fs => H dx = some (.own a) ∧ fs.length ≤ 1000 ∧ dx ≠ a ∧ h.get? a = some (PySem.W.instObj C dx) ∧
      ∃ mA, h.Ns1 dx mA ∧ (∀ f, RelO (fs.lookup f) (mA f)) ∧ PySem.Within mA (fs.map (·.1))
  | .own _ => ∃ o, h.get? a = some o
  | .xd fs => ∃ mA, h.Ns1 a mA ∧ ∀ f, RelO (fs.lookup f) (mA f)
  | .rng lo hi => ∃ t u v, h.get? a = some { cls := .type "range", data := .fields #[.int lo t, .int hi u, .int 1 v] }
  | .frz o u => h.get? a = some o ∧ ObjOk H h a u
  | .tbl ps => h.get? a = some { cls := .none, data := .fields ps }
  | .met f x => h.get? a = some (PySem.W.methodObj (.ref f) (.ref x))
  | .ext φ => φ h ∧ (∃ o, h.get? a = some o) ∧ ∀ h1 h2 : Heap, φ h1 → (∀ o, h1.get? a = some o → h2.get? a = some o) → φ h2
/-- the abstract heap is held -/
def HOk (H : Hp) (h : Heap) : Prop := ∀ a o, H a = some o → ObjOk P w H h a o
end
section
variable {P : Program} {w : World} {H H' : Hp} {h h' : Heap} {a : Addr} {o : HO}
theorem ObjOk.lt (x : ObjOk P w H h a o) : a < h.objs.size := by
  cases o with
  | lst xs => obtain ⟨_, _, _, _, e⟩ := x; exact Heap.lt_size e
  | tup xs => obtain ⟨_, _, _, p⟩ := x; exact p.lt
  | dK kvs => obtain ⟨_, _, _, _, o, _, _, e, _⟩ := x; exact Heap.lt_size e
  | dT kvs => obtain ⟨_, _, _, _, o, _, _, e, _⟩ := x; exact Heap.lt_size e
  | set S n => obtain ⟨o, _, _, _, e, _⟩ := x; exact Heap.lt_size e
  | ins C dx fs => obtain ⟨_, _, _, e, _⟩ := x; exact Heap.lt_size e
  | own y => obtain ⟨_, e⟩ := x; exact Heap.lt_size e
  | xd fs => obtain ⟨_, ⟨_, _, _, e, _⟩, _⟩ := x; exact Heap.lt_size e
  | rng lo hi => obtain ⟨_, _, _, e⟩ := x; exact Heap.lt_size e
  | frz ob u => obtain ⟨e, _⟩ := x; exact Heap.lt_size e
  | tbl ps => exact Heap.lt_size (show h.get? a = some _ from x)
  | met f y => exact Heap.lt_size (show h.get? a = some _ from x)
  | ext φ => obtain ⟨_, ⟨_, e⟩, _⟩ := x; exact Heap.lt_size e
theorem Paired.mapP {α β : Type} {F G : α → β → Prop} : ∀ {l₁ : List α} {l₂ : List β}, Paired F l₁ l₂ → (∀ a b, F a b → G a b) → Paired G l₁ l₂
  | _, _, .nil, _ => .nil
  | _, _, .cons r t, f => .cons (f _ _ r) (Paired.mapP t f)
/-- what an object's description leans on: its own object, its own dict, the tuples -/
theorem ObjOk.stay (x : ObjOk P w H h a o) (k : ∀ b u, (b = a ∨ H b = some (.own a)) → h.get? b = some u → h'.get? b = some u)
    (ho : ∀ b, H b = some (.own a) → H' b = some (.own a)) (ht : ∀ b xs, H b = some (.tup xs) → H' b = some (.tup xs)) : ObjOk P w H' h' a o := by
  induction o with
  | lst xs => obtain ⟨z, its, n, r, e⟩ := x; exact ⟨z, its, n, r, k _ _ (.inl rfl) e⟩
  | tup xs => obtain ⟨z, its, r, ob, e, c⟩ := x; exact ⟨z, its, r, ob, k _ _ (.inl rfl) e, c⟩
  | dK kvs => obtain ⟨z, y, vs, r, ob, es, ep, e, c⟩ := x; exact ⟨z, y, vs, r, ob, es, ep, k _ _ (.inl rfl) e, c⟩
  | dT kvs =>
    obtain ⟨z, y, xs, r, ob, es, ep, e, c⟩ := x
    exact ⟨z, y, xs, Paired.mapP r fun p q z => ⟨z.1, ht _ _ z.2.1, z.2.2⟩, ob, es, ep, k _ _ (.inl rfl) e, c⟩
  | set S n => obtain ⟨ob, es, ep, t, e, c⟩ := x; exact ⟨ob, es, ep, t, k _ _ (.inl rfl) e, c⟩
  | ins C dx fs =>
    obtain ⟨d, z, ne, e, mA, ⟨od, es, ep, e2, c⟩, r⟩ := x
    exact ⟨ho _ d, z, ne, k _ _ (.inl rfl) e, mA, ⟨od, es, ep, k _ _ (.inr d) e2, c⟩, r⟩
  | own y => obtain ⟨ob, e⟩ := x; exact ⟨ob, k _ _ (.inl rfl) e⟩
  | xd fs => obtain ⟨mA, ⟨od, es, ep, e, c⟩, r⟩ := x; exact ⟨mA, ⟨od, es, ep, k _ _ (.inl rfl) e, c⟩, r⟩
  | rng lo hi => obtain ⟨t, u, v, e⟩ := x; exact ⟨t, u, v, k _ _ (.inl rfl) e⟩
  | frz ob u ih => obtain ⟨e, q⟩ := x; exact ⟨k _ _ (.inl rfl) e, ih q⟩
  | tbl ps =>
    have e : h.get? a = some { cls := .none, data := .fields ps } := x
    show h'.get? a = some { cls := .none, data := .fields ps }
    exact k a _ (.inl rfl) e
  | met f y =>
    have e : h.get? a = some (PySem.W.methodObj (.ref f) (.ref y)) := x
    show h'.get? a = some (PySem.W.methodObj (.ref f) (.ref y))
    exact k a _ (.inl rfl) e
  | ext φ => obtain ⟨p, ⟨o, e⟩, st⟩ := x; exact ⟨st _ _ p fun o q => k _ _ (.inl rfl) q, ⟨o, k _ _ (.inl rfl) e⟩, st⟩
theorem HOk.lt (x : HOk P w H h) (e : H a = some o) : a < h.objs.size := (x a o e).lt
theorem HOk.fresh (x : HOk P w H h) (e : h.objs.size ≤ a) : H a = none := by
  cases q : H a with
  | none => rfl
  | some u => exact absurd (Nat.lt_of_lt_of_le (x.lt q) e) (Nat.lt_irrefl _)
/-- every object of the heap is kept -/
theorem HOk.kept (x : HOk P w H h) (k : ∀ b u, h.get? b = some u → h'.get? b = some u) : HOk P w H h' := fun a o e =>
  (x a o e).stay (fun b u _ q => k b u q) (fun _ q => q) fun _ _ q => q
/-- a new object is laid and tracked -/
theorem HOk.laid (x : HOk P w H h) (k : ∀ b u, h.get? b = some u → h'.get? b = some u) (hp : h.objs.size ≤ a) (new : ObjOk P w (upd H a o) h' a o) : HOk P w (upd H a o) h' := fun b u e => by
  have hn := x.fresh hp
  by_cases hb : b = a
  · subst hb; rw [upd_same] at e; cases e; exact new
  · rw [upd_ne hb] at e
    exact (x b u e).stay (fun c v _ q => k c v q) (fun c q => by rw [upd_ne (ne_of_none q hn)]; exact q) fun c xs q => by rw [upd_ne (ne_of_none q hn)]; exact q
end
/-- what may be read as u: it is u, or a known u -/
def Rd (H : Hp) (a : Addr) (u : HO) : Prop := H a = some u ∨ ∃ o, H a = some (.frz o u)
theorem Rd.ok {P : Program} {w : World} {H : Hp} {h : Heap} {a : Addr} {u : HO} (r : Rd H a u) (x : HOk P w H h) : ObjOk P w H h a u := by
  rcases r with r | ⟨o, r⟩
  · exact x a u r
  · obtain ⟨_, q⟩ := x a _ r
    exact q
/-- what may be written -/
def Mut : Option HO → Prop
  | some (.lst _) => True
  | some (.dK _) => True
  | some (.dT _) => True
  | some (.set _ _) => True
  | some (.ins _ _ _) => True
  | some (.ext _) => True
  | _ => False
section
variable {P : Program} {w : World} {H : Hp} {h h' : Heap} {x e : Addr} {o' : HO}
/-- the object at e is changed: x itself, or the dict of the instance x -/
theorem HOk.write (ok : HOk P w H h) (mu : Mut (H x)) (he : e = x ∨ H e = some (.own x)) (k : ∀ b u, b ≠ e → h.get? b = some u → h'.get? b = some u) (heo : ∃ u, h'.get? e = some u)
    (new : ObjOk P w (upd H x o') h' x o') : HOk P w (upd H x o') h' := fun b u q => by
  have nown : ∀ c y, H c = some (.own y) → c ≠ x := fun c y r z => by subst z; rw [r] at mu; exact mu
  have ntup : ∀ c xs, H c = some (.tup xs) → c ≠ x := fun c xs r z => by subst z; rw [r] at mu; exact mu
  by_cases hb : b = x
  · subst hb; rw [upd_same] at q; cases q; exact new
  · rw [upd_ne hb] at q
    by_cases hbe : b = e
    · have q' : H b = some (.own x) := by
        rcases he with z | z
        · exact absurd (hbe.trans z) hb
        · rw [hbe]; exact z
      rw [q] at q'; cases q'
      obtain ⟨v, hv⟩ := heo
      exact ⟨v, by rw [hbe]; exact hv⟩
    · refine (ok b u q).stay (fun c v hc r => k c v ?_ r) (fun c r => by rw [upd_ne (nown c b r)]; exact r) fun c xs r => by rw [upd_ne (ntup c xs r)]; exact r
      rcases hc with rfl | hc
      · exact hbe
      · rintro rfl
        rcases he with z | z
        · exact nown c b hc z
        · rw [hc] at z; cases z; exact hb rfl
end
/-! ### kept unless tracked; of the frames at fs (the callers') the slots may change (an exception that passes writes there); of the records at ex (iterators) nothing is said -/
structure Un (fs ex : List Addr) (H H' : Hp) (h h' : Heap) : Prop where
  keep : ∀ b o, h.get? b = some o → H b = none → b ∉ fs → b ∉ ex → h'.get? b = some o
  slot : ∀ b o, h.get? b = some o → H b = none → b ∈ fs → b ∉ ex → ∃ sl, h'.get? b = some { o with slots := sl }
  free : ∀ b o, h.get? b = some o → H b = none → b ∉ ex → H' b = none
  there : ∀ b o, h.get? b = some o → b ∉ ex → ∃ o', h'.get? b = some o'
  tups : ∀ b xs, H b = some (.tup xs) → H' b = some (.tup xs)
  frzs : ∀ b o u, H b = some (.frz o u) → H' b = some (.frz o u)
  tbls : ∀ b ps, H b = some (.tbl ps) → ∃ more, H' b = some (.tbl (ps ++ more))
section
variable {fs fs' ex ex' : List Addr} {H H1 H2 : Hp} {h h1 h2 h' : Heap} {a x e : Addr} {o : HO}
theorem Un.any (u : Un fs ex H H1 h h1) {b : Addr} {ob : Obj} (q : h.get? b = some ob) (n : H b = none) (hx : b ∉ ex) : ∃ sl, h1.get? b = some { ob with slots := sl } := by
  by_cases hb : b ∈ fs
  · exact u.slot b ob q n hb hx
  · exact ⟨ob.slots, u.keep b ob q n hb hx⟩
theorem Un.kept (k : ∀ b u, h.get? b = some u → h'.get? b = some u) : Un fs ex H H h h' :=
  ⟨fun b ob q _ _ _ => k b ob q, fun b ob q _ _ _ => ⟨ob.slots, k b ob q⟩, fun _ _ _ n _ => n, fun b ob q _ => ⟨ob, k b ob q⟩, fun _ _ q => q, fun _ _ _ q => q, fun _ ps q => ⟨#[], by rw [q]; simp⟩⟩
theorem Un.refl : Un fs ex H H h h := Un.kept fun _ _ q => q
theorem Un.laid (k : ∀ b u, h.get? b = some u → h'.get? b = some u) (hp : h.objs.size ≤ a) (hn : H a = none) : Un fs ex H (upd H a o) h h' where
  keep := fun b u q _ _ _ => k b u q
  slot := fun b u q _ _ _ => ⟨u.slots, k b u q⟩
  free := fun b u q n _ => by rw [upd_ne (Nat.ne_of_lt (Nat.lt_of_lt_of_le (Heap.lt_size q) hp))]; exact n
  there := fun b u q _ => ⟨u, k b u q⟩
  tups := fun b xs q => by rw [upd_ne (ne_of_none q hn)]; exact q
  frzs := fun b u xs q => by rw [upd_ne (ne_of_none q hn)]; exact q
  tbls := fun b ps q => ⟨#[], by rw [upd_ne (ne_of_none q hn), q]; simp⟩
theorem Un.write (mu : Mut (H x)) (he : e = x ∨ H e = some (.own x)) (k : ∀ b u, b ≠ e → h.get? b = some u → h'.get? b = some u) (heo : ∃ u, h'.get? e = some u) : Un fs ex H (upd H x o) h h' := by
  have hx : ∀ b, H b = none → b ≠ x := fun b n z => by subst z; rw [n] at mu; exact mu
  have hb : ∀ b, H b = none → b ≠ e := fun b n z => by
    subst z
    rcases he with r | r
    · exact hx b n r
    · rw [n] at r; cases r
  have hm : ∀ b u, H b = some u → ¬ Mut (some u) → b ≠ x := fun b u q nm z => by subst z; rw [q] at mu; exact nm mu
  refine ⟨fun b u q n _ _ => k b u (hb b n) q, fun b u q n _ _ => ⟨u.slots, k b u (hb b n) q⟩, fun b u q n _ => by rw [upd_ne (hx b n)]; exact n, fun b u q _ => ?_,
    fun b xs q => by rw [upd_ne (hm b _ q fun z => z)]; exact q, fun b u xs q => by rw [upd_ne (hm b _ q fun z => z)]; exact q, fun b ps q => ⟨#[], by rw [upd_ne (hm b _ q fun z => z), q]; simp⟩⟩
  by_cases hbe : b = e
  · subst hbe; exact heo
  · exact ⟨u, k b u hbe q⟩
end
/-! ### the heap without what is tracked -/
def trk (h : Heap) (H : Hp) : List Addr := (List.range h.objs.size).filter fun a => (H a).isSome
def hidT (h : Heap) (H : Hp) : Heap := PySem.W.hideAll h (trk h H)
theorem hidT_size (h : Heap) (H : Hp) : (hidT h H).objs.size = h.objs.size := PySem.W.hideAll_size _ _
theorem hidT_get {h : Heap} {H : Hp} {b : Addr} {o : Obj} (e : h.get? b = some o) (n : H b = none) : (hidT h H).get? b = some o :=
  PySem.W.hideAll_get _ e fun hm => by
    have q : (H b).isSome = true := (List.mem_filter.mp hm).2
    rw [n] at q; simp at q
theorem of_hidT {h : Heap} {H : Hp} {b : Addr} {o : Obj} (e : (hidT h H).get? b = some o) : h.get? b = some o ∧ H b = none := by
  have e' : h.get? b = some o := PySem.W.of_hideAll (trk h H) e
  refine ⟨e', ?_⟩
  cases q : H b with
  | none => rfl
  | some x =>
    have hm : b ∈ trk h H := List.mem_filter.mpr ⟨List.mem_range.mpr (Heap.lt_size e'), by simp [q]⟩
    have z : (hidT h H).get? b = none := PySem.W.hideAll_none (trk h H) hm
    rw [z] at e; cases e
/-! ### OpenK's ledger, filled with every new object but one -/
end L2
namespace L2
open PySem PySem.Spec PyProof.Rows
/-- the module's facts, over the base: the heap at the law's entry without what is tracked there -/
structure Mod (K : PySem.W.Frag) (mg : Str → Option Value) (base : Heap) : Prop where
  kin : K.In base
  glob : base.Ns mainGlobals mg
  blt : ∃ mb, base.Ns builtinsNs mb ∧ ∀ x : Str, x ≠ "__name__" → mb x = bootBuiltins x
  nolimit : base.NoLimit
/-- the context: a def's body (or a comprehension's block) running. base: fixed through the whole law; s₀, H₀: the entry; outer: the frames whose slots others may change (a def's callers); stack: all frames that run;
   ex: iterators that were made ahead of the entry and are walked here (a comprehension's); fn: the names whose cells were made at the entry (a def: all; a comprehension's block: its own); calm: not within an except suite; pn: pins that every state bears; xe: what is wanted of an exception that leaves the code -/
structure Cx where
  prog : Program
  w : World
  K : PySem.W.Frag
  mg : Str → Option Value
  base : Heap
  A : Around
  N : List Str
  s_0 : Shared
  H_0 : Hp
  env : Env
  outer : List Env
  stack : List Env
  ex : List Addr
  fn : Str → Bool
  calm : Bool
  pn : List (Addr × Obj)
  xe : Value → Shared → Prop
/-- the callers' frames -/
def frs (l : List Env) : List Addr := l.filterMap (·.frame)
abbrev Cx.fs (X : Cx) : List Addr := frs X.outer
def Vis (sc : Scope) (x : Str) : Prop := sc.names.lookup x = some .local ∨ sc.names.lookup x = some .cell ∨ sc.names.lookup x = some .free
def Loc (sc : Scope) (x : Str) : Prop := sc.names.lookup x = some .local ∨ sc.names.lookup x = some .cell
def Look (env : Env) (h : Heap) (m : Str → Option Value) (x : Str) (u : Value) : Prop :=
  (env.kindOf x = some .local ∧ m x = some u) ∨ ((env.kindOf x = some .cell ∨ env.kindOf x = some .free) ∧ ∃ c, env.cells.lookup x = some c ∧ h.IsCell c (some u))
structure Cx.Ok (X : Cx) : Prop where
  mod : Mod X.K X.mg X.base
  kind : X.env.scope.kind = .function
  glob : X.env.globals = mainGlobals
  blt : X.env.builtins = builtinsNs
  above : X.s_0.heap.objs.size ≤ X.env.locals
  inj : ∀ x y c, X.env.cells.lookup x = some c → X.env.cells.lookup y = some c → x = y
  has : ∀ x, (X.env.kindOf x = some .cell ∨ X.env.kindOf x = some .free) → ∃ c, X.env.cells.lookup x = some c
  cab : ∀ x c, X.fn x = true → X.env.cells.lookup x = some c → X.s_0.heap.objs.size ≤ c
  hd : X.calm = true → X.A.handled = none
  frames : X.A.frames = some X.stack
  stk : X.stack = X.outer ∨ (X.stack = X.env :: X.outer ∧ X.env.frame = some X.env.locals)
  exf : ∀ b ∈ X.ex, b ≠ X.env.locals ∧ ∀ x c, X.env.cells.lookup x = some c → c ≠ b
  bs : ∀ b o, X.base.get? b = some o → X.s_0.heap.get? b = some o ∧ X.H_0 b = none
  bsz : X.base.objs.size ≤ X.s_0.heap.objs.size
  noex : ∀ b o, X.base.get? b = some o → b ∉ X.ex
  exfs : ∀ b ∈ X.ex, b ∉ X.fs
  funs : X.s_0.heap.FunFrames X.base X.outer
  frf : ∀ b ∈ X.fs, X.H_0 b = none
structure Inv (X : Cx) (pins : List (Addr × Obj)) (σ : List (Option V)) (H : Hp) (s : Shared) : Prop where
  ok : X.Ok
  os : s.os = X.s_0.os
  bare : AllBare s.gens
  base : Un X.fs X.ex X.H_0 H X.s_0.heap s.heap
  loc : ∃ m, s.heap.Ns X.env.locals m ∧ ∀ (i : Nat) (x : Str) (v : V), X.N[i]? = some x → σ[i]? = some (some v) → Vis X.env.scope x → ∃ u, RelV v u ∧ Look X.env s.heap m x u
  cell : ∀ x c, X.env.cells.lookup x = some c → ∃ v, s.heap.IsCell c v
  free : H X.env.locals = none
  freeC : ∀ x c, X.env.cells.lookup x = some c → H c = none
  pin : ∀ p ∈ X.pn ++ pins, s.heap.get? p.1 = some p.2 ∧ H p.1 = none ∧ p.1 ≠ X.env.locals ∧ p.1 ∉ X.fs ∧ ∀ v, p.2.data ≠ .cell v
  hok : HOk X.prog X.w H s.heap
  len : σ.length = X.N.length
section
variable {X : Cx} {pins : List (Addr × Obj)} {σ : List (Option V)} {H H' : Hp} {s : Shared} {h' : Heap}
theorem Cx.Ok.nofr (ok : X.Ok) {b : Addr} {o : Obj} (e : X.base.get? b = some o) : b ∉ X.fs := fun hb => by
  have := (ok.funs.mem hb).1
  rw [e] at this; cases this
theorem Inv.bs (I : Inv X pins σ H s) : ∀ b o, X.base.get? b = some o → s.heap.get? b = some o ∧ H b = none := fun b o e =>
  ⟨I.base.keep b o (I.ok.bs b o e).1 (I.ok.bs b o e).2 (I.ok.nofr e) (I.ok.noex b o e), I.base.free b o (I.ok.bs b o e).1 (I.ok.bs b o e).2 (I.ok.noex b o e)⟩
theorem Inv.bk (I : Inv X pins σ H s) : ∀ b o, X.base.get? b = some o → s.heap.get? b = some o := fun b o e => (I.bs b o e).1
theorem Inv.mod (I : Inv X pins σ H s) : Mod X.K X.mg X.base := I.ok.mod
theorem Inv.kIn (I : Inv X pins σ H s) : X.K.In s.heap := I.ok.mod.kin.keeps I.bk
theorem Inv.lt (I : Inv X pins σ H s) : X.env.locals < s.heap.objs.size := let ⟨_, hn, _⟩ := I.loc; hn.lt
theorem Inv.sz (I : Inv X pins σ H s) : X.s_0.heap.objs.size ≤ s.heap.objs.size := Nat.le_trans I.ok.above (Nat.le_of_lt I.lt)
theorem Inv.nofs (I : Inv X pins σ H s) {a : Addr} (h : s.heap.objs.size ≤ a) : a ∉ X.fs := fun hb => by
  obtain ⟨_, o, ho, _⟩ := I.ok.funs.mem hb
  exact absurd (Nat.lt_of_lt_of_le (Heap.lt_size ho) (Nat.le_trans I.sz h)) (Nat.lt_irrefl _)
theorem Inv.cne (I : Inv X pins σ H s) : ∀ x c, X.env.cells.lookup x = some c → c ≠ X.env.locals := fun x c e z => by
  obtain ⟨v, o, ho, hd⟩ := I.cell x c e
  obtain ⟨m, ⟨o', es, ep, ho', hd', _⟩, _⟩ := I.loc
  rw [z, ho'] at ho; cases ho; rw [hd'] at hd; cases hd
theorem Inv.funs (I : Inv X pins σ H s) : s.heap.FunFrames X.base X.outer := by
  have all : ∀ (l : List Env), (∀ b ∈ frs l, b ∈ X.fs) → X.s_0.heap.FunFrames X.base l → s.heap.FunFrames X.base l := by
    intro l
    induction l with
    | nil => intro _ _; trivial
    | cons env r ih =>
      intro hs hl
      obtain ⟨hk, ⟨L, o, hf, hn, ho, hd⟩, hr⟩ := hl
      have hL : L ∈ X.fs := hs L (by unfold frs; rw [List.filterMap_cons, hf]; exact List.mem_cons_self)
      obtain ⟨sl, e⟩ := I.base.slot L o ho (I.ok.frf L hL) hL fun z => I.ok.exfs L z hL
      exact ⟨hk, ⟨L, _, hf, hn, e, hd⟩, ih (fun b hb => hs b (by unfold frs; rw [List.filterMap_cons, hf]; exact List.mem_cons_of_mem _ hb)) hr⟩
  exact all X.outer (fun _ hb => hb) I.ok.funs
/-- the frames that run, for a call -/
theorem Inv.stack (I : Inv X pins σ H s) : s.heap.FunFrames X.base X.stack := by
  rcases I.ok.stk with e | ⟨e, hf⟩
  · rw [e]; exact I.funs
  · rw [e]
    obtain ⟨m, hn, _⟩ := I.loc
    refine .cons (by rw [I.ok.kind]; decide) hf hn ?_ I.funs
    exact Heap.get?_none_of_le (Nat.le_trans I.ok.bsz I.ok.above)
theorem Inv.stkSub (I : Inv X pins σ H s) : ∀ b ∈ frs X.stack, b ∈ X.env.locals :: X.fs := fun b hb => by
  rcases I.ok.stk with e | ⟨e, hf⟩
  · rw [e] at hb; exact List.mem_cons_of_mem _ hb
  · rw [e] at hb
    unfold frs at hb
    rw [List.filterMap_cons, hf] at hb
    exact hb
theorem Inv.stkFree (I : Inv X pins σ H s) : ∀ b ∈ frs X.stack, H b = none := fun b hb => by
  rcases List.mem_cons.mp (I.stkSub b hb) with e | hb
  · rw [e]; exact I.free
  · obtain ⟨_, o, ho, _⟩ := I.ok.funs.mem hb
    exact I.base.free b o ho (I.ok.frf b hb) fun z => I.ok.exfs b z hb
/-- THE STEP: the untracked objects but the frame and the records at ch are kept (the callers' frames up to slots), the frame's map is kept, the new abstract heap is held -/
theorem Inv.step {g' : Array GenState} {t' : Nat} {d' : Drawn} {ch : List Addr} (I : Inv X pins σ H s)
    (hch : ∀ b ∈ ch, (b ∈ X.ex ∨ X.s_0.heap.objs.size ≤ b) ∧ b ≠ X.env.locals ∧ (∀ x c, X.env.cells.lookup x = some c → c ≠ b) ∧ ∀ p ∈ X.pn ++ pins, p.1 ≠ b)
    (keep : ∀ b o, b ≠ X.env.locals → b ∉ X.fs → b ∉ ch → s.heap.get? b = some o → H b = none → h'.get? b = some o)
    (slot : ∀ b o, b ≠ X.env.locals → b ∈ X.fs → b ∉ ch → s.heap.get? b = some o → H b = none → ∃ sl, h'.get? b = some { o with slots := sl }) (free : ∀ b o, b ∉ ch → s.heap.get? b = some o → H b = none → H' b = none)
    (there : ∀ b o, b ∉ ch → s.heap.get? b = some o → ∃ o', h'.get? b = some o')
    (tups : ∀ b xs, H b = some (.tup xs) → H' b = some (.tup xs)) (frzs : ∀ b o u, H b = some (.frz o u) → H' b = some (.frz o u)) (tbls : ∀ b ps, H b = some (.tbl ps) → ∃ more, H' b = some (.tbl (ps ++ more)))
    (ns : ∀ m, s.heap.Ns X.env.locals m → h'.Ns X.env.locals m) (hok : HOk X.prog X.w H' h') (hg : AllBare g') :
    Inv X pins σ H' { s with heap := h', gens := g', drawn := d', toks := t' } := by
  have neL : ∀ b o, X.s_0.heap.get? b = some o → b ≠ X.env.locals := fun b o e => Nat.ne_of_lt (Nat.lt_of_lt_of_le (Heap.lt_size e) I.ok.above)
  have neC : ∀ b o, X.s_0.heap.get? b = some o → b ∉ X.ex → b ∉ ch := fun b o e hx hb => by
    rcases (hch b hb).1 with z | z
    · exact hx z
    · exact absurd (Nat.lt_of_lt_of_le (Heap.lt_size e) z) (Nat.lt_irrefl _)
  have cellK : ∀ x c, X.env.cells.lookup x = some c → ∀ v, s.heap.IsCell c v → h'.IsCell c v := fun x c e v ⟨o, ho, hd⟩ => by
    have nch : c ∉ ch := fun z => (hch c z).2.2.1 x c e rfl
    by_cases hc : c ∈ X.fs
    · obtain ⟨sl, q⟩ := slot c o (I.cne x c e) hc nch ho (I.freeC x c e)
      exact ⟨_, q, hd⟩
    · exact ⟨o, keep c o (I.cne x c e) hc nch ho (I.freeC x c e), hd⟩
  refine ⟨I.ok, I.os, hg, ⟨fun b o e n hb hx => ?_, fun b o e n hb hx => ?_, fun b o e n hx => ?_, fun b o e hx => ?_, fun b xs e => tups b xs (I.base.tups b xs e), fun b o xs e => frzs b o xs (I.base.frzs b o xs e), fun b ps e => ?_⟩, ?_, fun x c e => ?_, ?_, fun x c e => ?_, fun p hp => ?_, hok, I.len⟩
  · exact keep b o (neL b o e) hb (neC b o e hx) (I.base.keep b o e n hb hx) (I.base.free b o e n hx)
  · obtain ⟨sl, e1⟩ := I.base.slot b o e n hb hx
    obtain ⟨sl', e2⟩ := slot b _ (neL b o e) hb (neC b o e hx) e1 (I.base.free b o e n hx)
    exact ⟨sl', e2⟩
  · obtain ⟨o', e1⟩ := I.base.there b o e hx
    exact free b o' (neC b o e hx) e1 (I.base.free b o e n hx)
  · obtain ⟨o', e1⟩ := I.base.there b o e hx
    exact there b o' (neC b o e hx) e1
  · obtain ⟨m1, e1⟩ := I.base.tbls b ps e
    obtain ⟨m2, e2⟩ := tbls b _ e1
    exact ⟨m1 ++ m2, by rw [e2, Array.append_assoc]⟩
  · obtain ⟨m, hn, hl⟩ := I.loc
    refine ⟨m, ns m hn, fun i x v e1 e2 e3 => ?_⟩
    obtain ⟨u, r, l⟩ := hl i x v e1 e2 e3
    refine ⟨u, r, ?_⟩
    rcases l with l | ⟨k, c, e, z⟩
    · exact .inl l
    · exact .inr ⟨k, c, e, cellK x c e _ z⟩
  · obtain ⟨v, z⟩ := I.cell x c e
    exact ⟨v, cellK x c e v z⟩
  · obtain ⟨m, ⟨o, _, _, ho, _⟩, _⟩ := I.loc
    exact free _ o (fun z => (hch _ z).2.1 rfl) ho I.free
  · obtain ⟨v, o, ho, hd⟩ := I.cell x c e
    exact free c o (fun z => (hch c z).2.2.1 x c e rfl) ho (I.freeC x c e)
  · obtain ⟨e, n, ne, nf, d⟩ := I.pin p hp
    have nch : p.1 ∉ ch := fun z => (hch p.1 z).2.2.2 p hp rfl
    exact ⟨keep p.1 p.2 ne nf nch e n, free p.1 p.2 nch e n, ne, nf, d⟩
/-- .. where the frame's own object is kept too -/
theorem Inv.un {t' : Nat} (I : Inv X pins σ H s) (u : Un X.fs [] H H' s.heap h') (hok : HOk X.prog X.w H' h') : Inv X pins σ H' { s with heap := h', toks := t' } := by
  obtain ⟨m, ⟨o, es, ep, ho, r⟩, _⟩ := id I.loc
  obtain ⟨sl, hL⟩ := u.any ho I.free (by simp)
  exact I.step (g' := s.gens) (d' := s.drawn) (ch := []) (fun _ z => nomatch z) (fun b o _ hb _ e n => u.keep b o e n hb (by simp)) (fun b o _ hb _ e n => u.slot b o e n hb (by simp)) (fun b o _ e n => u.free b o e n (by simp)) (fun b o _ e => u.there b o e (by simp)) u.tups u.frzs u.tbls (fun m' hm => by
    obtain ⟨o', es', ep', ho', r'⟩ := hm
    rw [ho] at ho'; cases ho'
    exact ⟨_, es', ep', hL, r'⟩) hok I.bare
/-- behind a call (or a comprehension's block): the slots of this frame may have changed too, the records at ch may have turned -/
theorem Inv.call {g' : Array GenState} {t' : Nat} {d' : Drawn} {ch : List Addr} (I : Inv X pins σ H s) (u : Un (frs X.stack) ch H H' s.heap h') (hok : HOk X.prog X.w H' h') (hg : AllBare g')
    (hch : ∀ b ∈ ch, (b ∈ X.ex ∨ X.s_0.heap.objs.size ≤ b) ∧ b ≠ X.env.locals ∧ (∀ x c, X.env.cells.lookup x = some c → c ≠ b) ∧ ∀ p ∈ X.pn ++ pins, p.1 ≠ b) :
    Inv X pins σ H' { s with heap := h', gens := g', drawn := d', toks := t' } := by
  obtain ⟨m, ⟨o, es, ep, ho, r⟩, _⟩ := id I.loc
  obtain ⟨sl, hL⟩ := u.any ho I.free fun z => (hch _ z).2.1 rfl
  exact I.step (ch := ch) hch (fun b o hL hb hc e n => u.keep b o e n (fun z => (List.mem_cons.mp (I.stkSub b z)).elim hL hb) hc) (fun b o _ _ hc e n => u.any e n hc) (fun b o hc e n => u.free b o e n hc) (fun b o hc e => u.there b o e hc) u.tups u.frzs u.tbls (fun m' hm => by
    obtain ⟨o', es', ep', ho', r'⟩ := hm
    rw [ho] at ho'; cases ho'
    exact ⟨_, es', ep', hL, r'⟩) hok hg
/-- an untracked record of ours (an iterator) has turned -/
theorem Inv.turned {t' : Nat} {it : Addr} (I : Inv X pins σ H s) (k : ∀ b o, b ≠ it → s.heap.get? b = some o → h'.get? b = some o) (hn : H it = none) (hL : it ≠ X.env.locals)
    (h1 : it ∈ X.ex ∨ X.s_0.heap.objs.size ≤ it) (h2 : ∀ x c, X.env.cells.lookup x = some c → c ≠ it) (h3 : ∀ p ∈ X.pn ++ pins, p.1 ≠ it) : Inv X pins σ H { s with heap := h', toks := t' } := by
  have nit : ∀ b u, H b = some u → b ≠ it := fun b u e z => by rw [z, hn] at e; cases e
  refine I.step (g' := s.gens) (d' := s.drawn) (ch := [it]) (fun b hb => ?_) (fun b o _ _ hc e _ => k b o (fun z => hc (by simp [z])) e) (fun b o _ _ hc e _ => ⟨o.slots, k b o (fun z => hc (by simp [z])) e⟩) (fun _ _ _ _ n => n)
    (fun b o hc e => ⟨o, k b o (fun z => hc (by simp [z])) e⟩) (fun _ _ e => e) (fun _ _ _ e => e) (fun b ps e => ⟨#[], by rw [e]; simp⟩) (fun m hm => ?_) (fun b u e => ?_) I.bare
  · have e : b = it := by simpa using hb
    subst e
    exact ⟨h1, hL, h2, h3⟩
  · obtain ⟨o, es, ep, ho, r⟩ := hm
    exact ⟨o, es, ep, k _ o (Ne.symm hL) ho, r⟩
  · refine (I.hok b u e).stay (fun c v hc q => k c v ?_ q) (fun _ q => q) fun _ _ q => q
    rcases hc with z | z
    · rw [z]; exact nit b u e
    · exact nit c _ z
theorem Inv.tok (I : Inv X pins σ H s) (t : Nat) : Inv X pins σ H { s with toks := t } := I.un (h' := s.heap) (t' := t) Un.refl I.hok
/-- all objects kept -/
theorem Inv.kept {t' : Nat} (I : Inv X pins σ H s) (k : ∀ b u, s.heap.get? b = some u → h'.get? b = some u) : Inv X pins σ H { s with heap := h', toks := t' } := I.un (Un.kept k) (I.hok.kept k)
/-- a new object laid and tracked -/
theorem Inv.laid {a : Addr} {o : HO} {t' : Nat} (I : Inv X pins σ H s) (k : ∀ b u, s.heap.get? b = some u → h'.get? b = some u) (hp : s.heap.objs.size ≤ a) (new : ObjOk X.prog X.w (upd H a o) h' a o) :
    Inv X pins σ (upd H a o) { s with heap := h', toks := t' } := I.un (Un.laid k hp (I.hok.fresh hp)) (I.hok.laid k hp new)
/-- an object written -/
theorem Inv.write {x e : Addr} {o : HO} {t' : Nat} (I : Inv X pins σ H s) (mu : Mut (H x)) (he : e = x ∨ H e = some (.own x)) (k : ∀ b u, b ≠ e → s.heap.get? b = some u → h'.get? b = some u) (heo : ∃ u, h'.get? e = some u)
    (new : ObjOk X.prog X.w (upd H x o) h' x o) : Inv X pins σ (upd H x o) { s with heap := h', toks := t' } := I.un (Un.write mu he k heo) (I.hok.write mu he k heo new)
/-- forgetting slots, pins -/
theorem Inv.weak {σ' : List (Option V)} (I : Inv X pins σ H s) (hl : σ'.length = σ.length) (w : ∀ (i : Nat) v, σ'[i]? = some (some v) → σ[i]? = some (some v)) : Inv X pins σ' H s :=
  ⟨I.ok, I.os, I.bare, I.base, let ⟨m, hn, hl'⟩ := I.loc; ⟨m, hn, fun i x v e1 e2 e3 => hl' i x v e1 (w i v e2) e3⟩, I.cell, I.free, I.freeC, I.pin, I.hok, hl.trans I.len⟩
theorem Inv.pins_of {pins' : List (Addr × Obj)} (I : Inv X pins σ H s) (h : ∀ p ∈ pins', s.heap.get? p.1 = some p.2 ∧ H p.1 = none ∧ p.1 ≠ X.env.locals ∧ p.1 ∉ X.fs ∧ ∀ v, p.2.data ≠ .cell v) : Inv X pins' σ H s :=
  ⟨I.ok, I.os, I.bare, I.base, I.loc, I.cell, I.free, I.freeC, fun p hp => (List.mem_append.mp hp).elim (fun z => I.pin p (List.mem_append_left _ z)) (h p), I.hok, I.len⟩
theorem nodup_ix {N : List Str} (hN : N.Nodup) {i j : Nat} {x : Str} (a : N[i]? = some x) (b : N[j]? = some x) : i = j := by
  obtain ⟨h1, e1⟩ := List.getElem?_eq_some_iff.mp a
  obtain ⟨h2, e2⟩ := List.getElem?_eq_some_iff.mp b
  exact (List.getElem_inj hN).mp (e1.trans e2.symm)
/-- a name is stored; what changed -/
theorem store_ok2 {M : Model} {A : Around} {E : Value → Shared → Prop} {i : Nat} {x : Str} {v : V} {u : Value} {Q : Unit → Shared → Prop} (I : Inv X pins σ H s) (hN : X.N.Nodup) (hi : X.N[i]? = some x) (hx : Loc X.env.scope x) (r : RelV v u)
    (h : ∀ s', Inv X pins (σ.set i (some v)) H s' → (∃ a, Heap.SameBut a s.heap s'.heap ∧ (a = X.env.locals ∨ X.env.cells.lookup x = some a)) → Q () s') (hf : X.fn x = true ∨ X.env.scope.names.lookup x = some .local := by first | exact .inl rfl | exact .inr rfl | assumption) : wpAny M A (storeName X.env x u) Q E s := by
  obtain ⟨m, hn, hl⟩ := id I.loc
  have hcls : (X.env.scope.kind == .class || (X.env.scope.kind == .module && X.env.locals != X.env.globals)) = false := by rw [I.ok.kind]; rfl
  have hiσ : i < σ.length := by rw [I.len]; exact (List.getElem?_eq_some_iff.mp hi).1
  have cne := I.cne
  have tracked : ∀ {a : Addr} {h' : Heap}, (∃ o, s.heap.get? a = some o ∧ H a = none) → Heap.SameBut a s.heap h' → HOk X.prog X.w H h' := fun {a h'} ha hs b ob e => by
    obtain ⟨_, _, hfree⟩ := ha
    refine (I.hok b ob e).stay (fun c w' hc q => (hs.2 c ?_).trans q) (fun _ q => q) fun _ _ q => q
    rintro rfl
    rcases hc with rfl | hc
    · rw [hfree] at e; cases e
    · rw [hfree] at hc; cases hc
  rcases hx with hk | hk
  · refine wpAny_storeName_local hk hn (fun h' hn' hs => ?_) hcls
    obtain ⟨oL, _, _, hoL, _⟩ := id hn
    refine h _ ⟨I.ok, I.os, I.bare, ⟨fun b o e n hb hx => ?_, fun b o e n hb hx => ?_, I.base.free, fun b o e hx => ?_, I.base.tups, I.base.frzs, I.base.tbls⟩, ⟨_, hn', fun j y v' e1 e2 e3 => ?_⟩, fun y c e => ?_, I.free, I.freeC, fun p hp => ?_, tracked ⟨oL, hoL, I.free⟩ hs, by simpa using I.len⟩ ⟨_, hs, .inl rfl⟩
    · exact (hs.2 b (Nat.ne_of_lt (Nat.lt_of_lt_of_le (Heap.lt_size e) I.ok.above))).trans (I.base.keep b o e n hb hx)
    · obtain ⟨sl, e1⟩ := I.base.slot b o e n hb hx
      exact ⟨sl, (hs.2 b (Nat.ne_of_lt (Nat.lt_of_lt_of_le (Heap.lt_size e) I.ok.above))).trans e1⟩
    · obtain ⟨o', e1⟩ := I.base.there b o e hx
      exact ⟨o', (hs.2 b (Nat.ne_of_lt (Nat.lt_of_lt_of_le (Heap.lt_size e) I.ok.above))).trans e1⟩
    · by_cases hj : j = i
      · subst hj
        rw [hi] at e1; cases e1
        rw [List.getElem?_set_self hiσ] at e2
        cases e2
        exact ⟨u, r, .inl ⟨hk, by simp⟩⟩
      · rw [List.getElem?_set_ne (Ne.symm hj)] at e2
        obtain ⟨u', r', q⟩ := hl j y v' e1 e2 e3
        refine ⟨u', r', ?_⟩
        rcases q with ⟨k, e⟩ | ⟨k, c, e, z⟩
        · refine .inl ⟨k, ?_⟩
          have : y ≠ x := fun e => hj (nodup_ix hN e1 (e ▸ hi))
          simp [this, e]
        · exact .inr ⟨k, c, e, z.sameBut hs (cne y c e)⟩
    · obtain ⟨w', z⟩ := I.cell y c e
      exact ⟨w', z.sameBut hs (cne y c e)⟩
    · obtain ⟨e, n, ne, nf, d⟩ := I.pin p hp
      exact ⟨(hs.2 p.1 ne).trans e, n, ne, nf, d⟩
  · have hfn : X.fn x = true := by
      rcases hf with z | z
      · exact z
      · rw [z] at hk; cases hk
    obtain ⟨c, hc⟩ := I.ok.has x (.inl hk)
    obtain ⟨w', z⟩ := I.cell x c hc
    refine wpAny_storeName_cell I.ok.kind hk hc z (fun h' hc' hs => ?_)
    obtain ⟨oc, hoc, hocd⟩ := id z
    refine h { s with heap := h' } ⟨I.ok, I.os, I.bare, ⟨fun b o e n hb hx => ?_, fun b o e n hb hx => ?_, I.base.free, fun b o e hx => ?_, I.base.tups, I.base.frzs, I.base.tbls⟩, ⟨m, hn.sameBut hs (Ne.symm (cne x c hc)), fun j y v' e1 e2 e3 => ?_⟩, fun y c' e => ?_, I.free, I.freeC, fun p hp => ?_, tracked ⟨oc, hoc, I.freeC x c hc⟩ hs, by simpa using I.len⟩ ⟨c, hs, .inr hc⟩
    · exact (hs.2 b (Nat.ne_of_lt (Nat.lt_of_lt_of_le (Heap.lt_size e) (I.ok.cab x c hfn hc)))).trans (I.base.keep b o e n hb hx)
    · obtain ⟨sl, e1⟩ := I.base.slot b o e n hb hx
      exact ⟨sl, (hs.2 b (Nat.ne_of_lt (Nat.lt_of_lt_of_le (Heap.lt_size e) (I.ok.cab x c hfn hc)))).trans e1⟩
    · obtain ⟨o', e1⟩ := I.base.there b o e hx
      exact ⟨o', (hs.2 b (Nat.ne_of_lt (Nat.lt_of_lt_of_le (Heap.lt_size e) (I.ok.cab x c hfn hc)))).trans e1⟩
    · by_cases hj : j = i
      · subst hj
        rw [hi] at e1; cases e1
        rw [List.getElem?_set_self hiσ] at e2
        cases e2
        exact ⟨u, r, .inr ⟨.inl hk, c, hc, hc'⟩⟩
      · rw [List.getElem?_set_ne (Ne.symm hj)] at e2
        obtain ⟨u', r', q⟩ := hl j y v' e1 e2 e3
        refine ⟨u', r', ?_⟩
        rcases q with q | ⟨k, c', e, z'⟩
        · exact .inl q
        · refine .inr ⟨k, c', e, z'.sameBut hs ?_⟩
          rintro rfl
          exact hj (nodup_ix hN e1 (I.ok.inj _ _ _ e hc ▸ hi))
    · by_cases hcc : c' = c
      · subst hcc; exact ⟨_, hc'⟩
      · obtain ⟨w2, z2⟩ := I.cell y c' e
        exact ⟨w2, z2.sameBut hs hcc⟩
    · obtain ⟨e, n, ne, nf, d⟩ := I.pin p hp
      refine ⟨(hs.2 p.1 ?_).trans e, n, ne, nf, d⟩
      intro q
      rw [q, hoc] at e
      have q' : oc = p.2 := Option.some.inj e
      exact d w' (by rw [← q']; exact hocd)
theorem store_ok {M : Model} {A : Around} {E : Value → Shared → Prop} {i : Nat} {x : Str} {v : V} {u : Value} {Q : Unit → Shared → Prop} (I : Inv X pins σ H s) (hN : X.N.Nodup) (hi : X.N[i]? = some x) (hx : Loc X.env.scope x) (r : RelV v u)
    (h : ∀ s', Inv X pins (σ.set i (some v)) H s' → Q () s') (hf : X.fn x = true ∨ X.env.scope.names.lookup x = some .local := by first | exact .inl rfl | exact .inr rfl | assumption) : wpAny M A (storeName X.env x u) Q E s :=
  store_ok2 I hN hi hx r (fun s' I' _ => h s' I') hf
/-- behind a call or a block, the state as it is -/
theorem Inv.call' {s' : Shared} {ch : List Addr} (I : Inv X pins σ H s) (ho : s'.os = s.os) (u : Un (frs X.stack) ch H H' s.heap s'.heap) (hok : HOk X.prog X.w H' s'.heap) (hg : AllBare s'.gens)
    (hch : ∀ b ∈ ch, (b ∈ X.ex ∨ X.s_0.heap.objs.size ≤ b) ∧ b ≠ X.env.locals ∧ (∀ x c, X.env.cells.lookup x = some c → c ≠ b) ∧ ∀ p ∈ X.pn ++ pins, p.1 ≠ b) : Inv X pins σ H' s' := by
  obtain ⟨h', g', d', t', o'⟩ := s'
  have e : o' = s.os := ho
  subst e
  exact I.call (g' := g') (t' := t') (d' := d') u hok hg hch
end
/-! ### the judgements -/
/-- an exception: its class, its own dict's address (where it has one), the abstract heap behind it -/
abbrev XK := Value → Option Addr → Hp → Prop
abbrev St := List (Option V)
abbrev VK := V → Hp → Prop
/-- an expression's reading; a test's; an argument list's -/
abbrev TE := St → Hp → VK → Prop
abbrev TT := St → Hp → (Bool → Hp → Prop) → Prop
abbrev TA := St → Hp → (List V → Hp → Prop) → Prop
/-- what is wanted behind a statement -/
structure Ends where
  nx : St → Hp → Prop
  rt : VK
  bk : St → Hp → Prop := fun _ _ => False
  ct : St → Hp → Prop := fun _ _ => False
abbrev TS := Ends → St → Hp → Prop
def EP (X : Cx) (pins : List (Addr × Obj)) (σ : St) (Q : VK) (u : Value) (s' : Shared) : Prop := ∃ v H', Inv X pins σ H' s' ∧ RelV v u ∧ Q v H'
def TP (X : Cx) (pins : List (Addr × Obj)) (σ : St) (Q : Bool → Hp → Prop) (b : Bool) (s' : Shared) : Prop := ∃ H', Inv X pins σ H' s' ∧ Q b H'
def AP (X : Cx) (pins : List (Addr × Obj)) (σ : St) (Q : List V → Hp → Prop) (us : List Value) (s' : Shared) : Prop := ∃ vs H', Inv X pins σ H' s' ∧ Vals vs us ∧ Q vs H'
def SP (X : Cx) (pins : List (Addr × Obj)) (D : Ends) (f : Flow) (s' : Shared) : Prop :=
  match f with
  | .next => ∃ σ' H', Inv X pins σ' H' s' ∧ D.nx σ' H'
  | .brk => ∃ σ' H', Inv X pins σ' H' s' ∧ D.bk σ' H'
  | .cont => ∃ σ' H', Inv X pins σ' H' s' ∧ D.ct σ' H'
  | .ret u => ∃ v σ' H', Inv X pins σ' H' s' ∧ RelV v u ∧ D.rt v H'
def PE (X : Cx) (e : Expr) (t : TE) : Prop :=
  ∀ (pins : List (Addr × Obj)) (s : Shared) (σ : St) (H : Hp) (Q : VK), Inv X pins σ H s → t σ H Q → wpAny (model X.prog X.w) X.A (eval e X.env) (EP X pins σ Q) X.xe s
def PT (X : Cx) (e : Expr) (t : TT) : Prop :=
  ∀ (pins : List (Addr × Obj)) (s : Shared) (σ : St) (H : Hp) (Q : Bool → Hp → Prop), Inv X pins σ H s → t σ H Q → wpAny (model X.prog X.w) X.A (isTrue e X.env (eval e X.env)) (TP X pins σ Q) X.xe s
/-- a test whatever its 'whole' is (and, or) -/
def PW (X : Cx) (e : Expr) (t : TT) : Prop :=
  ∀ (whole : Sem Value) (pins : List (Addr × Obj)) (s : Shared) (σ : St) (H : Hp) (Q : Bool → Hp → Prop), Inv X pins σ H s → t σ H Q → wpAny (model X.prog X.w) X.A (isTrue e X.env whole) (TP X pins σ Q) X.xe s
theorem PW.pt {X : Cx} {e : Expr} {t : TT} (h : PW X e t) : PT X e t := h _
/-- an argument list (no star), from the left -/
def PA (X : Cx) (es : List Expr) (t : TA) : Prop :=
  ∀ (pos : Pos) (pins : List (Addr × Obj)) (s : Shared) (σ : St) (H : Hp) (Q : List V → Hp → Prop), Inv X pins σ H s → t σ H Q → wpAny (model X.prog X.w) X.A (spliced (backTo pos (starEach es X.env))) (AP X pins σ Q) X.xe s
def PS (X : Cx) (st : Stmt) (t : TS) : Prop :=
  ∀ (pins : List (Addr × Obj)) (s : Shared) (σ : St) (H : Hp) (D : Ends), Inv X pins σ H s → t D σ H → wpAny (model X.prog X.w) X.A (exec st X.env) (SP X pins D) X.xe s
def PSs (X : Cx) (st : List Stmt) (t : TS) : Prop :=
  ∀ (pins : List (Addr × Obj)) (s : Shared) (σ : St) (H : Hp) (D : Ends), Inv X pins σ H s → t D σ H → wpAny (model X.prog X.w) X.A (execs st X.env) (SP X pins D) X.xe s
/-- weaken the end -/
theorem thn {α : Type} {t : Sem α} {Q Q' : α → Shared → Prop} {M : Model} {A : Around} {E : Value → Shared → Prop} {s : Shared} (h : wpAny M A t Q E s) (hQ : ∀ a s, Q a s → Q' a s) : wpAny M A t Q' E s := wpAny_mono h hQ fun _ _ x => x
end L2
namespace L2
open PySem PySem.Spec PyProof.Rows
section
variable {X : Cx}
/-! ### names and constants -/
def tVar (i : Nat) : TE := fun σ H Q => ∃ v, σ[i]? = some (some v) ∧ Q v H
def tC (v : V) : TE := fun _ H Q => Q v H
theorem pe_var {i : Nat} {x : Str} {pos : Pos} (hN : X.N[i]? = some x) (hv : Vis X.env.scope x) (hd : (x == ("__debug__" : Str)) = false := by decide) (hcd : (x == ("__classdict__" : Str)) = false := by decide) : PE X (.Name x pos) (tVar i) := by
  intro pins s σ H Q I h
  obtain ⟨v, e, h⟩ := h
  obtain ⟨m, hn, hl⟩ := I.loc
  obtain ⟨u, r, l⟩ := hl i x v hN e hv
  have fin : EP X pins σ Q u s := ⟨v, H, I, r, h⟩
  rcases l with ⟨hk, hm⟩ | ⟨hk, c, hc, hcell⟩
  · exact wpAny_Name (wpAny_loadName_local I.ok.kind hk hn hm fin) hd
  · rcases hk with hk | hk
    · exact wpAny_Name (wpAny_loadName_cell I.ok.kind hk hc hcell fin) hd
    · exact wpAny_Name (wpAny_loadName_free I.ok.kind hk hc hcell fin hcd) hd
theorem pe_int {i j pos} : PE X (.Constant (.int i) j pos) (tC (.int i)) := fun _ _ _ H _ I h => wpAny_Constant_int ⟨.int i, H, I.tok _, ⟨_, rfl⟩, h⟩
theorem pe_bl {b j pos} : PE X (.Constant (.bool b) j pos) (tC (.bl b)) := fun _ _ _ H _ I h => Constant_bool ⟨.bl b, H, I, rfl, h⟩
/-- a global name of the def -/
def Gl (X : Cx) (x : Str) : Prop := X.env.kindOf x = some .globalImplicit
theorem ld_glob {E : Value → Shared → Prop} {pins : List (Addr × Obj)} {s : Shared} {σ : St} {H : Hp} {x : Str} {u : Value} {pos : Pos} {Q : Value → Shared → Prop} (I : Inv X pins σ H s) (hg : Gl X x) (hm : X.mg x = some u) (h : Q u s)
    (hd : (x == ("__debug__" : Str)) = false := by decide) : wpAny (model X.prog X.w) X.A (eval (.Name x pos) X.env) Q E s :=
  Calls.Name_function_global I.ok.kind hg (Calls.loadGlobal_global (by rw [I.ok.glob]; exact I.mod.glob.keeps I.bk) hm h) hd
theorem ld_blt {E : Value → Shared → Prop} {pins : List (Addr × Obj)} {s : Shared} {σ : St} {H : Hp} {x : Str} {u : Value} {pos : Pos} {Q : Value → Shared → Prop} (I : Inv X pins σ H s) (hg : Gl X x) (hm : X.mg x = none) (hv : bootBuiltins x = some u) (h : Q u s)
    (hn : x ≠ "__name__" := by decide) (hd : (x == ("__debug__" : Str)) = false := by decide) : wpAny (model X.prog X.w) X.A (eval (.Name x pos) X.env) Q E s := by
  obtain ⟨mb, h1, h2⟩ := I.mod.blt
  exact Calls.Name_function_global I.ok.kind hg (Calls.loadGlobal_builtin (by rw [I.ok.glob]; exact I.mod.glob.keeps I.bk) hm (by rw [I.ok.blt]; exact h1.keeps I.bk) ((h2 x hn).trans hv) h) hd
/-- a module's constant, a class, a function, as a value -/
theorem pe_glob {x : Str} {v : V} {u : Value} {pos : Pos} (hg : Gl X x) (hm : X.mg x = some u) (r : RelV v u) (hd : (x == ("__debug__" : Str)) = false := by decide) : PE X (.Name x pos) (tC v) :=
  fun _ _ _ H _ I h => ld_glob I hg hm ⟨v, H, I, r, h⟩ hd
/-! ### arithmetic -/
variable {a b : Expr} {ta tb : TE} {pos : Pos}
/-! ### comparisons -/
def PC (X : Cx) (op : CmpOp) (a b : Expr) (t : TE) : Prop :=
  ∀ (pins : List (Addr × Obj)) (s : Shared) (σ : St) (H : Hp) (Q : VK), Inv X pins σ H s → t σ H Q →
    wpAny (model X.prog X.w) X.A (eval a X.env) (fun v s₁ => wpAny (model X.prog X.w) X.A (eval b X.env) (fun u s₂ => wpAny (model X.prog X.w) X.A (compareOp op v u) (EP X pins σ Q) X.xe s₂) X.xe s₁) X.xe s
/-- a comparison as a value, as a test -/
def tB (t : TE) : TT := fun σ H Q => t σ H fun x H1 => ∃ c, x = .bl c ∧ Q c H1
theorem pe_cmp {op : CmpOp} {t : TE} (h : PC X op a b t) (h1 : behindInMarks op b = false := by first | exact nobehind _ (by decide) (by decide) | rfl) : PE X (.Compare a [op] [b] pos) t := fun pins s σ H Q I hw => wpAny_Compare1 (h pins s σ H Q I hw) h1
theorem pt_cmp {op : CmpOp} {t : TE} (h : PC X op a b t) (h1 : behindInMarks op b = false := by first | exact nobehind _ (by decide) (by decide) | rfl) : PT X (.Compare a [op] [b] pos) (tB t) := by
  intro pins s σ H Q I hw
  refine wpAny_isTrue_Compare1 (thn (h pins s σ H _ I hw) fun v s1 h1 => thn h1 fun u s2 h2 => thn h2 fun c s3 ⟨x, H1, I1, r1, q1⟩ => ?_) h1
  obtain ⟨d, rfl, q⟩ := q1
  cases r1
  exact wpAny_truthy_bool ⟨H1, I1, q⟩
/-- an expression whose value is a bool, as a test -/
theorem pt_val {e : Expr} {t : TE} (h : PE X e t) (he : ∀ whole, isTrue e X.env whole = (do let v ← whole; standAt e.pos; holding [v] (truthy v)) := by intro _; rfl) : PT X e (tB t) := by
  intro pins s σ H Q I hw
  refine isTrue_plain (thn (h pins s σ H _ I hw) fun v s1 ⟨x, H1, I1, r1, q1⟩ => ?_) (he _)
  obtain ⟨d, rfl, q⟩ := q1
  cases r1
  exact wpAny_truthy_bool ⟨H1, I1, q⟩
/-! ### and, or, not -/
variable {tA tB' : TT} {rest : List Expr}
def tAnd (t u : TT) : TT := fun σ H Q => t σ H fun c H1 => if c = true then u σ H1 Q else Q false H1
def tOr (t u : TT) : TT := fun σ H Q => t σ H fun c H1 => if c = true then Q true H1 else u σ H1 Q
def tNot (t : TT) : TT := fun σ H Q => t σ H fun c H1 => Q (!c) H1
theorem pw_and1 (ha : PT X a tA) : PW X (.BoolOp .And [a] pos) tA := by
  intro wh pins s σ H Q I h
  refine isTrue_and (thn (ha pins s σ H Q I h) fun c s1 e => ?_)
  cases c with
  | true => exact isTrue_and_nil e
  | false => exact e
theorem pw_or1 (ha : PT X a tA) : PW X (.BoolOp .Or [a] pos) tA := by
  intro wh pins s σ H Q I h
  refine isTrue_or (thn (ha pins s σ H Q I h) fun c s1 e => ?_)
  cases c with
  | false => exact isTrue_or_nil e
  | true => exact e
theorem pw_and (ha : PT X a tA) (hb : PW X (.BoolOp .And (b :: rest) pos) tB') : PW X (.BoolOp .And (a :: b :: rest) pos) (tAnd tA tB') := by
  intro wh pins s σ H Q I h
  refine isTrue_and (thn (ha pins s σ H _ I h) fun c s1 ⟨H1, I1, q1⟩ => ?_)
  cases c with
  | true => exact hb wh pins s1 σ H1 Q I1 q1
  | false => exact ⟨H1, I1, q1⟩
theorem pw_or (ha : PT X a tA) (hb : PW X (.BoolOp .Or (b :: rest) pos) tB') : PW X (.BoolOp .Or (a :: b :: rest) pos) (tOr tA tB') := by
  intro wh pins s σ H Q I h
  refine isTrue_or (thn (ha pins s σ H _ I h) fun c s1 ⟨H1, I1, q1⟩ => ?_)
  cases c with
  | true => exact ⟨H1, I1, q1⟩
  | false => exact hb wh pins s1 σ H1 Q I1 q1
theorem pt_not (ha : PT X a tA) : PT X (.UnaryOp .Not a pos) (tNot tA) := by
  intro pins s σ H Q I h
  exact isTrue_not (ha pins s σ H (fun c H1 => Q (!c) H1) I h)
/-- .. as values (bools) -/
def tAndV (ta tb : TE) : TE := fun σ H Q => ta σ H fun x H1 => ∃ c, x = .bl c ∧ if c = true then tb σ H1 Q else Q (.bl false) H1
theorem pe_one {op} {t : TE} (h : PE X a t) : PE X (.BoolOp op [a] pos) t := fun pins s σ H Q I hw => BoolOp_one (h pins s σ H Q I hw)
theorem pe_and (ha : PE X a ta) (hb : PE X (.BoolOp .And (b :: rest) pos) tb) : PE X (.BoolOp .And (a :: b :: rest) pos) (tAndV ta tb) := by
  intro pins s σ H Q I h
  refine BoolOp_and (thn (ha pins s σ H _ I h) fun v s1 ⟨x, H1, I1, r1, q1⟩ => ?_)
  obtain ⟨c, rfl, q1⟩ := q1
  cases r1
  refine wpAny_truthy_bool ?_
  cases c with
  | true => exact hb pins s1 σ H1 Q I1 q1
  | false => exact ⟨.bl false, H1, I1, rfl, q1⟩
/-- a if t else b -/
def tIf (t : TT) (ta tb : TE) : TE := fun σ H Q => t σ H fun c H1 => if c = true then ta σ H1 Q else tb σ H1 Q
theorem pe_ifExp {c : Expr} (hc : PT X c tA) (ha : PE X a ta) (hb : PE X b tb) : PE X (.IfExp c a b pos) (tIf tA ta tb) := by
  intro pins s σ H Q I h
  refine wpAny_IfExp (thn (hc pins s σ H _ I h) fun d s1 ⟨H1, I1, q1⟩ => ?_)
  cases d with
  | true => exact ha pins s1 σ H1 Q I1 q1
  | false => exact hb pins s1 σ H1 Q I1 q1
end
end L2
namespace L2
open PySem PySem.Spec PyProof.Rows
/-! ### a list, a tuple that is read: tracked, frozen, or an object of the module -/
def SqL (K : PySem.W.Frag) (H : Hp) (a : Addr) (xs : List V) : Prop :=
  Rd H a (.lst xs) ∨
    ∃ (o : Obj) (its : Array Value) (n : Nat), K.lookup a = some o ∧ o.cls = .type "list" ∧ o.dict = none ∧ o.data = .seq its n ∧ its.size ≤ sizeLine ∧ Vals xs its.toList
def SqT (K : PySem.W.Frag) (H : Hp) (a : Addr) (xs : List V) : Prop :=
  Rd H a (.tup xs) ∨
    ∃ (o : Obj) (its : Array Value) (n : Nat), K.lookup a = some o ∧ o.cls = .type "tuple" ∧ o.data = .seq its n ∧ its.size ≤ sizeLine ∧ Vals xs its.toList
def absV : Value → Option V
  | .none => some .non
  | .bool b => some (.bl b)
  | .int i _ => some (.int i)
  | .str x _ => some (.str x)
  | .bytes b _ => some (.byt b)
  | .float b _ => some (.flt b)
  | .ref a => some (.ref a)
  | .type n => some (.ty n)
  | _ => none
theorem RelV.abs {x : V} {u : Value} (r : RelV x u) : absV u = some x := by
  cases x with
  | non => cases r; rfl
  | bl _ => cases r; rfl
  | int _ => obtain ⟨t, rfl⟩ := r; rfl
  | str _ => obtain ⟨t, rfl⟩ := r; rfl
  | byt _ => obtain ⟨t, rfl⟩ := r; rfl
  | flt _ => obtain ⟨t, rfl⟩ := r; rfl
  | ref _ => cases r; rfl
  | ty _ => cases r; rfl
theorem RelV.inj {x y : V} {u : Value} (r : RelV x u) (q : RelV y u) : x = y := Option.some.inj (r.abs.symm.trans q.abs)
theorem Vals.inj : ∀ {xs ys : List V} {us : List Value}, Vals xs us → Vals ys us → xs = ys
  | _, _, _, .nil, .nil => rfl
  | _, _, _, .cons r t, .cons r' t' => by rw [r.inj r', Vals.inj t t']
section
variable {X : Cx} {pins : List (Addr × Obj)} {σ : St} {H : Hp} {s : Shared} {a : Addr} {xs ys : List V}
theorem SqL.of {K : PySem.W.Frag} (h : H a = some (.lst xs)) : SqL K H a xs := .inl (.inl h)
theorem SqT.of {K : PySem.W.Frag} (h : H a = some (.tup xs)) : SqT K H a xs := .inl (.inl h)
theorem Inv.list (I : Inv X pins σ H s) (h : SqL X.K H a xs) : ∃ its : List Value, Vals xs its ∧ PlainL s.heap a its.toArray ∧ xs.length ≤ sizeLine := by
  rcases h with h | ⟨o, its, n, hk, hc, hd, hs, hz, r⟩
  · obtain ⟨z, its, n, r, e⟩ := h.ok I.hok
    exact ⟨its, r, ⟨_, n, e, rfl, rfl, rfl⟩, z⟩
  · refine ⟨its.toList, r, ⟨o, n, I.kIn a o hk, hc, hd, by simpa using hs⟩, ?_⟩
    have e := r.length
    simp only [Array.length_toList] at e
    omega
theorem Inv.tuple (I : Inv X pins σ H s) (h : SqT X.K H a xs) : ∃ its : List Value, Vals xs its ∧ IsTup s.heap a its.toArray ∧ xs.length ≤ sizeLine := by
  rcases h with h | ⟨o, its, n, hk, hc, hs, hz, r⟩
  · obtain ⟨z, its, r, p⟩ := h.ok I.hok
    exact ⟨its, r, p, z⟩
  · refine ⟨its.toList, r, ⟨o, I.kIn a o hk, hc, n, by simpa using hs⟩, ?_⟩
    have e := r.length
    simp only [Array.length_toList] at e
    omega
theorem Inv.list_inj (I : Inv X pins σ H s) (h : SqL X.K H a xs) (h' : SqL X.K H a ys) : xs = ys := by
  obtain ⟨its, r, ⟨o, n, e, _, _, d⟩, _⟩ := I.list h
  obtain ⟨its', r', ⟨o', n', e', _, _, d'⟩, _⟩ := I.list h'
  rw [e] at e'; cases e'
  rw [d] at d'
  injection d' with d1 _
  have : its = its' := by simpa using congrArg Array.toList d1
  subst this
  exact r.inj r'
end
/-! ### another wish about exceptions -/
abbrev Cx.wish (X : Cx) (E : Value → Shared → Prop) : Cx := { X with xe := E }
/-- no exception leaves -/
abbrev Cx.nox (X : Cx) : Cx := X.wish fun _ _ => False
theorem Cx.Ok.wish {X : Cx} (ok : X.Ok) (E : Value → Shared → Prop) : (X.wish E).Ok :=
  ⟨ok.mod, ok.kind, ok.glob, ok.blt, ok.above, ok.inj, ok.has, ok.cab, ok.hd, ok.frames, ok.stk, ok.exf, ok.bs, ok.bsz, ok.noex, ok.exfs, ok.funs, ok.frf⟩
theorem Cx.Ok.unwish {X : Cx} {E : Value → Shared → Prop} (ok : (X.wish E).Ok) : X.Ok :=
  ⟨ok.mod, ok.kind, ok.glob, ok.blt, ok.above, ok.inj, ok.has, ok.cab, ok.hd, ok.frames, ok.stk, ok.exf, ok.bs, ok.bsz, ok.noex, ok.exfs, ok.funs, ok.frf⟩
section
variable {X : Cx} {pins : List (Addr × Obj)} {σ : St} {H : Hp} {s : Shared} {E : Value → Shared → Prop}
theorem Inv.wish (I : Inv X pins σ H s) (E : Value → Shared → Prop) : Inv (X.wish E) pins σ H s := ⟨I.ok.wish E, I.os, I.bare, I.base, I.loc, I.cell, I.free, I.freeC, I.pin, I.hok, I.len⟩
theorem Inv.unwish (I : Inv (X.wish E) pins σ H s) : Inv X pins σ H s := ⟨I.ok.unwish, I.os, I.bare, I.base, I.loc, I.cell, I.free, I.freeC, I.pin, I.hok, I.len⟩
theorem SP.unwish {D : Ends} {f : Flow} {s' : Shared} (h : SP (X.wish E) pins D f s') : SP X pins D f s' := by
  cases f with
  | next => obtain ⟨σ', H', I, q⟩ := h; exact ⟨σ', H', I.unwish, q⟩
  | brk => obtain ⟨σ', H', I, q⟩ := h; exact ⟨σ', H', I.unwish, q⟩
  | cont => obtain ⟨σ', H', I, q⟩ := h; exact ⟨σ', H', I.unwish, q⟩
  | ret u => obtain ⟨v, σ', H', I, r, q⟩ := h; exact ⟨v, σ', H', I.unwish, r, q⟩
theorem PSs.nox {st : List Stmt} {t : TS} (h : PSs X.nox st t) : PSs X st t := fun pins s σ H D I hw =>
  wpAny_mono (h pins s σ H D (I.wish _) hw) (fun _ _ q => q.unwish) fun _ _ z => False.elim z
end
/-! ### blocks and small statements -/
section
variable {X : Cx} {st : Stmt} {rest : List Stmt} {t u : TS} {e : Expr} {te : TE} {pos : Pos}
def tNext : TS := fun D σ H => D.nx σ H
def tSeq (t u : TS) : TS := fun D σ H => t { D with nx := u D } σ H
theorem pss_nil : PSs X [] tNext := fun _ _ σ H _ I h => wpAny_execs_nil ⟨σ, H, I, h⟩
theorem pss_cons (h1 : PS X st t) (h2 : PSs X rest u) : PSs X (st :: rest) (tSeq t u) := by
  intro pins s σ H D I h
  refine wpAny_execs_cons (thn (h1 pins s σ H { D with nx := u D } I h) fun f s1 q => ?_)
  cases f with
  | next =>
    obtain ⟨σ', H', I', q⟩ := q
    exact h2 pins s1 σ' H' D I' q
  | ret v => exact q
  | brk => exact q
  | cont => exact q
theorem pss_one (h1 : PS X st t) : PSs X [st] t := by
  intro pins s σ H D I h
  refine wpAny_execs_cons (thn (h1 pins s σ H D I h) fun f s1 q => ?_)
  cases f with
  | next => exact wpAny_execs_nil q
  | ret v => exact q
  | brk => exact q
  | cont => exact q
/-- in a def's body nothing is shown -/
theorem Inv.quiet {pins : List (Addr × Obj)} {σ : St} {H : Hp} {s : Shared} (I : Inv X pins σ H s) : interactive X.env = false := by simp [interactive, I.ok.kind]
/-- an expression whose value is dropped -/
def tDrop (te : TE) : TS := fun D σ H => te σ H fun _ H1 => D.nx σ H1
theorem ps_expr (he : PE X e te) (hs : swapsWith e none pos.line X.env = pure false := by rfl) : PS X (.Expr e pos) (tDrop te) := by
  intro pins s σ H D I h
  exact wpAny_Expr_any (thn (he pins s σ H _ I h) fun v s1 ⟨x, H1, I1, r1, q1⟩ => ⟨σ, H1, I1, q1⟩) I.quiet hs
def tRet (te : TE) : TS := fun D σ H => te σ H D.rt
theorem ps_ret (he : PE X e te) : PS X (.Return (some e) pos) (tRet te) := by
  intro pins s σ H D I h
  exact wpAny_Return_some (thn (he pins s σ H _ I h) fun v s1 ⟨x, H1, I1, r1, q1⟩ => ⟨x, σ, H1, I1, r1, q1⟩)
def tIfS (c : TT) (t u : TS) : TS := fun D σ H => c σ H fun b H1 => if b = true then t D σ H1 else u D σ H1
theorem ps_if {c : Expr} {a b : List Stmt} {tc : TT} (hc : PT X c tc) (ha : PSs X a t) (hb : PSs X b u) : PS X (.If c a b pos) (tIfS tc t u) := by
  intro pins s σ H D I h
  refine wpAny_If (thn (hc pins s σ H _ I h) fun d s1 ⟨H1, I1, q1⟩ => ?_)
  cases d with
  | true => exact ha pins s1 σ H1 D I1 q1
  | false => exact hb pins s1 σ H1 D I1 q1
end
/-! ### targets -/
abbrev TG := V → St → Hp → (St → Hp → Prop) → Prop
abbrev TGs := List V → St → Hp → (St → Hp → Prop) → Prop
def PG (X : Cx) (target : Expr) (t : TG) : Prop :=
  ∀ (pins : List (Addr × Obj)) (s : Shared) (σ : St) (H : Hp) (v : V) (u : Value) (Q : St → Hp → Prop), Inv X pins σ H s → RelV v u → t v σ H Q →
    wpAny (model X.prog X.w) X.A (assign target X.env u) (fun _ s' => ∃ σ' H', Inv X pins σ' H' s' ∧ Q σ' H') X.xe s
/-- several targets, one after another -/
def PGs (X : Cx) (ts : List Expr) (t : TGs) : Prop :=
  ∀ (pins : List (Addr × Obj)) (s : Shared) (σ : St) (H : Hp) (vs : List V) (us : List Value) (Q : St → Hp → Prop), Inv X pins σ H s → Vals vs us → t vs σ H Q →
    wpAny (model X.prog X.w) X.A (assignInOrder ((assignEach ts X.env).map (·.2)) us) (fun _ s' => ∃ σ' H', Inv X pins σ' H' s' ∧ Q σ' H') X.xe s
/-- o[i] = v, by values -/
abbrev TSet := V → V → V → Hp → (Hp → Prop) → Prop
def PSet (X : Cx) (t : TSet) : Prop :=
  ∀ (pins : List (Addr × Obj)) (s : Shared) (σ : St) (H : Hp) (o i v : V) (ov iv u : Value) (Q : Hp → Prop), Inv X pins σ H s → RelV o ov → RelV i iv → RelV v u → t o i v H Q →
    wpAny (model X.prog X.w) X.A (setItem ov iv u) (fun _ s' => ∃ H', Inv X pins σ H' s' ∧ Q H') X.xe s
/-- a op= b, by values -/
abbrev TIp := V → V → Hp → VK → Prop
def PIp (X : Cx) (op : Operator) (t : TIp) : Prop :=
  ∀ (pins : List (Addr × Obj)) (s : Shared) (σ : St) (H : Hp) (x y : V) (v u : Value) (Q : VK), Inv X pins σ H s → RelV x v → RelV y u → t x y H Q →
    wpAny (model X.prog X.w) X.A (inplaceOp op v u) (EP X pins σ Q) X.xe s
section
variable {X : Cx} {pos : Pos}
def gName (i : Nat) : TG := fun v σ H Q => Q (σ.set i (some v)) H
theorem pg_name {i : Nat} {x : Str} (hN : X.N.Nodup) (hi : X.N[i]? = some x) (hx : Loc X.env.scope x) (hf : X.fn x = true ∨ X.env.scope.names.lookup x = some .local := by first | exact .inl rfl | exact .inr rfl | assumption) : PG X (.Name x pos) (gName i) := by
  intro pins s σ H v u Q I r h
  exact wpAny_assign_Name (store_ok I hN hi hx r (fun s' I' => ⟨_, H, I', h⟩) hf)
def gNil : TGs := fun vs σ H Q => vs = [] ∧ Q σ H
def gCons (t : TG) (u : TGs) : TGs := fun vs σ H Q => ∃ v r, vs = v :: r ∧ t v σ H fun σ' H' => u r σ' H' Q
theorem pgs_nil : PGs X [] gNil := by
  intro pins s σ H vs us Q I r h
  obtain ⟨e, h⟩ := h
  subst e
  cases r
  exact assignInOrder_nil ⟨σ, H, I, h⟩
theorem pgs_cons {e : Expr} {es : List Expr} {t : TG} {u : TGs} (h1 : PG X e t) (h2 : PGs X es u)
    (hs : (assignEach (e :: es) X.env).map (·.2) = assign e X.env :: (assignEach es X.env).map (·.2) := by rfl) : PGs X (e :: es) (gCons t u) := by
  intro pins s σ H vs us Q I r h
  obtain ⟨v, vr, e1, h⟩ := h
  subst e1
  cases r with
  | cons r rr =>
    rw [hs]
    refine assignInOrder_cons (thn (h1 pins s σ H _ _ _ I r h) fun _ s1 ⟨σ1, H1, I1, q1⟩ => ?_)
    exact h2 pins s1 σ1 H1 _ _ Q I1 rr q1
/-- (a, b, ..) = a tuple of that length -/
def gTup (K : PySem.W.Frag) (n : Nat) (t : TGs) : TG := fun v σ H Q => ∃ a xs, v = .ref a ∧ SqT K H a xs ∧ xs.length = n ∧ t xs σ H Q
theorem pg_tup {es : List Expr} {k : Nat} {t : TGs} {n : Nat} (hc : X.calm = true) (h : PGs X es t)
    (hn : (assignEach es X.env).length = n := by rfl) (hst : (assignEach es X.env).findIdx? (·.1) = none := by rfl) : PG X (.Tuple es k pos) (gTup X.K n t) := by
  intro pins s σ H v u Q I r hw
  obtain ⟨a, xs, e1, hq, hl, hw⟩ := hw
  subst e1
  cases r
  obtain ⟨its, rv, ht, hz⟩ := I.tuple hq
  refine assign_Tuple_tuple (I.ok.hd hc) ht (by simp [hn, ← hl, rv.length]) hst fun h' hx => ?_
  have I1 : Inv X pins σ H { s with heap := h' } := I.kept (t' := s.toks) fun b o e => hx b o (Nat.ne_of_lt (Heap.lt_size e)) e
  exact h pins _ σ H xs _ Q I1 (by simpa using rv) hw
/-- target = value -/
def tAsg (te : TE) (g : TG) : TS := fun D σ H => te σ H fun x H1 => g x σ H1 D.nx
/-- name = value -/
theorem ps_set {i : Nat} {x : Str} {e : Expr} {te : TE} {pos' : Pos} (hN : X.N.Nodup) (hi : X.N[i]? = some x) (hx : Loc X.env.scope x) (he : PE X e te) (hs : swapsWith e (some (.Name x pos')) pos.line X.env = pure false := by rfl) (hf : X.fn x = true ∨ X.env.scope.names.lookup x = some .local := by first | exact .inl rfl | exact .inr rfl | assumption) :
    PS X (.Assign [.Name x pos'] e pos) (tAsg te (gName i)) := by
  intro pins s σ H D I h
  refine wpAny_Assign_Name (thn (he pins s σ H _ I h) fun v s1 ⟨y, H1, I1, r1, q1⟩ => ?_) hs
  exact store_ok I1 hN hi hx r1 (fun s2 I2 => ⟨_, H1, I2, q1⟩) hf
/-- name op= e -/
def tAug (i : Nat) (te : TE) (ti : TIp) : TS := fun D σ H => ∃ x, σ[i]? = some (some x) ∧ te σ H fun y H1 => ti x y H1 fun z H2 => D.nx (σ.set i (some z)) H2
theorem ps_aug {i : Nat} {x : Str} {e : Expr} {te : TE} {op : Operator} {ti : TIp} {pos' : Pos} (hN : X.N.Nodup) (hi : X.N[i]? = some x) (hx : Loc X.env.scope x) (he : PE X e te) (ho : PIp X op ti) (hf : X.fn x = true ∨ X.env.scope.names.lookup x = some .local := by first | exact .inl rfl | exact .inr rfl | assumption) :
    PS X (.AugAssign (.Name x pos') op e pos) (tAug i te ti) := by
  intro pins s σ H D I h
  obtain ⟨v, e1, h⟩ := h
  obtain ⟨m, hn, hl⟩ := I.loc
  have vis : Vis X.env.scope x := by rcases hx with k | k; exact .inl k; exact .inr (.inl k)
  obtain ⟨u, r, l⟩ := hl i x v hi e1 vis
  refine wpAny_AugAssign_Name ?_
  have go : wpAny (model X.prog X.w) X.A (eval e X.env) (fun w s₂ => wpAny (model X.prog X.w) X.A (inplaceOp op u w) (fun r s₃ => wpAny (model X.prog X.w) X.A (storeName X.env x r) (fun _ => SP X pins D .next) X.xe s₃) X.xe s₂) X.xe s := by
    refine thn (he pins s σ H _ I h) fun w s1 ⟨y, H1, I1, r1, q1⟩ => ?_
    refine thn (ho pins s1 σ H1 v y u w _ I1 r r1 q1) fun z s2 ⟨zv, H2, I2, r2, q2⟩ => ?_
    exact store_ok I2 hN hi hx r2 (fun s3 I3 => ⟨_, H2, I3, q2⟩) hf
  rcases l with ⟨hk, hm⟩ | ⟨hk, c, hc, hcell⟩
  · exact wpAny_loadName_local I.ok.kind hk hn hm go
  · rcases hk with hk | hk
    · exact wpAny_loadName_cell I.ok.kind hk hc hcell go
    · rcases hx with k | k
      · have : X.env.scope.names.lookup x = some .free := hk
        rw [k] at this; cases this
      · have : X.env.scope.names.lookup x = some .free := hk
        rw [k] at this; cases this
/-- o[i] op= e -/
def tAugS (to ti te : TE) (tget : V → V → Hp → VK → Prop) (tip : TIp) (tset : TSet) : TS := fun D σ H => to σ H fun o H1 => ti σ H1 fun i H2 => tget o i H2 fun x H3 => te σ H3 fun y H4 => tip x y H4 fun z H5 => tset o i z H5 fun H6 => D.nx σ H6
/-- o[i], by values -/
def PGet (X : Cx) (t : V → V → Hp → VK → Prop) : Prop :=
  ∀ (pins : List (Addr × Obj)) (s : Shared) (σ : St) (H : Hp) (o i : V) (ov iv : Value) (Q : VK), Inv X pins σ H s → RelV o ov → RelV i iv → t o i H Q →
    wpAny (model X.prog X.w) X.A (getItem ov iv) (EP X pins σ Q) X.xe s
theorem ps_augS {o i e : Expr} {to ti te : TE} {tget : V → V → Hp → VK → Prop} {tip : TIp} {tset : TSet} {op : Operator} {tpos : Pos} (ho : PE X o to) (hi : PE X i ti) (hg : PGet X tget) (he : PE X e te) (hp : PIp X op tip) (hs : PSet X tset)
    (ha : ∀ ov iv new, augStore i ov iv new = (do holding [new, ov, iv] (setItem ov iv new); release [new, ov, iv] []; pure .next) := by intros; rfl) : PS X (.AugAssign (.Subscript o i tpos) op e pos) (tAugS to ti te tget tip tset) := by
  intro pins s σ H D I h
  refine wpAny_AugAssign_SubscriptAny (thn (ho pins s σ H _ I h) fun ov s1 ⟨x1, H1, I1, r1, q1⟩ => ?_) ha
  refine thn (hi pins s1 σ H1 _ I1 q1) fun iv s2 ⟨x2, H2, I2, r2, q2⟩ => ?_
  refine thn (hg pins s2 σ H2 x1 x2 ov iv _ I2 r1 r2 q2) fun old s3 ⟨x3, H3, I3, r3, q3⟩ => ?_
  refine thn (he pins s3 σ H3 _ I3 q3) fun v s4 ⟨x4, H4, I4, r4, q4⟩ => ?_
  refine thn (hp pins s4 σ H4 x3 x4 old v _ I4 r3 r4 q4) fun new s5 ⟨x5, H5, I5, r5, q5⟩ => ?_
  exact thn (hs pins s5 σ H5 x1 x2 x5 ov iv new _ I5 r1 r2 r5 q5) fun _ s6 ⟨H6, I6, q6⟩ => ⟨σ, H6, I6, q6⟩
/-- ints -/
def ipI (f : Int → Int → Int) : TIp := fun x y H Q => ∃ i j, x = .int i ∧ y = .int j ∧ Q (.int (f i j)) H
theorem ip_add : PIp X .Add (ipI fun i j => i + j) := by
  intro pins s σ H x y v u Q I r1 r2 h
  obtain ⟨i, j, e1, e2, q⟩ := h
  subst e1; subst e2
  obtain ⟨t, rfl⟩ := r1
  obtain ⟨t', rfl⟩ := r2
  exact iadd_int ⟨.int _, H, I.tok _, ⟨_, rfl⟩, q⟩
end
/-! ### while -/
section
variable {X : Cx} {pos : Pos}
/-- the invariant W with its measure -/
def tWhile (c : TT) (tb : TS) : TS := fun D σ H => ∃ W : Nat → St → Hp → Prop, (∃ m, W m σ H) ∧ ∀ m σ H, W m σ H →
  c σ H fun b H1 => if b = true then ∃ N : St → Hp → Prop, (∀ σ' H', N σ' H' → ∃ m', m' < m ∧ W m' σ' H') ∧ tb { D with nx := N, ct := N, bk := D.nx } σ H1 else D.nx σ H1
theorem ps_while {c : Expr} {body : List Stmt} {tc : TT} {tb : TS} (hp : PassesOwn (model X.prog X.w) X.A X.env X.xe) (hc : PT X c tc) (hb : PSs X body tb) : PS X (.While c body [] pos) (tWhile tc tb) := by
  intro pins s σ H D I h
  obtain ⟨W, ⟨m0, w0⟩, turn⟩ := h
  refine wpAny_While (codeAny_whileLoop (fun n s' => ∃ σ' H', Inv X pins σ' H' s' ∧ W n σ' H') ?_ m0 ⟨σ, H, I, w0⟩)
  rintro n s1 ⟨σ1, H1, I1, w1⟩
  refine wpAny_passesOwn hp (thn (hc pins s1 σ1 H1 _ I1 (turn n σ1 H1 w1)) fun b s2 ⟨H2, I2, q2⟩ => ?_)
  cases b with
  | true =>
    obtain ⟨N, hN, q2⟩ := q2
    rw [if_pos rfl]
    refine wpAny_passesOwn hp (thn (hb pins s2 σ1 H2 _ I2 q2) fun f s3 q3 => ?_)
    cases f with
    | next =>
      obtain ⟨σ3, H3, I3, n3⟩ := q3
      obtain ⟨m', hm, w3⟩ := hN σ3 H3 n3
      exact ⟨m', hm, σ3, H3, I3, w3⟩
    | cont =>
      obtain ⟨σ3, H3, I3, n3⟩ := q3
      obtain ⟨m', hm, w3⟩ := hN σ3 H3 n3
      exact ⟨m', hm, σ3, H3, I3, w3⟩
    | brk => exact q3
    | ret v => exact q3
  | false =>
    rw [if_neg Bool.false_ne_true]
    exact wpAny_execs_nil ⟨σ1, H2, I2, q2⟩
end
/-! ### what a loop or a comprehension walks -/
/-- at turn i: it yields x (the heap may grow), or it stops -/
structure It where
  go : Nat → Hp → Prop
  yld : Nat → Hp → V → Hp → Prop
  stop : Nat → Hp → Prop
/-- the iterator's own objects may turn: they are not the frame's, not pinned, younger than the entry (or a comprehension's own) -/
def FpOk (X : Cx) (pins : List (Addr × Obj)) (H : Hp) (b : Addr) : Prop :=
  H b = none ∧ b ≠ X.env.locals ∧ b ∉ X.fs ∧ (b ∈ X.ex ∨ X.s_0.heap.objs.size ≤ b) ∧ (∀ x c, X.env.cells.lookup x = some c → c ≠ b) ∧ ∀ p ∈ X.pn ++ pins, p.1 ≠ b
theorem Inv.fpOk {X : Cx} {pins : List (Addr × Obj)} {σ : St} {H H' : Hp} {s : Shared} {b : Addr} (I : Inv X pins σ H s) (hb : s.heap.objs.size ≤ b) (hn : H' b = none) : FpOk X pins H' b := by
  refine ⟨hn, Nat.ne_of_gt (Nat.lt_of_lt_of_le I.lt hb), I.nofs hb, .inr (Nat.le_trans I.sz hb), fun x c e z => ?_, fun p hp z => ?_⟩
  · obtain ⟨v, q⟩ := I.cell x c e
    exact absurd (Nat.lt_of_lt_of_le q.lt (by rw [z]; exact hb)) (Nat.lt_irrefl _)
  · exact absurd (Nat.lt_of_lt_of_le (Heap.lt_size (I.pin p hp).1) (by rw [z]; exact hb)) (Nat.lt_irrefl _)
structure Turn (P : Program) (w : World) (K : PySem.W.Frag) (tg : Expr) (J : It) (fp : List Addr) (it : Addr) (tn : Nat → Heap → Prop) : Prop where
  mem : it ∈ fp
  obj : ∀ i h, tn i h → ∀ b ∈ fp, ∃ o, h.get? b = some o ∧ ∀ v, o.data ≠ .cell v
  keep : ∀ i h h', tn i h → (∀ b ∈ fp, ∀ o, h.get? b = some o → h'.get? b = some o) → tn i h'
  item : ∀ (X : Cx), X.prog = P → X.w = w → X.K = K → X.calm = true → ∀ (i : Nat) (pins : List (Addr × Obj)) (s : Shared) (σ : St) (H : Hp) (E : Value → Shared → Prop), Inv X pins σ H s → (∀ b ∈ fp, FpOk X pins H b) → tn i s.heap → J.go i H →
    wpAny (model P w) X.A (pyNext (.ref it)) (fun r s1 => ∃ u, r = some u ∧
      wpAny (model P w) X.A (letOwnedTupleGo tg (.ref it) u) (fun _ s2 => ∃ x H', Inv X pins σ H' s2 ∧ RelV x u ∧ J.yld i H x H' ∧ tn (i + 1) s2.heap ∧ ∀ b ∈ fp, H' b = none) E s1) E s
  done : ∀ (X : Cx), X.prog = P → X.w = w → X.K = K → X.calm = true → ∀ (i : Nat) (pins : List (Addr × Obj)) (s : Shared) (σ : St) (H : Hp) (E : Value → Shared → Prop), Inv X pins σ H s → (∀ b ∈ fp, FpOk X pins H b) → tn i s.heap → J.stop i H →
    wpAny (model P w) X.A (pyNext (.ref it)) (fun r s1 => r = none ∧ Inv X pins σ H s1) E s
  self : ∀ (A : Around) (i : Nat) (s : Shared) (Q : Value → Shared → Prop) (E : Value → Shared → Prop), tn i s.heap → Q (.ref it) s → wpAny (model P w) A (pyIter (.ref it)) Q E s
abbrev TI := St → Hp → (It → Hp → Prop) → Prop
/-- an iterator has come -/
def PIE (X : Cx) (pins : List (Addr × Obj)) (σ : St) (tg : Expr) (R : It → Hp → Prop) (itv : Value) (s2 : Shared) : Prop :=
  ∃ (it : Addr) (fp : List Addr) (tn : Nat → Heap → Prop) (J : It) (H' : Hp), itv = .ref it ∧ Inv X pins σ H' s2 ∧ Turn X.prog X.w X.K tg J fp it tn ∧ tn 0 s2.heap ∧ (∀ b ∈ fp, FpOk X pins H' b) ∧ R J H'
def PI (X : Cx) (tg iter : Expr) (wi : TI) : Prop :=
  ∀ (pins : List (Addr × Obj)) (s : Shared) (σ : St) (H : Hp) (R : It → Hp → Prop), Inv X pins σ H s → wi σ H R →
    wpAny (model X.prog X.w) X.A (eval iter X.env) (fun v s1 => wpAny (model X.prog X.w) X.A (pyIter v) (PIE X pins σ tg R) X.xe s1) X.xe s
/-- the step ahead of the store is nothing for an iterator that keeps no tuple -/
theorem go_of {M : Model} {A : Around} {E : Value → Shared → Prop} {s : Shared} {tg : Expr} {it : Addr} {u : Value} {o : Obj} {n : String} {vs : Array Value} {Q : Unit → Shared → Prop} (ho : s.heap.get? it = some o) (hc : o.cls = .type n) (hd : o.data = .fields vs)
    (hn : ["enumerate", "zip", "dict_itemiterator", "dict_reverseitemiterator", "odict_iterator", "itertools.zip_longest", "itertools.pairwise"].contains n = false) (hQ : Q () s) : wpAny M A (letOwnedTupleGo tg (.ref it) u) Q E s := by
  unfold letOwnedTupleGo
  cases tg <;> first
    | exact wpAny_pure hQ
    | (cases u <;> first
        | exact wpAny_pure hQ
        | (refine wpAny_bind (wpAny_load ho ?_)
           rw [hc, hd]
           show wpAny M A (if (["enumerate", "zip", "dict_itemiterator", "dict_reverseitemiterator", "odict_iterator", "itertools.zip_longest", "itertools.pairwise"].contains n && vs[0]? == some (rawInt _)) = true then _ else _) Q E s
           rw [if_neg (by intro h; rw [hn, Bool.false_and] at h; cases h)]
           exact wpAny_pure hQ))
/-- the list at a, as it stands at each turn (a loop may append to it) -/
def Itl (K : PySem.W.Frag) (a : Addr) : It :=
  ⟨fun i H => ∃ xs x, SqL K H a xs ∧ xs[i]? = some x, fun i H x H' => H' = H ∧ ∀ xs, SqL K H a xs → xs[i]? = some x, fun i H => ∃ xs, SqL K H a xs ∧ xs.length ≤ i⟩
/-- lo, lo + 1, .. (n of them) -/
def Itr (lo : Int) (n : Nat) : It := ⟨fun i _ => i < n, fun i H x H' => H' = H ∧ x = .int (lo + i), fun i _ => n ≤ i⟩
theorem turn_list {P : Program} {w : World} {K : PySem.W.Frag} {tg : Expr} (a it : Addr) : Turn P w K tg (Itl K a) [it] it (fun i h => h.IsListIter it a i) where
  mem := by simp
  obj := fun i h st b hb => by
    have e : b = it := by simpa using hb
    subst e
    obtain ⟨o, e, c, d⟩ := st
    exact ⟨o, e, fun v z => by rw [d] at z; cases z⟩
  keep := fun i h h' st k => st.at fun o e => k it (by simp) o e
  item := by
    intro X hP hw hK hc i pins s σ H E I hf st hg
    subst hP hw hK
    obtain ⟨xs, x, hq, hx⟩ := hg
    obtain ⟨its, rv, p, hz⟩ := I.list hq
    obtain ⟨u, hu, ru⟩ := rv.get hx
    obtain ⟨f0, f1, f2, f3, f4, f5⟩ := hf it (by simp)
    refine wpAny_pyNext_list_item st p.isList (x := u) (by simpa using hu) fun h' st' sb => ?_
    have I1 : Inv X pins σ H { s with heap := h' } := I.turned (t' := s.toks) (fun b o hb e => (sb.2 b hb).trans e) f0 f1 f3 f4 f5
    obtain ⟨o, e, c, d⟩ := id st'
    exact ⟨u, rfl, go_of (s := { s with heap := h' }) e c d (by decide) ⟨x, H, I1, ru, ⟨rfl, fun ys hy => by rw [I.list_inj hy hq]; exact hx⟩, st', fun b hb => (hf b hb).1⟩⟩
  done := by
    intro X hP hw hK hc i pins s σ H E I hf st hg
    subst hP hw hK
    obtain ⟨xs, hq, hx⟩ := hg
    obtain ⟨its, rv, p, hz⟩ := I.list hq
    obtain ⟨f0, f1, f2, f3, f4, f5⟩ := hf it (by simp)
    have hl := rv.length
    exact wpAny_pyNext_list_end (I.ok.hd hc) st p.isList (by simp; omega) fun h' eb => ⟨rfl, I.turned (t' := s.toks) (fun b o hb e => eb b o hb e) f0 f1 f3 f4 f5⟩
  self := fun _ _ _ _ _ st h => wpAny_pyIter_listiter st h
theorem turn_range {P : Program} {w : World} {K : PySem.W.Frag} {tg : Expr} (it : Addr) (lo : Int) (n : Nat) : Turn P w K tg (Itr lo n) [it] it (fun i h => IsRangeIter h it (lo + (i : Nat) * 1) ((n : Int) - (i : Nat)) 1) where
  mem := by simp
  obj := fun i h st b hb => by
    have e : b = it := by simpa using hb
    subst e
    exact ⟨_, st, fun v z => by
      have z' : Data.fields _ = Data.cell v := z
      cases z'⟩
  keep := fun i h h' st k => k it (by simp) _ st
  item := by
    intro X hP hw hK hc i pins s σ H E I hf st hg
    subst hP hw hK
    obtain ⟨f0, f1, f2, f3, f4, f5⟩ := hf it (by simp)
    have W := Walks.range (prog := X.prog) (w := X.w) (I.ok.hd hc) it lo 1 n
    refine W.item i s _ _ hg st fun v h' tk hv st' kk => ?_
    obtain ⟨t, rfl⟩ := hv
    have I1 : Inv X pins σ H { s with heap := h', toks := tk } := I.turned (fun b o hb e => kk b o (by simpa using hb) e) f0 f1 f3 f4 f5
    refine ⟨_, rfl, go_of (s := { s with heap := h', toks := tk }) (n := "range_iterator") st' rfl rfl (by decide) ⟨.int (lo + i), H, I1, ⟨t, ?_⟩, ⟨rfl, rfl⟩, st', fun b hb => (hf b hb).1⟩⟩
    rw [Int.mul_one]
  done := by
    intro X hP hw hK hc i pins s σ H E I hf st hg
    subst hP hw hK
    obtain ⟨f0, f1, f2, f3, f4, f5⟩ := hf it (by simp)
    exact wpAny_pyNext_range_end (I.ok.hd hc) st (by have : n ≤ i := hg; omega) fun h' eb => ⟨rfl, I.turned (t' := s.toks) (fun b o hb e => eb b o hb e) f0 f1 f3 f4 f5⟩
  self := fun _ _ _ _ _ st h => wpAny_pyIter_rangeiter st h
end L2
namespace L2
open PySem PySem.Spec PyProof.Rows
section
variable {X : Cx} {tg : Expr}
def iList (K : PySem.W.Frag) (tl : TE) : TI := fun σ H R => tl σ H fun x H1 => ∃ a, x = .ref a ∧ (∃ xs, SqL K H1 a xs) ∧ R (Itl K a) H1
theorem pi_list {l : Expr} {tl : TE} (hl : PE X l tl) : PI X tg l (iList X.K tl) := by
  intro pins s σ H R I h
  refine thn (hl pins s σ H _ I h) fun v s1 ⟨x, H1, I1, r1, q1⟩ => ?_
  obtain ⟨a, e, ⟨xs, hq⟩, q⟩ := q1
  subst e
  cases r1
  obtain ⟨its, rv, p, hz⟩ := I1.list hq
  refine wpAny_pyIter_list p.isList ?_
  refine ⟨s1.heap.objs.size, [s1.heap.objs.size], _, _, H1, rfl, I1.kept (t' := s1.toks) fun b o e => Heap.get?_push_of_some _ e, turn_list a _, ⟨_, Heap.get?_push_size _ rfl, rfl, rfl⟩, fun b hb => ?_, q⟩
  have e : b = s1.heap.objs.size := by simpa using hb
  subst e
  exact I1.fpOk (Nat.le_refl _) (I1.hok.fresh (Nat.le_refl _))
/-- a range object just made, walked -/
theorem range_it {pins : List (Addr × Obj)} {σ : St} {H : Hp} {s : Shared} {R : It → Hp → Prop} {E : Value → Shared → Prop} {lo hi : Int} {t u v : Tok} {tk : Nat} (I : Inv X pins σ H s) (h1 : -(2 ^ 62) ≤ lo) (h2 : lo < 2 ^ 62) (h3 : -(2 ^ 62) ≤ hi) (h4 : hi < 2 ^ 62)
    (q : R (Itr lo (hi - lo).toNat) H) : wpAny (model X.prog X.w) X.A (pyIter (.ref s.heap.objs.size)) (PIE X pins σ tg R) E { s with heap := s.heap.push { cls := .type "range", data := .fields #[.int lo t, .int hi u, .int 1 v] }, toks := tk } := by
  refine wpAny_pyIter_range (IsRange.new ..) (small_one h1 h2 h3 h4) ?_
  have I1 : Inv X pins σ H { s with heap := s.heap.push { cls := .type "range", data := .fields #[.int lo t, .int hi u, .int 1 v] }, toks := tk } := I.kept fun b o e => Heap.get?_push_of_some _ e
  refine ⟨(s.heap.push { cls := .type "range", data := .fields #[.int lo t, .int hi u, .int 1 v] }).objs.size, [(s.heap.push { cls := .type "range", data := .fields #[.int lo t, .int hi u, .int 1 v] }).objs.size], _, _, H, rfl,
    I1.kept (t' := tk) fun b o e => Heap.get?_push_of_some _ e, turn_range _ lo (hi - lo).toNat, ?_, fun b hb => ?_, q⟩
  · have e1 : lo + ((0 : Nat) : Int) * 1 = lo := by simp
    have e2 : (((hi - lo).toNat : Nat) : Int) - ((0 : Nat) : Int) = Builtin.Range.rangeSize lo hi 1 := by rw [rangeSize_one]; split <;> omega
    show IsRangeIter _ _ (lo + ((0 : Nat) : Int) * 1) ((((hi - lo).toNat : Nat) : Int) - ((0 : Nat) : Int)) 1
    rw [e1, e2]
    exact Heap.get?_push_size _ rfl
  · have e : b = (s.heap.push { cls := .type "range", data := .fields #[.int lo t, .int hi u, .int 1 v] }).objs.size := by simpa using hb
    subst e
    exact I1.fpOk (Nat.le_refl _) (I1.hok.fresh (Nat.le_refl _))
def iRng1 (ta : TA) : TI := fun σ H R => ta σ H fun vs H1 => ∃ j : Int, vs = [.int j] ∧ -(2 ^ 62) ≤ j ∧ j < 2 ^ 62 ∧ R (Itr 0 j.toNat) H1
def iRng2 (ta : TA) : TI := fun σ H R => ta σ H fun vs H1 => ∃ i j : Int, vs = [.int i, .int j] ∧ (-(2 ^ 62) ≤ i ∧ i < 2 ^ 62 ∧ -(2 ^ 62) ≤ j ∧ j < 2 ^ 62) ∧ R (Itr i (j - i).toNat) H1
theorem pi_range1 {a : Expr} {ta : TA} {p pos : Pos} (hg : Gl X "range") (hm : X.mg "range" = none) (ha : PA X [a] ta) (hs : starEach [a] X.env = [(false, eval a X.env)] := by rfl) : PI X tg (.Call (.Name "range" p) [a] [] pos) (iRng1 ta) := by
  intro pins s σ H R I h
  refine Call_ (ld_blt I hg hm boot_range (PyProof.Rows.callWith_type1 (thn (ha pos pins s σ H _ I h) fun us s1 ⟨vs, H1, I1, r1, q1⟩ => ?_) hs rfl))
  obtain ⟨j, e, q1, q2, q⟩ := q1
  subst e
  cases r1 with
  | cons r rr =>
    cases rr
    obtain ⟨t, rfl⟩ := r
    exact call_range_1 (range_it I1 (by omega) (by omega) q1 q2 (by simpa using q))
theorem pi_range2 {a b : Expr} {ta : TA} {p pos : Pos} (hg : Gl X "range") (hm : X.mg "range" = none) (ha : PA X [a, b] ta) (hs : starEach [a, b] X.env = [(false, eval a X.env), (false, eval b X.env)] := by rfl) (hs2 : starEach [b] X.env = [(false, eval b X.env)] := by rfl) :
    PI X tg (.Call (.Name "range" p) [a, b] [] pos) (iRng2 ta) := by
  intro pins s σ H R I h
  refine Call_ (ld_blt I hg hm boot_range (PyProof.Rows.callWith_type1 (thn (ha pos pins s σ H _ I h) fun us s1 ⟨vs, H1, I1, r1, q1⟩ => ?_) (by rw [hs, hs2]) (by rw [hs2]; rfl)))
  obtain ⟨i, j, e, ⟨q1, q2, q3, q4⟩, q⟩ := q1
  subst e
  cases r1 with
  | cons r rr =>
    cases rr with
    | cons r' rr =>
      cases rr
      obtain ⟨t, rfl⟩ := r
      obtain ⟨t', rfl⟩ := r'
      exact call_range_2 (range_it I1 q1 q2 q3 q4 q)
/-! ### for -/
/-- W: the invariant by the turn and a measure; N: what the body is to reach -/
def tFor (wi : TI) (g : TG) (tb : TS) : TS := fun D σ H => wi σ H fun J H1 => ∃ W : Nat → Nat → St → Hp → Prop, (∃ m, W 0 m σ H1) ∧ ∀ i m σ H, W i m σ H →
  (J.stop i H ∧ D.nx σ H) ∨ (J.go i H ∧ ∃ N : St → Hp → Prop, (∀ σ' H', N σ' H' → ∃ m', m' < m ∧ W (i + 1) m' σ' H') ∧ ∀ x H', J.yld i H x H' → g x σ H' fun σ2 H2 => tb { D with nx := N, ct := N, bk := D.nx } σ2 H2)
/-- the records at fp as they stand -/
def pinsAt (fp : List Addr) (h : Heap) : List (Addr × Obj) := fp.filterMap fun b => (h.get? b).map fun o => (b, o)
theorem mem_pinsAt {fp : List Addr} {h : Heap} {b : Addr} {o : Obj} (hb : b ∈ fp) (e : h.get? b = some o) : (b, o) ∈ pinsAt fp h := List.mem_filterMap.mpr ⟨b, hb, by rw [e]; rfl⟩
theorem of_pinsAt {fp : List Addr} {h : Heap} {p : Addr × Obj} (hp : p ∈ pinsAt fp h) : p.1 ∈ fp ∧ h.get? p.1 = some p.2 := by
  obtain ⟨b, hb, e⟩ := List.mem_filterMap.mp hp
  cases q : h.get? b with
  | none => rw [q] at e; cases e
  | some o =>
    rw [q] at e
    have e' : (b, o) = p := Option.some.inj e
    subst e'
    exact ⟨hb, q⟩
theorem Inv.pinned {pins : List (Addr × Obj)} {σ : St} {H : Hp} {s : Shared} {fp : List Addr} (I : Inv X pins σ H s) (hf : ∀ b ∈ fp, FpOk X pins H b) (ho : ∀ b ∈ fp, ∃ o, s.heap.get? b = some o ∧ ∀ v, o.data ≠ .cell v) : Inv X (pins ++ pinsAt fp s.heap) σ H s :=
  I.pins_of fun p hp => (List.mem_append.mp hp).elim (fun z => I.pin p (List.mem_append_right _ z)) fun z => by
    obtain ⟨hb, e⟩ := of_pinsAt z
    obtain ⟨f0, f1, f2, _⟩ := hf p.1 hb
    obtain ⟨o, e', d⟩ := ho p.1 hb
    rw [e] at e'; cases e'
    exact ⟨e, f0, f1, f2, d⟩
theorem Inv.unpinned {pins pl : List (Addr × Obj)} {σ : St} {H : Hp} {s : Shared} (I : Inv X (pins ++ pl) σ H s) : Inv X pins σ H s := I.pins_of fun p hp => I.pin p (List.mem_append_right _ (List.mem_append_left _ hp))
theorem ps_for {iter : Expr} {body : List Stmt} {wi : TI} {g : TG} {tb : TS} {pos : Pos} (hp : PassesOwn (model X.prog X.w) X.A X.env X.xe) (hc : X.calm = true) (hi : PI X tg iter wi) (hg : PG X tg g) (hb : PSs X body tb)
    (hs : ∀ x, foldedSetIterable iter X.env x = pure x := by intro _; rfl) : PS X (.For tg iter body [] pos) (tFor wi g tb) := by
  intro pins s σ H D I h
  refine wpAny_For (thn (hi pins s σ H _ I h) fun v s1 h1 => thn h1 fun itv s2 h2 => ?_) hs
  obtain ⟨it, fp, tn, J, H2, e, I2, T, st2, f2, W, ⟨m0, w0⟩, turn⟩ := h2
  subst e
  -- what stays true of the iterator's objects through the loop
  have stat : ∀ {H' : Hp}, (∀ b ∈ fp, H' b = none) → ∀ b ∈ fp, FpOk X pins H' b := fun hn b hb => ⟨hn b hb, (f2 b hb).2⟩
  refine codeAny_forLoop_any (fun n s' => ∃ i σ' H', Inv X pins σ' H' s' ∧ tn i s'.heap ∧ (∀ b ∈ fp, H' b = none) ∧ W i n σ' H') ?_ m0 ⟨0, σ, H2, I2, st2, fun b hb => (f2 b hb).1, w0⟩
  rintro n s3 ⟨i, σ3, H3, I3, st3, fr3, w3⟩
  rcases turn i n σ3 H3 w3 with ⟨stop, qn⟩ | ⟨go, N, hN, step⟩
  · refine wpAny_passesOwn hp (thn (T.done X rfl rfl rfl hc i pins s3 σ3 H3 X.xe I3 (stat fr3) st3 stop) fun r s4 ⟨hr, I4⟩ => ?_)
    subst hr
    exact wpAny_execs_nil ⟨σ3, H3, I4, qn⟩
  · refine wpAny_passesOwn hp (thn (T.item X rfl rfl rfl hc i pins s3 σ3 H3 X.xe I3 (stat fr3) st3 go) fun r s4 ⟨u, hr, h4⟩ => ?_)
    subst hr
    refine wpAny_passesOwn hp (thn h4 fun _ s5 ⟨x, H5, I5, r5, y5, st5, fr5⟩ => ?_)
    have I5' := I5.pinned (stat fr5) (T.obj _ _ st5)
    refine wpAny_passesOwn hp (thn (hg _ s5 σ3 H5 x u _ I5' r5 (step x H5 y5)) fun _ s6 ⟨σ6, H6, I6, q6⟩ => ?_)
    refine wpAny_passesOwn hp (thn (hb _ s6 σ6 H6 _ I6 q6) fun f s7 q7 => ?_)
    have again : ∀ {σ7 : St} {H7 : Hp}, Inv X (pins ++ pinsAt fp s5.heap) σ7 H7 s7 → N σ7 H7 → ∃ m, m < n ∧ ∃ i σ' H', Inv X pins σ' H' s7 ∧ tn i s7.heap ∧ (∀ b ∈ fp, H' b = none) ∧ W i m σ' H' := fun {σ7 H7} I7 n7 => by
      obtain ⟨m', hm, w7⟩ := hN σ7 H7 n7
      refine ⟨m', hm, i + 1, σ7, H7, I7.unpinned, T.keep _ _ _ st5 fun b hb o e => (I7.pin (b, o) (List.mem_append_right _ (List.mem_append_right _ (mem_pinsAt hb e)))).1, fun b hb => ?_, w7⟩
      obtain ⟨o, e, d⟩ := T.obj _ _ st5 b hb
      exact (I7.pin (b, o) (List.mem_append_right _ (List.mem_append_right _ (mem_pinsAt hb e)))).2.1
    cases f with
    | next => obtain ⟨σ7, H7, I7, n7⟩ := q7; exact again I7 n7
    | cont => obtain ⟨σ7, H7, I7, n7⟩ := q7; exact again I7 n7
    | brk => obtain ⟨σ7, H7, I7, q7⟩ := q7; exact ⟨σ7, H7, I7.unpinned, q7⟩
    | ret v => obtain ⟨x7, σ7, H7, I7, r7, q7⟩ := q7; exact ⟨x7, σ7, H7, I7.unpinned, r7, q7⟩
end
/-! ### the forms one uses -/
/-- over a list that the body leaves as it is -/
theorem for_list {K : PySem.W.Frag} {a : Addr} {xs : List V} {g : TG} {tb : TS} {D : Ends} {σ : St} {H : Hp} (Pv : Nat → St → Hp → Prop) (h0 : Pv 0 σ H) (hl : ∀ i σ H, i ≤ xs.length → Pv i σ H → SqL K H a xs)
    (hs : ∀ i x σ H, xs[i]? = some x → Pv i σ H → g x σ H fun σ2 H2 => tb { D with nx := Pv (i + 1), ct := Pv (i + 1), bk := D.nx } σ2 H2) (hd : ∀ σ H, Pv xs.length σ H → D.nx σ H) :
    ∃ W : Nat → Nat → St → Hp → Prop, (∃ m, W 0 m σ H) ∧ ∀ i m σ H, W i m σ H →
      ((Itl K a).stop i H ∧ D.nx σ H) ∨ ((Itl K a).go i H ∧ ∃ N : St → Hp → Prop, (∀ σ' H', N σ' H' → ∃ m', m' < m ∧ W (i + 1) m' σ' H') ∧ ∀ x H', (Itl K a).yld i H x H' → g x σ H' fun σ2 H2 => tb { D with nx := N, ct := N, bk := D.nx } σ2 H2) := by
  refine ⟨fun i m σ H => m = xs.length - i ∧ i ≤ xs.length ∧ Pv i σ H, ⟨xs.length, by simp, Nat.zero_le _, h0⟩, ?_⟩
  rintro i m σ H ⟨rfl, hi, p⟩
  have q := hl i σ H hi p
  by_cases hlt : i < xs.length
  · refine .inr ⟨⟨xs, xs[i], q, by simp [hlt]⟩, Pv (i + 1), fun σ' H' p' => ⟨xs.length - (i + 1), by omega, rfl, hlt, p'⟩, fun x H' y => ?_⟩
    obtain ⟨e, y⟩ := y
    subst e
    exact hs i x σ _ (y xs q) p
  · have e : i = xs.length := by omega
    subst e
    exact .inl ⟨⟨xs, q, Nat.le_refl _⟩, hd σ H p⟩
theorem for_range {lo : Int} {n : Nat} {g : TG} {tb : TS} {D : Ends} {σ : St} {H : Hp} (Pv : Nat → St → Hp → Prop) (h0 : Pv 0 σ H)
    (hs : ∀ i σ H, i < n → Pv i σ H → g (.int (lo + i)) σ H fun σ2 H2 => tb { D with nx := Pv (i + 1), ct := Pv (i + 1), bk := D.nx } σ2 H2) (hd : ∀ σ H, Pv n σ H → D.nx σ H) :
    ∃ W : Nat → Nat → St → Hp → Prop, (∃ m, W 0 m σ H) ∧ ∀ i m σ H, W i m σ H →
      ((Itr lo n).stop i H ∧ D.nx σ H) ∨ ((Itr lo n).go i H ∧ ∃ N : St → Hp → Prop, (∀ σ' H', N σ' H' → ∃ m', m' < m ∧ W (i + 1) m' σ' H') ∧ ∀ x H', (Itr lo n).yld i H x H' → g x σ H' fun σ2 H2 => tb { D with nx := N, ct := N, bk := D.nx } σ2 H2) := by
  refine ⟨fun i m σ H => m = n - i ∧ i ≤ n ∧ Pv i σ H, ⟨n, by simp, Nat.zero_le _, h0⟩, ?_⟩
  rintro i m σ H ⟨rfl, hi, p⟩
  by_cases hlt : i < n
  · refine .inr ⟨hlt, Pv (i + 1), fun σ' H' p' => ⟨n - (i + 1), by omega, rfl, hlt, p'⟩, fun x H' y => ?_⟩
    obtain ⟨e, y⟩ := y
    subst e y
    exact hs i σ _ hlt p
  · have e : i = n := by omega
    subst e
    exact .inl ⟨Nat.le_refl _, hd σ H p⟩
end L2
namespace L2
open PySem PySem.Spec PyProof.Rows
abbrev R2 := V → V → Hp → VK → Prop
/-- a two-place operation on values: f is binaryOp op, inplaceOp op or compareOp op -/
def OpR (X : Cx) (f : Value → Value → Sem Value) (r : R2) : Prop :=
  ∀ (pins : List (Addr × Obj)) (s : Shared) (σ : St) (H : Hp) (x y : V) (v u : Value) (Q : VK), Inv X pins σ H s → RelV x v → RelV y u → r x y H Q →
    wpAny (model X.prog X.w) X.A (f v u) (EP X pins σ Q) X.xe s
/-- a call of a value that is known (a builtin, a type) with values -/
def CallR (X : Cx) (f : Value) (r : List V → Hp → VK → Prop) : Prop :=
  ∀ (pins : List (Addr × Obj)) (s : Shared) (σ : St) (H : Hp) (xs : List V) (us : List Value) (Q : VK), Inv X pins σ H s → Vals xs us → r xs H Q →
    wpAny (model X.prog X.w) X.A (call f us) (EP X pins σ Q) X.xe s
def tOp (r : R2) (ta tb : TE) : TE := fun σ H Q => ta σ H fun x H1 => tb σ H1 fun y H2 => r x y H2 Q
/-- ints in, under C, and a value out -/
def rI (C : Int → Int → Prop) (g : Int → Int → V) : R2 := fun x y H Q => ∃ i j, x = .int i ∧ y = .int j ∧ C i j ∧ Q (g i j) H
def rI0 (g : Int → Int → V) : R2 := fun x y H Q => ∃ i j, x = .int i ∧ y = .int j ∧ Q (g i j) H
section
variable {X : Cx} {a b c : Expr} {ta tb tc : TE} {pos : Pos}
theorem binT (ha : PE X a ta) (hb : PE X b tb) {pins : List (Addr × Obj)} {s : Shared} {σ : St} {H : Hp} {R : V → V → Hp → Prop} (I : Inv X pins σ H s)
    (h : ta σ H fun x H1 => tb σ H1 fun y H2 => R x y H2) {Q : Value → Shared → Prop} {f : Value → Value → Sem Value}
    (hf : ∀ v u s2 x y H2, Inv X pins σ H2 s2 → RelV x v → RelV y u → R x y H2 → wpAny (model X.prog X.w) X.A (f v u) Q X.xe s2) :
    wpAny (model X.prog X.w) X.A (eval a X.env) (fun v s₁ => wpAny (model X.prog X.w) X.A (eval b X.env) (fun u s₂ => wpAny (model X.prog X.w) X.A (f v u) Q X.xe s₂) X.xe s₁) X.xe s := by
  refine thn (ha pins s σ H _ I h) fun v s1 ⟨x, H1, I1, r1, q1⟩ => ?_
  refine thn (hb pins s1 σ H1 _ I1 q1) fun u s2 ⟨y, H2, I2, r2, q2⟩ => ?_
  exact hf v u s2 x y H2 I2 r1 r2 q2
theorem pe_op {op : Operator} {r : R2} (ho : OpR X (binaryOp op) r) (ha : PE X a ta) (hb : PE X b tb) : PE X (.BinOp a op b pos) (tOp r ta tb) := by
  intro pins s σ H Q I h
  exact wpAny_BinOp (binT ha hb I h fun v u s2 x y H2 I2 rx ry q => ho pins s2 σ H2 x y v u Q I2 rx ry q)
/-! ### ints -/
theorem opI {f : Value → Value → Sem Value} {C : Int → Int → Prop} {g : Int → Int → Int}
    (rule : ∀ (i j : Int) (t u : Tok) (s : Shared) (Q : Value → Shared → Prop) (E : Value → Shared → Prop), C i j → Q (.int (g i j) s.toks) { s with toks := s.toks + 1 } → wpAny (model X.prog X.w) X.A (f (.int i t) (.int j u)) Q E s) :
    OpR X f (rI C fun i j => .int (g i j)) := by
  intro pins s σ H x y v u Q I rx ry h
  obtain ⟨i, j, rfl, rfl, hc, q⟩ := h
  obtain ⟨t, rfl⟩ := rx
  obtain ⟨t', rfl⟩ := ry
  exact rule i j t t' s _ _ hc ⟨.int (g i j), H, I.tok _, ⟨_, rfl⟩, q⟩
theorem opI0 {f : Value → Value → Sem Value} {g : Int → Int → Int}
    (rule : ∀ (i j : Int) (t u : Tok) (s : Shared) (Q : Value → Shared → Prop) (E : Value → Shared → Prop), Q (.int (g i j) s.toks) { s with toks := s.toks + 1 } → wpAny (model X.prog X.w) X.A (f (.int i t) (.int j u)) Q E s) :
    OpR X f (rI0 fun i j => .int (g i j)) := by
  intro pins s σ H x y v u Q I rx ry h
  obtain ⟨i, j, rfl, rfl, q⟩ := h
  obtain ⟨t, rfl⟩ := rx
  obtain ⟨t', rfl⟩ := ry
  exact rule i j t t' s _ _ ⟨.int (g i j), H, I.tok _, ⟨_, rfl⟩, q⟩
theorem opB0 {f : Value → Value → Sem Value} {g : Int → Int → Bool}
    (rule : ∀ (i j : Int) (t u : Tok) (s : Shared) (Q : Value → Shared → Prop) (E : Value → Shared → Prop), Q (.bool (g i j)) s → wpAny (model X.prog X.w) X.A (f (.int i t) (.int j u)) Q E s) :
    OpR X f (rI0 fun i j => .bl (g i j)) := by
  intro pins s σ H x y v u Q I rx ry h
  obtain ⟨i, j, rfl, rfl, q⟩ := h
  obtain ⟨t, rfl⟩ := rx
  obtain ⟨t', rfl⟩ := ry
  exact rule i j t t' s _ _ ⟨.bl (g i j), H, I, rfl, q⟩
def CPow (i j : Int) : Prop := 0 ≤ j ∧ j ≤ 1000000 ∧ i.natAbs < 2 ^ 64
theorem two_pow_nn (k : Nat) : (0 : Int) ≤ 2 ^ k := by
  rw [two_pow_cast]
  exact Int.natCast_nonneg _
theorem op_add : OpR X (binaryOp .Add) (rI0 fun i j => .int (i + j)) := opI0 fun _ _ _ _ _ _ _ q => add_int q
theorem op_sub : OpR X (binaryOp .Sub) (rI0 fun i j => .int (i - j)) := opI0 fun _ _ _ _ _ _ _ q => sub_int q
theorem op_shl : OpR X (binaryOp .LShift) (rI CPow fun i j => .int (i * 2 ^ j.toNat)) := opI fun _ _ _ _ _ _ _ hc q => lshift_int_small hc.1 hc.2.1 hc.2.2 q
theorem op_shr : OpR X (binaryOp .RShift) (rI (fun _ j => 0 ≤ j) fun i j => .int (i / 2 ^ j.toNat)) := opI fun i j _ _ _ _ _ hc q =>
  rshift_int hc (by rw [Int.fdiv_eq_ediv_of_nonneg i (two_pow_nn _)]; exact q)
theorem op_and : OpR X (binaryOp .BitAnd) (rI0 fun i j => .int (Builtin.bitAnd i j)) := opI0 fun _ _ _ _ _ _ _ q => and_int q
theorem op_or : OpR X (binaryOp .BitOr) (rI0 fun i j => .int (Builtin.bitOr i j)) := opI0 fun _ _ _ _ _ _ _ q => or_int q
theorem op_xor : OpR X (binaryOp .BitXor) (rI0 fun i j => .int (Builtin.bitXor i j)) := opI0 fun _ _ _ _ _ _ _ q => xor_int q
/-! ### bools among ints: n += (a < b) -/
end
/-! ### comparisons -/
/-- the scalars that == tells apart as data does -/
def scal : V → V → Bool
  | .non, .non => true | .non, .int _ => true | .int _, .non => true | .non, .bl _ => true | .bl _, .non => true | .non, .str _ => true | .str _, .non => true
  | .int _, .int _ => true | .bl _, .bl _ => true | .str _, .str _ => true | .byt _, .byt _ => true
  | .int _, .str _ => true | .str _, .int _ => true | .bl _, .str _ => true | .str _, .bl _ => true
  | _, _ => false
def rEq : R2 := fun x y H Q => scal x y = true ∧ Q (.bl (decide (x = y))) H
def rNe : R2 := fun x y H Q => scal x y = true ∧ Q (.bl (!decide (x = y))) H
theorem dec_int {i j : Int} : decide (V.int i = V.int j) = (i == j) := by
  rw [Bool.eq_iff_iff]
  simp
theorem dec_bl {i j : Bool} : decide (V.bl i = V.bl j) = (i == j) := by
  rw [Bool.eq_iff_iff]
  simp
theorem dec_str {i j : Str} : decide (V.str i = V.str j) = (i == j) := by
  rw [Bool.eq_iff_iff]
  simp
theorem dec_byt {i j : Array UInt8} : decide (V.byt i = V.byt j) = (i.toList == j.toList) := by
  rw [Bool.eq_iff_iff]
  cases i
  cases j
  simp
section
variable {X : Cx} {a b c : Expr} {ta tb tc : TE} {pos : Pos}
theorem fin_bl {pins : List (Addr × Obj)} {σ : St} {H : Hp} {s : Shared} {Q : VK} {k k' : Bool} (I : Inv X pins σ H s) (q : Q (.bl k) H) (e : k = k') : EP X pins σ Q (.bool k') s := by
  subst e
  exact ⟨.bl k, H, I, rfl, q⟩
theorem op_eq : OpR X (compareOp .Eq) rEq := by
  intro pins s σ H x y v u Q I rx ry h
  obtain ⟨hs, q⟩ := h
  cases x with
  | non =>
    cases rx
    cases y with
    | non => cases ry; exact PySem.EqNone.eq_none_none (fin_bl I q (by simp))
    | bl j => cases ry; exact PySem.EqNone.eq_none_bool (fin_bl I q (by simp))
    | int j => obtain ⟨t', rfl⟩ := ry; exact PySem.EqNone.eq_none_int (fin_bl I q (by simp))
    | str j => obtain ⟨t', rfl⟩ := ry; exact PySem.EqNone.eq_none_str (fin_bl I q (by simp))
    | _ => exact absurd (show false = true from hs) Bool.false_ne_true
  | bl i =>
    cases rx
    cases y with
    | non => cases ry; exact PySem.EqNone.eq_bool_none (fin_bl I q (by simp))
    | bl j => cases ry; exact eq_bool (fin_bl I q dec_bl)
    | str j => obtain ⟨t', rfl⟩ := ry; exact PySem.EqMixed.eq_bool_str (fin_bl I q (by simp))
    | _ => exact absurd (show false = true from hs) Bool.false_ne_true
  | int i =>
    obtain ⟨t, rfl⟩ := rx
    cases y with
    | non => cases ry; exact PySem.EqNone.eq_int_none (fin_bl I q (by simp))
    | int j => obtain ⟨t', rfl⟩ := ry; exact eq_int (fin_bl I q dec_int)
    | str j => obtain ⟨t', rfl⟩ := ry; exact PySem.EqMixed.eq_int_str (fin_bl I q (by simp))
    | _ => exact absurd (show false = true from hs) Bool.false_ne_true
  | str i =>
    obtain ⟨t, rfl⟩ := rx
    cases y with
    | non => cases ry; exact PySem.EqNone.eq_str_none (fin_bl I q (by simp))
    | bl j => cases ry; exact PySem.EqMixed.eq_str_bool (fin_bl I q (by simp))
    | int j => obtain ⟨t', rfl⟩ := ry; exact PySem.EqMixed.eq_str_int (fin_bl I q (by simp))
    | str j => obtain ⟨t', rfl⟩ := ry; exact eq_str (fin_bl I q dec_str)
    | _ => exact absurd (show false = true from hs) Bool.false_ne_true
  | byt i =>
    obtain ⟨t, rfl⟩ := rx
    cases y with
    | byt j => obtain ⟨t', rfl⟩ := ry; exact PySem.W.eq_bytes (fin_bl I q dec_byt)
    | _ => exact absurd (show false = true from hs) Bool.false_ne_true
  | _ => cases y <;> exact absurd (show false = true from hs) Bool.false_ne_true
theorem op_ne : OpR X (compareOp .NotEq) rNe := by
  intro pins s σ H x y v u Q I rx ry h
  obtain ⟨hs, q⟩ := h
  cases x with
  | non =>
    cases rx
    cases y with
    | non => cases ry; exact PySem.EqNone.ne_none_none (fin_bl I q (by simp))
    | bl j => cases ry; exact PySem.EqNone.ne_none_bool (fin_bl I q (by simp))
    | int j => obtain ⟨t', rfl⟩ := ry; exact PySem.EqNone.ne_none_int (fin_bl I q (by simp))
    | str j => obtain ⟨t', rfl⟩ := ry; exact PySem.EqNone.ne_none_str (fin_bl I q (by simp))
    | _ => exact absurd (show false = true from hs) Bool.false_ne_true
  | bl i =>
    cases rx
    cases y with
    | non => cases ry; exact PySem.EqNone.ne_bool_none (fin_bl I q (by simp))
    | bl j => cases ry; exact ne_bool (fin_bl I q (congrArg not dec_bl))
    | str j => obtain ⟨t', rfl⟩ := ry; exact PySem.EqMixed.ne_bool_str (fin_bl I q (by simp))
    | _ => exact absurd (show false = true from hs) Bool.false_ne_true
  | int i =>
    obtain ⟨t, rfl⟩ := rx
    cases y with
    | non => cases ry; exact PySem.EqNone.ne_int_none (fin_bl I q (by simp))
    | int j => obtain ⟨t', rfl⟩ := ry; exact ne_int (fin_bl I q (congrArg not dec_int))
    | str j => obtain ⟨t', rfl⟩ := ry; exact PySem.EqMixed.ne_int_str (fin_bl I q (by simp))
    | _ => exact absurd (show false = true from hs) Bool.false_ne_true
  | str i =>
    obtain ⟨t, rfl⟩ := rx
    cases y with
    | non => cases ry; exact PySem.EqNone.ne_str_none (fin_bl I q (by simp))
    | bl j => cases ry; exact PySem.EqMixed.ne_str_bool (fin_bl I q (by simp))
    | int j => obtain ⟨t', rfl⟩ := ry; exact PySem.EqMixed.ne_str_int (fin_bl I q (by simp))
    | str j => obtain ⟨t', rfl⟩ := ry; exact ne_str (fin_bl I q (congrArg not dec_str))
    | _ => exact absurd (show false = true from hs) Bool.false_ne_true
  | byt i =>
    obtain ⟨t, rfl⟩ := rx
    cases y with
    | byt j => obtain ⟨t', rfl⟩ := ry; exact PySem.W.ne_bytes (fin_bl I q (congrArg not dec_byt))
    | _ => exact absurd (show false = true from hs) Bool.false_ne_true
  | _ => cases y <;> exact absurd (show false = true from hs) Bool.false_ne_true
theorem op_lt : OpR X (compareOp .Lt) (rI0 fun i j => .bl (decide (i < j))) := opB0 fun _ _ _ _ _ _ _ q => lt_int q
theorem op_le : OpR X (compareOp .LtE) (rI0 fun i j => .bl (decide (i ≤ j))) := opB0 fun _ _ _ _ _ _ _ q => le_int q
theorem op_ge : OpR X (compareOp .GtE) (rI0 fun i j => .bl (decide (j ≤ i))) := opB0 fun _ _ _ _ _ _ _ q => ge_int q
theorem nomark (b : Expr) {op : CmpOp} (h : op ≠ .In := by decide) (h2 : op ≠ .NotIn := by decide) : behindInMarks op b = false := by
  have e1 : (op == CmpOp.In) = false := by cases op <;> first | rfl | exact absurd rfl h
  have e2 : (op == CmpOp.NotIn) = false := by cases op <;> first | rfl | exact absurd rfl h2
  cases b <;> simp [behindInMarks, e1, e2]
/-- a comparison as a value; hm: nomark b, or (for in, not in) by with_unfolding_all rfl -/
theorem pe_cmpR {op : CmpOp} {r : R2} (ho : OpR X (compareOp op) r) (ha : PE X a ta) (hb : PE X b tb) (hm : behindInMarks op b = false) : PE X (.Compare a [op] [b] pos) (tOp r ta tb) := by
  intro pins s σ H Q I h
  exact wpAny_Compare1 (binT ha hb I h fun v u s2 x y H2 I2 rx ry q => ho pins s2 σ H2 x y v u Q I2 rx ry q) hm
/-- a reading of a value as a test -/
def tTest (t : TE) : TT := fun σ H Q => t σ H fun x H' => ∃ k, x = .bl k ∧ Q k H'
theorem pt_cmpR {op : CmpOp} {r : R2} (ho : OpR X (compareOp op) r) (ha : PE X a ta) (hb : PE X b tb) (hm : behindInMarks op b = false) : PT X (.Compare a [op] [b] pos) (tTest (tOp r ta tb)) := by
  intro pins s σ H Q I h
  refine wpAny_isTrue_Compare1 (thn (ha pins s σ H _ I h) fun v s1 ⟨x, H1, I1, r1, q1⟩ => thn (hb pins s1 σ H1 _ I1 q1) fun u s2 ⟨y, H2, I2, r2, q2⟩ =>
    thn (ho pins s2 σ H2 x y v u _ I2 r1 r2 q2) fun c s3 ⟨z, H3, I3, r3, k, e, q3⟩ => ?_) hm
  subst e
  cases r3
  exact wpAny_truthy_bool ⟨H3, I3, q3⟩
/-- a op1 b op2 c -/
def tChain (r r' : R2) (ta tb tc : TE) : TE := fun σ H Q => ta σ H fun x H1 => tb σ H1 fun y H2 => r x y H2 fun z H3 => ∃ k, z = .bl k ∧
  (if k = true then tc σ H3 fun w' H4 => r' y w' H4 Q else Q (.bl false) H3)
theorem pe_chain {op op' : CmpOp} {r r' : R2} (ho : OpR X (compareOp op) r) (ho' : OpR X (compareOp op') r') (ha : PE X a ta) (hb : PE X b tb) (hc : PE X c tc)
    (hm : lastMarks [op, op'] [b, c] = false := by with_unfolding_all rfl) : PE X (.Compare a [op, op'] [b, c] pos) (tChain r r' ta tb tc) := by
  intro pins s σ H Q I h
  refine Compare_chain (thn (ha pins s σ H _ I h) fun v s1 ⟨x, H1, I1, r1, q1⟩ => chain_link (thn (hb pins s1 σ H1 _ I1 q1) fun u s2 ⟨y, H2, I2, r2, q2⟩ =>
    thn (ho pins s2 σ H2 x y v u _ I2 r1 r2 q2) fun d s3 ⟨z, H3, I3, r3, k, e, q3⟩ => ?_)) hm
  subst e
  cases r3
  refine wpAny_truthy_bool ?_
  cases k with
  | false => exact ite_ff ⟨.bl false, H3, I3, rfl, q3⟩
  | true => exact ite_tt (chain_last (thn (hc pins s3 σ H3 _ I3 q3) fun w' s4 ⟨z', H4, I4, r4, q4⟩ => ho' pins s4 σ H4 y z' u w' Q I4 r2 r4 q4))
theorem pt_chain {op op' : CmpOp} {r r' : R2} (ho : OpR X (compareOp op) r) (ho' : OpR X (compareOp op') r') (ha : PE X a ta) (hb : PE X b tb) (hc : PE X c tc)
    (hm : lastMarks [op, op'] [b, c] = false := by with_unfolding_all rfl) : PT X (.Compare a [op, op'] [b, c] pos) (tTest (tChain r r' ta tb tc)) := by
  intro pins s σ H Q I h
  refine isTrue_chain (thn (ha pins s σ H _ I h) fun v s1 ⟨x, H1, I1, r1, q1⟩ => test_link (thn (hb pins s1 σ H1 _ I1 q1) fun u s2 ⟨y, H2, I2, r2, q2⟩ =>
    thn (ho pins s2 σ H2 x y v u _ I2 r1 r2 q2) fun d s3 ⟨z, H3, I3, r3, k, e, q3⟩ => ?_)) hm
  subst e
  cases r3
  refine wpAny_truthy_bool ?_
  cases k with
  | false =>
    obtain ⟨k', e', q'⟩ := q3
    cases e'
    exact ite_ff ⟨H3, I3, q'⟩
  | true =>
    refine ite_tt (test_last (thn (hc pins s3 σ H3 _ I3 q3) fun w' s4 ⟨z', H4, I4, r4, q4⟩ => thn (ho' pins s4 σ H4 y z' u w' _ I4 r2 r4 q4) fun d' s5 ⟨z2, H5, I5, r5, k2, e2, q5⟩ => ?_))
    subst e2
    cases r5
    exact wpAny_truthy_bool ⟨H5, I5, q5⟩
/-! ### truth -/
theorem line63 : (sizeLine : Nat) < 2 ^ 63 := by rw [sizeLine_eq]; decide
/-! ### strs and bytes -/
/-! ### scalar builtins, by CallR -/
theorem vals1 {x : V} {us : List Value} (r : Vals [x] us) : ∃ u, us = [u] ∧ RelV x u := by
  cases r with
  | cons r1 r2 => cases r2; exact ⟨_, rfl, r1⟩
end
end L2
namespace L2
open PySem PySem.Spec PyProof.Rows
/-! ### an instance, its attributes a map -/
structure ObjM (h : Heap) (x dx C : Addr) (mA : Str → Option Value) : Prop where
  obj : h.get? x = some (PySem.W.instObj C dx)
  ns : h.Ns1 dx mA
  ne : dx ≠ x
theorem lookIn_ns {h : Heap} {dx : Addr} {mA : Str → Option Value} (n : h.Ns1 dx mA) : ∃ od, h.get? dx = some od ∧ ∀ name, PySem.W.lookIn name od = some (mA name) := by
  obtain ⟨o, es, ep, ho, hd, hk, _, hm⟩ := n
  refine ⟨o, ho, fun name => ?_⟩
  have e := hm name
  unfold nsFind findBy at e
  rw [← Array.find?_toList] at e
  unfold PySem.W.lookIn
  rw [hd]
  dsimp only
  split
  · rename_i y q
    rw [q] at e
    exact congrArg some e
  · rename_i q
    rw [q] at e
    have a : es.toList.any (·.refKey) = false := by
      rw [List.any_eq_false]
      intro y hy
      obtain ⟨z, t, hkey⟩ := hk y (Array.mem_toList_iff.mp hy)
      simp [DictEntry.refKey, hkey]
    have a' : ¬ es.toList.any (·.refKey) = true := by rw [a]; exact Bool.false_ne_true
    rw [if_neg a']
    exact congrArg some e
theorem ObjM.look {h : Heap} {x dx C : Addr} {mA : Str → Option Value} (I : ObjM h x dx C mA) : ∃ od, PySem.W.InstAt h x (PySem.W.instObj C dx) C (some od) ∧ ∀ name, PySem.W.lookIn name od = some (mA name) :=
  let ⟨od, ho, hl⟩ := lookIn_ns I.ns
  ⟨od, ⟨I.obj, rfl, rfl, ho⟩, hl⟩
section
variable {prog : Program} {w : World} {A : Around} {E : Value → Shared → Prop} {s : Shared} {K : PySem.W.Frag} {x dx C f : Addr} {mA : Str → Option Value} {name : Str} {v : Value}
theorem get_map {expr : Bool} {Q : Value → Shared → Prop} (X : K.In s.heap) (I : ObjM s.heap x dx C mA) (hg : PySem.W.plainGet K C name = true) (hh : PySem.W.hasDictIn K C = true)
    (ha : PySem.W.findIn K (.ref C) name = some none) (hv : mA name = some v) (hv' : PySem.W.handedIn v = true) (h : Q v { s with toks := s.toks + 1 }) :
    wpAny (model prog w) A (getAttr (.ref x) name expr) Q E s := by
  obtain ⟨od, J, hl⟩ := I.look
  exact PySem.W.get_value X J (PySem.W.plainGet_of hg).1 (PySem.W.findObj_own hh ha rfl (by rw [hl, hv])) hv' h
theorem get_meth {pl : Sem Bool} {Q : Value × List Value → Shared → Prop} (X : K.In s.heap) (I : ObjM s.heap x dx C mA) (hg : PySem.W.plainGet K C name = true)
    (hf : PySem.W.findIn K (.ref C) name = some (some (.ref f))) (ht : PySem.W.isFn K (.ref f) = true) (hv : mA name = none) (h : Q (.ref f, [.ref x]) s) :
    wpAny (model prog w) A (getMethod (.ref x) name pl) Q E s := by
  obtain ⟨od, J, hl⟩ := I.look
  exact PySem.W.method_fn X J (PySem.W.plainGet_of hg).1 (PySem.W.plainGet_of hg).2 hf (beq_iff_eq.mp ht) (by show (PySem.W.lookIn name od).map (·.isSome) = some false; rw [hl, hv]; rfl) h
theorem set_map {ns : List Str} {Q : Unit → Shared → Prop} (X : K.In s.heap) (I : ObjM s.heap x dx C mA)
    (hs : PySem.W.findIn K (.ref C) "__setattr__" = some (some (.builtin "object.__setattr__"))) (hp : PySem.W.plainOver K C = true) (ht : PySem.W.takerIn K C name = some none) (hh : PySem.W.hasDictIn K C = true)
    (hw : PySem.Within mA ns) (hsz : ns.length ≤ sizeLine)
    (h : ∀ h', ObjM h' x dx C (fun y => if y = name then some v else mA y) → Heap.SameBut dx s.heap h' → Q () { s with heap := h', toks := s.toks + 2 }) :
    wpAny (model prog w) A (setAttr (.ref x) name v) Q E s := by
  obtain ⟨od, J, hl⟩ := I.look
  refine PySem.W.set_plain X J hs (PySem.W.osa_open (s := { s with toks := s.toks + 1 }) (r := none) X J hp ht fun b => ?_)
  obtain ⟨cd, hc, hd'⟩ := PySem.W.any_some hh
  have hx : s.heap.get? x = some ⟨.ref C, some dx, .plain, #[]⟩ := I.obj
  refine wpAny_bind (wpAny_pure (wpAny_bind (wpAny_bind (wpAny_loadPart hx (wpAny_bind (PySem.W.Looks.here (s := { s with toks := s.toks + 1 }) (PySem.W.looks_clsIn X hc) ?_))))))
  rw [hd']
  refine wpAny_pure (a := some dx) (wpAny_bind (wpAny_pure (wpAny_bind ?_)))
  refine wpAny_nsSet1 (s := { s with toks := s.toks + 1 }) I.ns fun h' hn2 hs2 => ?_
  obtain ⟨oD, esD, epD, hoD, hdD, hcD⟩ := hn2.count (PySem.Within.cons name v hw)
  refine wpAny_bind (wpAny_lookBehind hoD (by rw [hdD]; exact pastItsLine_dict (Nat.le_trans hcD (by rw [List.length_cons]; omega))) ?_)
  exact wpAny_pure (h _ ⟨(hs2.2 _ (Ne.symm I.ne)).trans I.obj, hn2, I.ne⟩ hs2)
/-- C(..): the dict at the heap's end, the instance behind it; then its __init__ -/
theorem make_map {R : Result → Shared → Prop} {vs : List Value} {kw : List (Str × Value)} (X : K.In s.heap) (hm : PySem.W.makesIn K C = true)
    (hi : PySem.W.findIn K (.ref C) "__init__" = some (some (.ref f))) (hf : PySem.W.typeIn K (.ref f) = some (.type "function"))
    (h : codeAny (model prog w) (A.under (.builtin "type.__call__" ⟨.ref C :: vs, kw⟩)) (.call (.ref f) ⟨.ref (s.heap.objs.size + 1) :: vs, kw⟩) (PySem.W.InitBack (s.heap.objs.size + 1) R)
      { s with heap := (s.heap.push PySem.W.emptyDict).push (PySem.W.instObj C s.heap.objs.size) }) :
    codeAny (model prog w) A (.call (.ref C) ⟨vs, kw⟩) R s := by
  obtain ⟨hh, g, d, t, os⟩ := s
  exact PySem.W.make_core (PySem.W.makes_of X hm) (PySem.W.looks_findIn X hi) (fun self => PySem.W.bind_fn X self hf) (.inl rfl) h
end
/-! ### the attributes as a list of pairs -/
def putF (f : Str) (v : V) : List (Str × V) → List (Str × V)
  | [] => [(f, v)]
  | (g, x) :: r => if g = f then (g, v) :: r else (g, x) :: putF f v r
theorem lookup_putF (f g : Str) (v : V) : ∀ fs : List (Str × V), (putF f v fs).lookup g = if g = f then some v else fs.lookup g
  | [] => by
    show List.lookup g [(f, v)] = _
    by_cases h : g = f
    · have hb : (g == f) = true := beq_iff_eq.mpr h
      simp only [List.lookup, hb, if_pos h]
    · have hb : (g == f) = false := beq_eq_false_iff_ne.mpr h
      simp only [List.lookup, hb, if_neg h]
  | (k, x) :: r => by
    have ih := lookup_putF f g v r
    rw [show putF f v ((k, x) :: r) = (if k = f then (k, v) :: r else (k, x) :: putF f v r) from rfl]
    by_cases hk : k = f
    · rw [if_pos hk]
      by_cases h : g = k
      · have hb : (g == k) = true := beq_iff_eq.mpr h
        simp only [List.lookup, hb, if_pos (h.trans hk)]
      · have hb : (g == k) = false := beq_eq_false_iff_ne.mpr h
        simp only [List.lookup, hb, if_neg (fun e : g = f => h (e.trans hk.symm))]
    · rw [if_neg hk]
      by_cases h : g = k
      · have hb : (g == k) = true := beq_iff_eq.mpr h
        simp only [List.lookup, hb, if_neg (fun e : g = f => hk (h.symm.trans e))]
      · have hb : (g == k) = false := beq_eq_false_iff_ne.mpr h
        simp only [List.lookup, hb]
        exact ih
theorem keys_putF (f : Str) (v : V) : ∀ fs : List (Str × V), f ∈ (putF f v fs).map (·.1) ∧ ∀ g, g ∈ fs.map (·.1) → g ∈ (putF f v fs).map (·.1)
  | [] => ⟨by simp [putF], fun g h => by simp at h⟩
  | (k, x) :: r => by
    obtain ⟨i1, i2⟩ := keys_putF f v r
    rw [show putF f v ((k, x) :: r) = (if k = f then (k, v) :: r else (k, x) :: putF f v r) from rfl]
    by_cases hk : k = f
    · rw [if_pos hk]
      subst hk
      exact ⟨by simp, fun g h => by simpa using h⟩
    · rw [if_neg hk]
      refine ⟨?_, fun g h => ?_⟩
      · rw [List.map_cons]
        exact List.mem_cons_of_mem _ i1
      · rw [List.map_cons] at h ⊢
        rcases List.mem_cons.mp h with e | e
        · exact List.mem_cons.mpr (.inl e)
        · exact List.mem_cons_of_mem _ (i2 g e)
theorem length_putF (f : Str) (v : V) : ∀ fs : List (Str × V), (putF f v fs).length ≤ fs.length + 1
  | [] => by simp [putF]
  | (k, x) :: r => by
    have ih := length_putF f v r
    rw [show putF f v ((k, x) :: r) = (if k = f then (k, v) :: r else (k, x) :: putF f v r) from rfl]
    by_cases hk : k = f
    · rw [if_pos hk, List.length_cons, List.length_cons]; omega
    · rw [if_neg hk, List.length_cons, List.length_cons]; omega
theorem RelO.some_of {v : V} {o : Option Value} (r : RelO (some v) o) : ∃ u, o = some u ∧ RelV v u := by
  cases o with
  | none => exact (show False from r).elim
  | some u => exact ⟨u, rfl, r⟩
theorem RelO.none_of {o : Option Value} (r : RelO none o) : o = none := by
  cases o with
  | none => rfl
  | some u => exact (show False from r).elim
theorem handed_of {v : V} {u : Value} (r : RelV v u) : PySem.W.handedIn u = true := by
  cases v with
  | non => cases (show u = Value.none from r); rfl
  | bl b => cases (show u = Value.bool b from r); rfl
  | int i => obtain ⟨t, e⟩ := (show ∃ t, u = Value.int i t from r); cases e; rfl
  | str x => obtain ⟨t, e⟩ := (show ∃ t, u = Value.str x t from r); cases e; rfl
  | byt b => obtain ⟨t, e⟩ := (show ∃ t, u = Value.bytes b t from r); cases e; rfl
  | flt b => obtain ⟨t, e⟩ := (show ∃ t, u = Value.float b t from r); cases e; rfl
  | ref a => cases (show u = Value.ref a from r); rfl
  | ty n => cases (show u = Value.type n from r); rfl
section
variable {P : Program} {w : World} {H H' : Hp} {h h' : Heap} {a C dx : Addr} {fs fs' : List (Str × V)}
theorem ins_get (hok : HOk P w H h) (e : H a = some (.ins C dx fs)) : ∃ mA, ObjM h a dx C mA ∧ (∀ f, RelO (fs.lookup f) (mA f)) ∧ PySem.Within mA (fs.map (·.1)) ∧ fs.length ≤ 1000 ∧ H dx = some (.own a) := by
  obtain ⟨d, z, ne, ob, mA, n, r, q⟩ := (show ObjOk P w H h a (.ins C dx fs) from hok a _ e)
  exact ⟨mA, ⟨ob, n, ne⟩, r, q, z, d⟩
end
/-! ### what of the text a class must have -/
structure Cls (K : PySem.W.Frag) (C : Addr) : Prop where
  pg : PySem.W.plainGet K C Str.empty = true
  hd : PySem.W.hasDictIn K C = true
  po : PySem.W.plainOver K C = true
  sa : PySem.W.findIn K (.ref C) "__setattr__" = some (some (.builtin "object.__setattr__"))
theorem Cls.get {K : PySem.W.Frag} {C : Addr} (c : Cls K C) (f : Str) : PySem.W.plainGet K C f = true := c.pg
/-- no class of it has the name -/
def NoAttr (K : PySem.W.Frag) (C : Addr) (f : Str) : Prop := PySem.W.findIn K (.ref C) f = some none
theorem NoAttr.taker {K : PySem.W.Frag} {C : Addr} {f : Str} (n : NoAttr K C f) : PySem.W.takerIn K C f = some none := by
  unfold PySem.W.takerIn
  rw [show PySem.W.findIn K (.ref C) f = some none from n]
  rfl
/-- a method: a plain def of the class or of one above it -/
structure Meth (K : PySem.W.Frag) (C : Addr) (m : Str) (f : Addr) : Prop where
  at_ : PySem.W.findIn K (.ref C) m = some (some (.ref f))
  fn : PySem.W.isFn K (.ref f) = true
  kp : PySem.W.keepIn K (.ref f) = true
section
variable {X : Cx} {pins : List (Addr × Obj)} {σ : St} {H : Hp} {s : Shared} {a C dx : Addr} {fs : List (Str × V)} {f : Str} {v : V} {A : Around} {E : Value → Shared → Prop}
theorem getattr_ok {b : Bool} {Q : Value → Shared → Prop} (I : Inv X pins σ H s) (e : H a = some (.ins C dx fs)) (c : Cls X.K C) (n : NoAttr X.K C f) (l : fs.lookup f = some v)
    (h : ∀ u s', Inv X pins σ H s' → RelV v u → Q u s') : wpAny (model X.prog X.w) A (getAttr (.ref a) f b) Q E s := by
  obtain ⟨mA, O, r, _, _, _⟩ := ins_get I.hok e
  obtain ⟨u, hu, ru⟩ := RelO.some_of (v := v) (o := mA f) (by rw [← l]; exact r f)
  exact get_map I.kIn O (c.get f) c.hd n hu (handed_of ru) (h u _ (I.tok _) ru)
theorem getmeth_ok {m : Str} {g : Addr} {pl : Sem Bool} {Q : Value × List Value → Shared → Prop} (I : Inv X pins σ H s) (e : H a = some (.ins C dx fs)) (c : Cls X.K C) (k : Meth X.K C m g) (l : fs.lookup m = none)
    (h : Q (.ref g, [.ref a]) s) : wpAny (model X.prog X.w) A (getMethod (.ref a) m pl) Q E s := by
  obtain ⟨mA, O, r, _, _, _⟩ := ins_get I.hok e
  have hn : mA m = none := RelO.none_of (by rw [← l]; exact r m)
  exact get_meth I.kIn O (c.get m) k.at_ k.fn hn h
theorem setattr_ok {y : V} {u : Value} {Q : Unit → Shared → Prop} (I : Inv X pins σ H s) (e : H a = some (.ins C dx fs)) (c : Cls X.K C) (n : NoAttr X.K C f) (hl : fs.length < 1000) (ry : RelV y u)
    (h : ∀ s', Inv X pins σ (upd H a (.ins C dx (putF f y fs))) s' → Q () s') : wpAny (model X.prog X.w) A (setAttr (.ref a) f u) Q E s := by
  obtain ⟨mA, O, r, wi, _, ho⟩ := ins_get I.hok e
  have hz : (fs.map (·.1)).length ≤ sizeLine := by rw [List.length_map, sizeLine_eq]; omega
  refine set_map I.kIn O c.sa c.po n.taker c.hd wi hz fun h' O' sb => h _ ?_
  have hd : ∃ o, h'.get? dx = some o := let ⟨o, _, _, e', _⟩ := O'.ns; ⟨o, e'⟩
  refine I.write (x := a) (e := dx) (by rw [e]; exact True.intro) (.inr ho) (fun b q hb z => (sb.2 b hb).trans z) hd ?_
  refine ⟨by rw [upd_ne O.ne]; exact ho, ?_, O.ne, O'.obj, _, O'.ns, fun g => ?_, fun g hg => ?_⟩
  · have := length_putF f y fs; omega
  · show RelO ((putF f y fs).lookup g) (if g = f then some u else mA g)
    rw [lookup_putF]
    by_cases q : g = f
    · rw [if_pos q, if_pos q]; exact ry
    · rw [if_neg q, if_neg q]; exact r g
  · by_cases q : g = f
    · rw [q]; exact (keys_putF f y fs).1
    · refine (keys_putF f y fs).2 g (wi g fun z => hg ?_)
      show (if g = f then some u else mA g) = none
      rw [if_neg q]; exact z
/-- a new instance, tracked, without attributes -/
theorem Inv.made (I : Inv X pins σ H s) : Inv X pins σ (upd (upd H s.heap.objs.size (.own (s.heap.objs.size + 1))) (s.heap.objs.size + 1) (.ins C s.heap.objs.size []))
    { s with heap := (s.heap.push PySem.W.emptyDict).push (PySem.W.instObj C s.heap.objs.size) } := by
  have e1 : (s.heap.push PySem.W.emptyDict).get? s.heap.objs.size = some PySem.W.emptyDict := Heap.get?_push_size s.heap rfl
  have e2 : ((s.heap.push PySem.W.emptyDict).push (PySem.W.instObj C s.heap.objs.size)).get? (s.heap.objs.size + 1) = some (PySem.W.instObj C s.heap.objs.size) := by
    have := Heap.get?_push_size (s.heap.push PySem.W.emptyDict) (o := PySem.W.instObj C s.heap.objs.size) rfl
    rwa [Heap.size_push] at this
  have e3 : (s.heap.push PySem.W.emptyDict).Ns s.heap.objs.size (fun _ => none) := ⟨PySem.W.emptyDict, #[], _, e1, rfl, (fun e he => absurd he (by simp)), fun _ => rfl⟩
  have I1 := I.laid (a := s.heap.objs.size) (o := .own (s.heap.objs.size + 1)) (h' := s.heap.push PySem.W.emptyDict) (t' := s.toks) (fun b u q => Heap.get?_push_of_some _ q) (Nat.le_refl _) ⟨_, e1⟩
  refine I1.laid (a := s.heap.objs.size + 1) (o := .ins C s.heap.objs.size []) (t' := s.toks) (fun b u q => Heap.get?_push_of_some _ q) (Nat.le_of_eq (Heap.size_push _ _)) ?_
  have ne : s.heap.objs.size ≠ s.heap.objs.size + 1 := Nat.ne_of_lt (Nat.lt_succ_self _)
  refine ⟨by rw [upd_ne ne, upd_same], Nat.zero_le _, ne, e2, fun _ => none, (Heap.Ns1.of_empty e3).at fun o q => Heap.get?_push_of_some _ q, fun _ => True.intro, fun y hy => absurd rfl hy⟩
/-- e.f where nothing but the object is asked: through attributeBase (super) and the last hold -/
theorem attr_of {prog : Program} {w : World} {env : Env} {e : Expr} {f : Str} {pos : Pos} {s : Shared} {Q : Value → Shared → Prop} (hb : attributeBase e f env (eval e env) = eval e env)
    (h : wpAny (model prog w) A (eval e env) (fun o s₁ => wpAny (model prog w) A (getAttr o f true) Q E s₁) E s) : wpAny (model prog w) A (eval (.Attribute e f pos) env) Q E s :=
  Attribute_any_ h (by rw [arm_eval_Attribute, hb])
end
/-! ### readings and rules -/
/-- e.f, an attribute of the instance -/
def tFld (K : PySem.W.Frag) (ta : TE) (f : Str) : TE := fun σ H Q => ta σ H fun x H1 => ∃ a C dx fs v, x = .ref a ∧ H1 a = some (.ins C dx fs) ∧ Cls K C ∧ NoAttr K C f ∧ fs.lookup f = some v ∧ Q v H1
/-- e.f = value -/
def sFld (K : PySem.W.Frag) (ta tv : TE) (f : Str) : TS := fun D σ H => tv σ H fun y H1 => ta σ H1 fun x H2 => ∃ a C dx fs, x = .ref a ∧ H2 a = some (.ins C dx fs) ∧ Cls K C ∧ NoAttr K C f ∧ fs.length < 1000 ∧
  D.nx σ (upd H2 a (.ins C dx (putF f y fs)))
section
variable {X : Cx} {o e value : Expr} {f : Str} {pos pos' tpos : Pos} {ta tv : TE}
theorem pe_fld (he : PE X e ta) (hb : attributeBase e f X.env (eval e X.env) = eval e X.env) : PE X (.Attribute e f pos) (tFld X.K ta f) := by
  intro pins s σ H Q I h
  refine attr_of hb (thn (he pins s σ H _ I h) fun u s1 ⟨x, H1, I1, rx, a, C, dx, fs, v, ex, ea, c, n, l, q⟩ => ?_)
  subst ex
  obtain rfl : u = Value.ref a := rx
  exact getattr_ok I1 ea c n l fun u' s2 I2 ru => ⟨v, H1, I2, ru, q⟩
theorem ps_fld (ha : PE X o ta) (hv : PE X value tv) (hs : swapsWith value (some (.Attribute o f pos')) pos.line X.env = pure false) : PS X (.Assign [.Attribute o f pos'] value pos) (sFld X.K ta tv f) := by
  intro pins s σ H D I h
  refine plainObj_wpAny_Assign_Attribute (thn (hv pins s σ H _ I h) fun u s1 ⟨y, H1, I1, ry, q⟩ => thn (ha pins s1 σ H1 _ I1 q) fun ov s2 ⟨x, H2, I2, rx, a, C, dx, fs, ex, ea, c, n, l, q2⟩ => ?_) hs
  subst ex
  obtain rfl : ov = Value.ref a := rx
  exact setattr_ok I2 ea c n l ry fun s3 I3 => ⟨σ, _, I3, q2⟩
end
/-! ### isinstance -/
section
variable {X : Cx} {pins : List (Addr × Obj)} {σ : St} {H : Hp} {s : Shared} {A : Around} {E : Value → Shared → Prop} {Q : Value → Shared → Prop} {c : Value} {b : Bool}
end
end L2
namespace L2
open PySem PySem.Spec PyProof.Rows
/-! ### room -/
structure Room (k : Nat) (A : Around) : Prop where
  hd : A.handled = none
  dp : A.depth + 3 * k + 5 < recursionLimit
  un : A.units + 16 * k + 200 < cLine
theorem Room.mono {j k : Nat} {A : Around} (r : Room k A) (h : j ≤ k) : Room j A := ⟨r.hd, by have := r.dp; omega, by have := r.un; omega⟩
theorem Room.deeper {k : Nat} {A : Around} (r : Room (k + 1) A) (env : Env) : Room k (A.deeper env) :=
  ⟨r.hd, by have := r.dp; show A.depth + 1 + 3 * k + 5 < _; omega, by have := r.un; show A.units + 3 + 16 * k + 200 < _; omega⟩
theorem make_depth {A : Around} {C : Addr} {us : List Value} {kw : List (Str × Value)} : (A.under (.builtin "type.__call__" ⟨.ref C :: us, kw⟩)).depth = A.depth + 1 := by
  first | rfl | simp [Around.under, Code.weight, Code.isCreation, Code.isGuard, Code.isCaller, Code.frames, Code.isFrame, guardIds]
theorem make_units {A : Around} {C : Addr} {us : List Value} {kw : List (Str × Value)} : (A.under (.builtin "type.__call__" ⟨.ref C :: us, kw⟩)).units = A.units + 1 := by
  first | rfl | simp [Around.under, Code.cUnits, Code.frames, Code.isFrame]
theorem Room.make {k : Nat} {A : Around} (r : Room (k + 1) A) (C : Addr) (us : List Value) (kw : List (Str × Value)) : Room k (A.under (.builtin "type.__call__" ⟨.ref C :: us, kw⟩)) :=
  ⟨r.hd, by have := r.dp; rw [make_depth]; omega, by have := r.un; rw [make_units]; omega⟩
theorem Room.depth {k : Nat} {A : Around} (r : Room k A) : A.depth < recursionLimit := by have := r.dp; omega
theorem Room.units {k : Nat} {A : Around} (r : Room k A) : A.units + 64 < cLine := by have := r.un; omega
/-! ### argument lists and displays -/
def tNil : TA := fun _ H Q => Q [] H
def tCons (ta : TE) (tr : TA) : TA := fun σ H Q => ta σ H fun x H1 => tr σ H1 fun xs H2 => Q (x :: xs) H2
section
variable {X : Cx} {e : Expr} {es : List Expr} {te : TE} {t : TA} {pos : Pos}
theorem pa_nil : PA X [] tNil := fun _ _ _ _ H Q I h => Calls.spliced_nil ⟨[], H, I, .nil, h⟩
theorem pa_cons (ha : PE X e te) (hr : PA X es t) (hs : starEach (e :: es) X.env = (false, eval e X.env) :: starEach es X.env := by rfl) : PA X (e :: es) (tCons te t) := by
  intro pos pins s σ H Q I h
  rw [hs]
  show wpAny _ _ (spliced ((false, eval e X.env) :: backTo pos (starEach es X.env))) _ _ s
  refine Calls.spliced_cons (thn (ha pins s σ H _ I h) fun u s1 ⟨x, H1, I1, r1, q1⟩ => ?_)
  exact thn (hr pos pins s1 σ H1 _ I1 q1) fun us s2 ⟨xs, H2, I2, r2, q2⟩ => ⟨x :: xs, H2, I2, .cons r1 r2, q2⟩
/-- a tuple, a list of written items -/
def tTup (t : TA) : TE := fun σ H Q => t σ H fun xs H1 => xs.length ≤ sizeLine ∧ ∀ p, H1 p = none → Q (.ref p) (upd H1 p (.tup xs))
def tLst (t : TA) : TE := fun σ H Q => t σ H fun xs H1 => xs.length ≤ sizeLine ∧ ∀ p, H1 p = none → Q (.ref p) (upd H1 p (.lst xs))
theorem pe_tup {x1} (h : PA X es t) : PE X (.Tuple es x1 pos) (tTup t) := by
  intro pins s σ H Q I hq
  refine wpAny_Tuple_spliced (thn (h pos pins s σ H _ I hq) fun us s1 ⟨xs, H1, I1, r, z, q⟩ => ⟨by rw [← r.length]; exact z, ?_⟩)
  have hf : H1 s1.heap.objs.size = none := I1.hok.fresh (Nat.le_refl _)
  refine ⟨.ref s1.heap.objs.size, upd H1 s1.heap.objs.size (.tup xs), I1.laid (t' := s1.toks) (fun b u e => Heap.get?_push_of_some _ e) (Nat.le_refl _) ?_, rfl, q _ hf⟩
  exact ⟨z, us, r, ⟨_, Heap.get?_push_size _ rfl, rfl, _, rfl⟩⟩
theorem pe_lst (h : PA X es t) : PE X (.List es pos) (tLst t) := by
  intro pins s σ H Q I hq
  refine wpAny_List_spliced (thn (h pos pins s σ H _ I hq) fun us s1 ⟨xs, H1, I1, r, z, q⟩ => ⟨by rw [← r.length]; exact z, ?_⟩)
  have hf : H1 s1.heap.objs.size = none := I1.hok.fresh (Nat.le_refl _)
  refine ⟨.ref s1.heap.objs.size, upd H1 s1.heap.objs.size (.lst xs), I1.laid (t' := s1.toks) (fun b u e => Heap.get?_push_of_some _ e) (Nat.le_refl _) ?_, rfl, q _ hf⟩
  exact ⟨z, us, 0, r, Heap.get?_push_size _ rfl⟩
end
/-! ### what a def promises -/
/-- a def's promise: the bound arguments in the parameters' order, the heap, the wanted end, the wanted exception -/
abbrev Sp := List V → Hp → VK → XK → Prop
/-- how an exception lies behind a call (file 08 gives it): the callers' frames, abstract heap and state ahead of the call, the wish, the exception, the state -/
abbrev CXT := List Env → Hp → Shared → XK → Value → Shared → Prop
/-- the state at a call -/
structure Env0 (P : Program) (w : World) (K : PySem.W.Frag) (mg : Str → Option Value) (base : Heap) (A : Around) (outer : List Env) (s : Shared) (H : Hp) : Prop where
  frames : A.frames = some outer
  mod : Mod K mg base
  bs : ∀ b o, base.get? b = some o → s.heap.get? b = some o ∧ H b = none
  bsz : base.objs.size ≤ s.heap.objs.size
  funs : s.heap.FunFrames base outer
  frf : ∀ b ∈ frs outer, H b = none
  hok : HOk P w H s.heap
  bare : AllBare s.gens
/-- a call's end -/
def CE (outer : List Env) (P : Program) (w : World) (H : Hp) (s : Shared) (Q : VK) (u : Value) (s' : Shared) : Prop :=
  ∃ v H', s'.os = s.os ∧ AllBare s'.gens ∧ Un (frs outer) [] H H' s.heap s'.heap ∧ HOk P w H' s'.heap ∧ RelV v u ∧ Q v H'
def CR (CX : CXT) (outer : List Env) (P : Program) (w : World) (H : Hp) (s : Shared) (Q : VK) (E : XK) (r : Result) (s' : Shared) : Prop :=
  match r with
  | .ok (.ret u) => CE outer P w H s Q u s'
  | .ok _ => False
  | .error e => CX outer H s E e s'
structure FnOk (P : Program) (w : World) (K : PySem.W.Frag) (mg : Str → Option Value) (base : Heap) (CX : CXT) (k : Nat) (f : Addr) (fd : FuncData) (ps : List Str) (sp : Sp) : Prop where
  len : ∀ vs H Q E, sp vs H Q E → vs.length = ps.length
  run : ∀ (A : Around) (outer : List Env) (s : Shared) (H : Hp) (args : Args) (us : List Value) (vs : List V) (Q : VK) (E : XK), Room k A → Env0 P w K mg base A outer s H → BindsTo s fd args (ps.zip us) → Vals vs us → sp vs H Q E →
    codeAny (model P w) A (.call (.ref f) args) (CR CX outer P w H s Q E) s
theorem Env0.make {P : Program} {w : World} {K : PySem.W.Frag} {mg : Str → Option Value} {base : Heap} {A : Around} {outer : List Env} {s : Shared} {H : Hp} (e : Env0 P w K mg base A outer s H) (C : Addr) (us : List Value) (kw : List (Str × Value)) :
    Env0 P w K mg base (A.under (.builtin "type.__call__" ⟨.ref C :: us, kw⟩)) outer s H := ⟨by first | exact e.frames | (simpa [Around.under, Code.envs, Code.isFrame, pushEnvs] using e.frames), e.mod, e.bs, e.bsz, e.funs, e.frf, e.hok, e.bare⟩
section
variable {X : Cx} {pins : List (Addr × Obj)} {σ : St} {H : Hp} {s s' : Shared}
/-- from a body: what a callee wants -/
theorem Inv.env0 (I : Inv X pins σ H s) : Env0 X.prog X.w X.K X.mg X.base X.A X.stack s H :=
  ⟨I.ok.frames, I.ok.mod, I.bs, Nat.le_trans I.ok.bsz I.sz, I.stack, I.stkFree, I.hok, I.bare⟩
/-- behind a call -/
theorem Inv.after {Q : VK} {u : Value} (I : Inv X pins σ H s) (h : CE X.stack X.prog X.w H s Q u s') : EP X pins σ Q u s' := by
  obtain ⟨v, H', os, bare, un, hok, r, q⟩ := h
  obtain ⟨hh, g, d, t, os'⟩ := s'
  obtain rfl : os' = s.os := os
  exact ⟨v, H', I.call (h' := hh) (g' := g) (d' := d) (t' := t) (ch := []) un hok bare (fun b z => absurd z (by simp)), r, q⟩
end
/-! ### calls -/
/-- f(..): the written arguments, then the defaults dvs; E: what is wanted of an exception -/
def tCall (sp : Sp) (dvs : List V) (E : XK) (t : TA) : TE := fun σ H Q => t σ H fun vs H1 => sp (vs ++ dvs) H1 Q E
/-- o.m(..) of an instance of the class at C -/
def tMeth (C : Addr) (m : Str) (sp : Sp) (dvs : List V) (E : XK) (ta : TE) (t : TA) : TE := fun σ H Q => ta σ H fun x H1 => ∃ a dx fs, x = .ref a ∧ H1 a = some (.ins C dx fs) ∧ fs.lookup m = none ∧
  t σ H1 fun vs H2 => sp (x :: (vs ++ dvs)) H2 Q E
/-- C(..): a new instance and its dict, then __init__ -/
def tMake (C : Addr) (sp : Sp) (dvs : List V) (E : XK) (t : TA) : TE := fun σ H Q => t σ H fun vs H1 => ∀ x dx, H1 x = none → H1 dx = none → dx ≠ x →
  sp (.ref x :: (vs ++ dvs)) (upd (upd H1 dx (.own x)) x (.ins C dx [])) (fun v H2 => v = .non ∧ Q (.ref x) H2) E
/-- how the parameters are bound: us the positional arguments, kw the keywords' values by name, ds the defaults that fill up -/
def Binds (K : PySem.W.Frag) (fd : FuncData) (ps : List Str) (ds : List Value) : Prop :=
  ∀ (s : Shared) (us : List Value), K.In s.heap → (us ++ ds).length = ps.length → BindsTo s fd ⟨us, []⟩ (ps.zip (us ++ ds))
/-- every parameter is given -/
theorem Binds.all {K : PySem.W.Frag} {fd : FuncData} {ps : List Str} (h : ∀ us : List Value, us.length = ps.length → bindArgs fd ⟨us, []⟩ = pure (ps.zip us)) : Binds K fd ps [] := fun s us _ hl => by
  rw [List.append_nil] at hl ⊢
  exact .of_eq (h us hl)
/-- an exception of a callee reaches what this body wants of exceptions -/
def Passes (CX : CXT) (X : Cx) (E : XK) : Prop := ∀ (pins : List (Addr × Obj)) (σ : St) (H : Hp) (s : Shared) (e : Value) (s' : Shared), Inv X pins σ H s → CX X.stack H s E e s' → X.xe e s'
section
variable {X : Cx} {CX : CXT} {k : Nat} {f C : Addr} {fd : FuncData} {ps : List Str} {sp : Sp} {dvs : List V} {ds : List Value} {E : XK} {x m : Str} {p pos apos : Pos} {e o : Expr} {es : List Expr} {ta : TE} {t : TA}
/-- the callee runs -/
theorem run_fn {pins : List (Addr × Obj)} {σ : St} {H : Hp} {s : Shared} {Q : VK} {us : List Value} {vs : List V} (F : FnOk X.prog X.w X.K X.mg X.base CX k f fd ps sp) (hr : Room k X.A) (hb : Binds X.K fd ps ds) (hd : Vals dvs ds) (hx : Passes CX X E)
    (I : Inv X pins σ H s) (r : Vals vs us) (h : sp (vs ++ dvs) H Q E) : wpAny (model X.prog X.w) X.A (call (.ref f) us) (EP X pins σ Q) X.xe s := by
  have r2 : Vals (vs ++ dvs) (us ++ ds) := r.append hd
  have hl : (us ++ ds).length = ps.length := by rw [← r2.length]; exact F.len _ _ _ _ h
  refine wpAny_call (codeAny_mono (F.run X.A X.stack s H ⟨us, []⟩ (us ++ ds) (vs ++ dvs) Q E hr I.env0 (hb s us I.kIn hl) r2 h) fun r s' hq => ?_)
  cases r with
  | error e => exact hx pins σ H s e s' I hq
  | ok fl =>
    cases fl with
    | ret u => exact I.after hq
    | next => exact False.elim hq
    | brk => exact False.elim hq
    | cont => exact False.elim hq
theorem pe_call (F : FnOk X.prog X.w X.K X.mg X.base CX k f fd ps sp) (hr : Room k X.A) (hg : Gl X x) (hm : X.mg x = some (.ref f)) (hk : PySem.W.keepIn X.K (.ref f) = true) (hb : Binds X.K fd ps ds) (hd : Vals dvs ds) (hx : Passes CX X E)
    (ha : PA X (e :: es) t) (hdb : (x == ("__debug__" : Str)) = false := by decide) (he : starEach (e :: es) X.env = (false, eval e X.env) :: starEach es X.env := by rfl) (hpl : (backTo pos (starEach es X.env)).any (·.1) = false := by rfl) :
    PE X (.Call (.Name x p) (e :: es) [] pos) (tCall sp dvs E t) := by
  intro pins s σ H Q I h
  refine wpAny_Call_Name_kw (ld_glob I hg hm ?_ hdb)
  refine PySem.W.callWith_K (h₀ := X.base) I.ok.mod.kin hk (thn (ha pos pins s σ H _ I h) fun us s1 ⟨vs, H1, I1, r, q⟩ => ⟨I1.kIn, ?_⟩) he hpl
  exact run_fn F hr hb hd hx I1 r q
/-- o.m(e, ..) -/
theorem pe_meth {pl : Sem Bool} (he : PE X o ta) (c : Cls X.K C) (hm : Meth X.K C m f) (F : FnOk X.prog X.w X.K X.mg X.base CX k f fd ps sp) (hr : Room k X.A) (hb : Binds X.K fd ps ds) (hd : Vals dvs ds) (hx : Passes CX X E) (ha : PA X (e :: es) t)
    (hst : starEach (e :: es) X.env = (false, eval e X.env) :: starEach es X.env := by rfl) (hpl : (backTo pos (starEach es X.env)).any (·.1) = false := by rfl)
    (ht : eval (.Call (.Attribute o m apos) (e :: es) [] pos) X.env = (do
      let ov ← eval o X.env
      standAt apos.atName
      let (f, first) ← holding [ov] (getMethod ov m pl)
      callWith pos f first (backTo pos (starEach (e :: es) X.env)) (backToKw pos (keywordEach [] X.env))) := by rfl) :
    PE X (.Call (.Attribute o m apos) (e :: es) [] pos) (tMeth C m sp dvs E ta t) := by
  intro pins s σ H Q I h
  refine PySem.W.methodCall_KW (pl := pl) (thn (he pins s σ H _ I h) fun u s1 ⟨x, H1, I1, rx, a, dx, fs, ex, ea, l, q⟩ => ?_) ht
  subst ex
  obtain rfl : u = Value.ref a := rx
  refine getmeth_ok I1 ea c hm l ?_
  refine PySem.W.callWith_K (first := [.ref a]) (h₀ := X.base) I.ok.mod.kin hm.kp (thn (ha pos pins s1 σ H1 _ I1 q) fun us s2 ⟨vs, H2, I2, r, q2⟩ => ⟨I2.kIn, ?_⟩) hst hpl
  exact run_fn (us := .ref a :: us) (vs := .ref a :: vs) F hr hb hd hx I2 (.cons rfl r) q2
/-- o.m() -/
theorem pe_meth0 {pl : Sem Bool} (he : PE X o ta) (c : Cls X.K C) (hm : Meth X.K C m f) (F : FnOk X.prog X.w X.K X.mg X.base CX k f fd ps sp) (hr : Room k X.A) (hb : Binds X.K fd ps ds) (hd : Vals dvs ds) (hx : Passes CX X E)
    (ht : eval (.Call (.Attribute o m apos) [] [] pos) X.env = (do
      let ov ← eval o X.env
      standAt apos.atName
      let (f, first) ← holding [ov] (getMethod ov m pl)
      callWith pos f first (backTo pos (starEach [] X.env)) (backToKw pos (keywordEach [] X.env))) := by rfl) :
    PE X (.Call (.Attribute o m apos) [] [] pos) (tMeth C m sp dvs E ta tNil) := by
  intro pins s σ H Q I h
  refine PySem.W.methodCall_KW (pl := pl) (thn (he pins s σ H _ I h) fun u s1 ⟨x, H1, I1, rx, a, dx, fs, ex, ea, l, q⟩ => ?_) ht
  subst ex
  obtain rfl : u = Value.ref a := rx
  refine getmeth_ok I1 ea c hm l ?_
  exact PySem.W.callWith_K0 (first := [.ref a]) I1.kIn hm.kp (run_fn (us := [.ref a]) (vs := [.ref a]) F hr hb hd hx I1 (.cons rfl .nil) q)
/-- what a class must have to be made -/
structure Mk (K : PySem.W.Frag) (C f : Addr) : Prop where
  makes : PySem.W.makesIn K C = true
  init : PySem.W.findIn K (.ref C) "__init__" = some (some (.ref f))
  fn : PySem.W.isFn K (.ref f) = true
  kp : PySem.W.keepIn K (.ref C) = true
theorem run_make {pins : List (Addr × Obj)} {σ : St} {H : Hp} {s : Shared} {Q : VK} {us : List Value} {vs : List V} (M : Mk X.K C f) (F : FnOk X.prog X.w X.K X.mg X.base CX k f fd ps sp) (hr : Room (k + 1) X.A) (hb : Binds X.K fd ps ds) (hd : Vals dvs ds)
    (hx : Passes CX X E) (I : Inv X pins σ H s) (r : Vals vs us)
    (h : ∀ x dx, H x = none → H dx = none → dx ≠ x → sp (.ref x :: (vs ++ dvs)) (upd (upd H dx (.own x)) x (.ins C dx [])) (fun v H2 => v = .non ∧ Q (.ref x) H2) E) :
    wpAny (model X.prog X.w) X.A (call (.ref C) us) (EP X pins σ Q) X.xe s := by
  have hq := h (s.heap.objs.size + 1) s.heap.objs.size (I.hok.fresh (Nat.le_succ _)) (I.hok.fresh (Nat.le_refl _)) (Nat.ne_of_lt (Nat.lt_succ_self _))
  have I2 := Inv.made (C := C) I
  have r2 : Vals (V.ref (s.heap.objs.size + 1) :: (vs ++ dvs)) (Value.ref (s.heap.objs.size + 1) :: (us ++ ds)) := .cons rfl (r.append hd)
  have hl : (Value.ref (s.heap.objs.size + 1) :: us ++ ds).length = ps.length := by
    have e := r2.length
    rw [F.len _ _ _ _ hq] at e
    exact e.symm
  refine wpAny_call (make_map (f := f) I.kIn M.makes M.init (beq_iff_eq.mp M.fn) (codeAny_mono (F.run _ X.stack _ _ ⟨Value.ref (s.heap.objs.size + 1) :: us, []⟩ (Value.ref (s.heap.objs.size + 1) :: (us ++ ds)) _ _ E (hr.make C us [])
    (I2.env0.make C us []) (hb _ (Value.ref (s.heap.objs.size + 1) :: us) I2.kIn hl) r2 hq) fun r s' hq' => ?_))
  cases r with
  | error e => exact hx pins σ _ _ e s' I2 hq'
  | ok fl =>
    cases fl with
    | ret u =>
      obtain ⟨v, H', I3, rv, ev, q3⟩ := I2.after hq'
      subst ev
      exact ⟨rv, ⟨V.ref (s.heap.objs.size + 1), H', I3, rfl, q3⟩⟩
    | next => exact False.elim hq'
    | brk => exact False.elim hq'
    | cont => exact False.elim hq'
theorem pe_make0 (M : Mk X.K C f) (F : FnOk X.prog X.w X.K X.mg X.base CX k f fd ps sp) (hr : Room (k + 1) X.A) (hg : Gl X x) (hm : X.mg x = some (.ref C)) (hb : Binds X.K fd ps ds) (hd : Vals dvs ds) (hx : Passes CX X E)
    (hdb : (x == ("__debug__" : Str)) = false := by decide) : PE X (.Call (.Name x p) [] [] pos) (tMake C sp dvs E tNil) := by
  intro pins s σ H Q I h
  refine wpAny_Call_Name_kw (ld_glob I hg hm ?_ hdb)
  exact PySem.W.callWith_K0 I.kIn M.kp (run_make (us := []) M F hr hb hd hx I .nil h)
end
/-! ### keywords -/
section
variable {X : Cx} {CX : CXT} {k : Nat} {f C : Addr} {fd : FuncData} {ps ks : List Str} {sp : Sp} {E : XK} {x m : Str} {p pos apos kpos : Pos} {e o : Expr} {es : List Expr} {kws : List Keyword} {te ta : TE} {t tk : TA} {nm : Option Str}
variable {g : List Value → List Value → List Value} {gV : List V → List V → List V}
end
/-! ### a def's body keeps its promise -/
/-- names: the parameters first -/
structure FnScope (N P : List Str) (sc : Scope) : Prop where
  kind : sc.kind = .function
  co : sc.isCoroutine = false
  gen : sc.isGenerator = false
  nd : N.Nodup
  pre : N.take P.length = P
  par : ∀ x ∈ P, sc.names.lookup x = some .local ∨ sc.names.lookup x = some .cell
  nofree : ∀ y ∈ sc.names, y.2 ≠ .free
theorem bindL_out {kindOf : Str → Option NameKind} {x : Str} : ∀ {binds : List (Str × Value)} {m : Str → Option Value}, (∀ v, (x, v) ∉ binds) → bindL kindOf binds m x = m x
  | [], _, _ => rfl
  | (n, v) :: r, m, h => by
    unfold bindL
    rw [bindL_out fun w hw => h w (List.mem_cons_of_mem _ hw)]
    split
    · have : x ≠ n := by rintro rfl; exact h v List.mem_cons_self
      simp [this]
    · rfl
theorem bindC_out {kindOf : Str → Option NameKind} {x : Str} : ∀ {binds : List (Str × Value)} {m : Str → Option Value}, (∀ v, (x, v) ∉ binds) → bindC kindOf binds m x = m x
  | [], _, _ => rfl
  | (n, v) :: r, m, h => by
    unfold bindC
    rw [bindC_out fun w hw => h w (List.mem_cons_of_mem _ hw)]
    split
    · rfl
    · have : x ≠ n := by rintro rfl; exact h v List.mem_cons_self
      simp [this]
theorem bindL_get {kindOf : Str → Option NameKind} {x : Str} {v : Value} : ∀ {P : List Str} {vs : List Value} {i : Nat} {m : Str → Option Value}, P.Nodup → P[i]? = some x → vs[i]? = some v → kindOf x = some .local →
    bindL kindOf (P.zip vs) m x = some v
  | [], _, _, _, _, h, _, _ => by simp at h
  | _ :: _, [], _, _, _, _, h, _ => by simp at h
  | p :: P, w :: vs, 0, m, nd, h1, h2, hk => by
    simp at h1 h2; subst h1; subst h2
    show bindL kindOf ((p, w) :: P.zip vs) m p = _
    unfold bindL
    rw [bindL_out fun v hv => (List.nodup_cons.mp nd).1 (List.of_mem_zip hv).1, if_pos hk]
    simp
  | p :: P, w :: vs, i + 1, m, nd, h1, h2, hk => by
    show bindL kindOf ((p, w) :: P.zip vs) m x = _
    unfold bindL
    exact bindL_get (i := i) (List.nodup_cons.mp nd).2 (by simpa using h1) (by simpa using h2) hk
theorem bindC_get {kindOf : Str → Option NameKind} {x : Str} {v : Value} : ∀ {P : List Str} {vs : List Value} {i : Nat} {m : Str → Option Value}, P.Nodup → P[i]? = some x → vs[i]? = some v → kindOf x ≠ some .local →
    bindC kindOf (P.zip vs) m x = some v
  | [], _, _, _, _, h, _, _ => by simp at h
  | _ :: _, [], _, _, _, _, h, _ => by simp at h
  | p :: P, w :: vs, 0, m, nd, h1, h2, hk => by
    simp at h1 h2; subst h1; subst h2
    show bindC kindOf ((p, w) :: P.zip vs) m p = _
    unfold bindC
    rw [bindC_out fun v hv => (List.nodup_cons.mp nd).1 (List.of_mem_zip hv).1, if_neg hk]
    simp
  | p :: P, w :: vs, i + 1, m, nd, h1, h2, hk => by
    show bindC kindOf ((p, w) :: P.zip vs) m x = _
    unfold bindC
    exact bindC_get (i := i) (List.nodup_cons.mp nd).2 (by simpa using h1) (by simpa using h2) hk
/-- the names' values at the entry -/
def start (N : List Str) (vs : List V) : St := vs.map some ++ List.replicate (N.length - vs.length) none
/-- the context of a def's body, at its entry; an exception leaves the frame, then lies as CX says -/
def cxOf (CX : CXT) (P : Program) (w : World) (K : PySem.W.Frag) (mg : Str → Option Value) (base : Heap) (N : List Str) (qual : Str) (scope : Scope) (f : Addr) (cd : Value) (A : Around) (outer : List Env) (s : Shared) (H : Hp) (E : XK) : Cx where
  prog := P
  w := w
  K := K
  mg := mg
  base := base
  A := A.deeper (envOfC qual scope s.heap.objs.size f cd)
  N := N
  s_0 := s
  H_0 := H
  env := envOfC qual scope s.heap.objs.size f cd
  outer := outer
  stack := envOfC qual scope s.heap.objs.size f cd :: outer
  ex := []
  calm := true
  fn := fun _ => true
  pn := []
  xe := fun e s' => wpAny (model P w) (A.deeper (envOfC qual scope s.heap.objs.size f cd)) (leaving (envOfC qual scope s.heap.objs.size f cd) e) (fun _ s'' => CX outer H s E e s'') (fun e' s'' => CX outer H s E e' s'') s'
theorem cell_has {sc : Scope} {n : Nat} {x : Str} (h : sc.names.lookup x = some .cell) : ∃ c, (cellsFrom n sc.names []).lookup x = some c := by
  have q := PySem.W.cellsFrom_some sc.names n [] (.inl h)
  exact Option.isSome_iff_exists.mp q
theorem inv_start {CX : CXT} {P : Program} {w : World} {K : PySem.W.Frag} {mg : Str → Option Value} {base : Heap} {N ps : List Str} {qual : Str} {scope : Scope} {f : Addr} {cd : Value} {A : Around} {outer : List Env} {s s1 : Shared} {H : Hp} {E : XK} {us : List Value} {vs : List V}
    (S : FnScope N ps scope) (hd : A.handled = none) (e0 : Env0 P w K mg base A outer s H) (hl : vs.length = ps.length) (r : Vals vs us)
    (x : InCallC s s.heap.objs.size (bindL (envOfC qual scope s.heap.objs.size f cd).kindOf (ps.zip us) fun _ => none) (cellsFrom (s.heap.objs.size + 1) scope.names []) (bindC (envOfC qual scope s.heap.objs.size f cd).kindOf (ps.zip us) fun _ => none) s1) :
    Inv (cxOf CX P w K mg base N qual scope f cd A outer s H E) [] (start N vs) H s1 := by
  have hpl : ps.length ≤ N.length := by have := congrArg List.length S.pre; rw [List.length_take] at this; omega
  obtain ⟨h1, tk, rfl, hk⟩ := x.done
  have noA : ∀ b : Addr, b ∉ (cxOf CX P w K mg base N qual scope f cd A outer s H E).ex := fun b z => absurd (show b ∈ ([] : List Addr) from z) (by simp)
  refine ⟨⟨e0.mod, S.kind, rfl, rfl, Nat.le_refl _, fun y z c h1 h2 => ?_, fun y hy => ?_, fun y c _ h => ?_, fun _ => hd, Around.frames_deeper e0.frames, .inr ⟨rfl, rfl⟩, fun b z => absurd z (noA b), e0.bs, e0.bsz, fun b _ _ => noA b, fun b z => absurd z (noA b), e0.funs, e0.frf⟩,
    rfl, e0.bare, Un.kept hk, ⟨_, x.toInCall.ns, fun i y v h1 h2 h3 => ?_⟩, fun y c h => ⟨_, x.cell y c h⟩, e0.hok.fresh (Nat.le_refl _), fun y c h => ?_, fun p hp => absurd (show p ∈ ([] : List (Addr × Obj)) from hp) (by simp), e0.hok.kept hk, ?_⟩
  · exact name_of_addr x.apart (PySem.mem_of_lookup h1) (PySem.mem_of_lookup h2)
  · have hy : scope.names.lookup y = some .cell ∨ scope.names.lookup y = some .free := hy
    rcases hy with hy | hy
    · exact cell_has hy
    · exact absurd rfl (S.nofree _ (PySem.mem_of_lookup hy))
  · exact Nat.le_of_lt (x.above y c (PySem.mem_of_lookup h))
  · have hi : i < vs.length := by
      unfold start at h2
      by_cases hi : i < vs.length
      · exact hi
      · rw [List.getElem?_append_right (by simpa using hi)] at h2
        rw [List.getElem?_replicate] at h2
        split at h2 <;> cases h2
    have ha : vs[i]? = some v := by
      unfold start at h2
      rw [List.getElem?_append_left (by simpa using hi), List.getElem?_map] at h2
      cases e : vs[i]? with
      | none => rw [e] at h2; cases h2
      | some a => rw [e] at h2; cases h2; rfl
    obtain ⟨u, hu, rv⟩ := r.get ha
    have hp : ps[i]? = some y := by
      rw [← S.pre, List.getElem?_take_of_lt (by omega)]; exact h1
    have ndP : ps.Nodup := by rw [← S.pre]; exact S.nd.sublist (List.take_sublist _ _)
    refine ⟨u, rv, ?_⟩
    rcases S.par y (List.mem_of_getElem? hp) with k | k
    · exact .inl ⟨k, bindL_get ndP hp hu k⟩
    · obtain ⟨c, e⟩ := cell_has (n := s.heap.objs.size + 1) k
      refine .inr ⟨.inl k, c, e, ?_⟩
      have q := x.cell y c e
      rw [bindC_get ndP hp hu (by show scope.names.lookup y ≠ _; rw [k]; decide)] at q
      exact q
  · exact e0.hok.fresh (Nat.le_of_lt (x.above y c (PySem.mem_of_lookup h)))
  · unfold start
    show _ = N.length
    rw [List.length_append, List.length_map, List.length_replicate]
    omega
/-- THE RULE: a def (or a method) of the text, by its body. The body's reading t is chosen for each entry; it is run at the parameters' values -/
theorem fn_of {CX : CXT} {P : Program} {w : World} {K : PySem.W.Frag} {mg : Str → Option Value} {base : Heap} {k : Nat} {f : Addr} {name qual : Str} {params : Arguments} {body : List Stmt} {scope : Scope} {dV kV doc pm cdv ct oc : Value} {an od : Option Addr}
    {osl : Array (Option Value)} {N ps : List Str} {sp : Sp} (lk : K.lookup f = some ⟨oc, od, .func (PySem.W.fnOf name qual params body scope dV kV doc pm an cdv ct), osl⟩) (hcd : PySem.W.codeIn K cdv qual = true) (S : FnScope N ps scope)
    (len : ∀ vs H Q E, sp vs H Q E → vs.length = ps.length)
    (hbody : ∀ (A : Around) (outer : List Env) (s : Shared) (H : Hp) (vs : List V) (Q : VK) (E : XK), Room k (A.deeper (envOfC qual scope s.heap.objs.size f cdv)) → sp vs H Q E →
      ∃ t, PSs (cxOf CX P w K mg base N qual scope f cdv A outer s H E) body t ∧ t { nx := fun _ H' => Q .non H', rt := Q } (start N vs) H) :
    FnOk P w K mg base CX (k + 1) f (PySem.W.fnOf name qual params body scope dV kV doc pm an cdv ct) ps sp := by
  refine ⟨len, fun A outer s H args us vs Q E hr e0 hb r hsp => ?_⟩
  have hl := len _ _ _ _ hsp
  have KX : K.In s.heap := e0.mod.kin.keeps fun b o e => (e0.bs b o e).1
  have lim : s.heap.NoLimit := e0.mod.nolimit.keeps fun b o e => (e0.bs b o e).1
  have hkind : ∀ y ∈ ps.zip us, scope.names.lookup y.1 = some .local ∨ (scope.names.lookup y.1 = some .cell ∧ ((cellsFrom (s.heap.objs.size + 1) scope.names []).lookup y.1).isSome = true) := fun ⟨n, v⟩ hy => by
    rcases S.par n (List.of_mem_zip hy).1 with q | q
    · exact .inl q
    · exact .inr ⟨q, PySem.W.cellsFrom_some _ _ _ (.inl q)⟩
  refine codeAny_call_function hr.depth (KX _ _ lk) rfl S.co S.gen rfl (PySem.W.codeRec_of KX hcd) (hb _ _ _ _ ?_)
  refine wpAny_newFunctionEnv_cells S.kind hkind fun env he s1 x => ?_
  subst he
  refine ⟨lim.keeps x.toInCall.keep, codeAny_func ?_⟩
  obtain ⟨t, ht, hq⟩ := hbody A outer s H vs Q E (hr.deeper _) hsp
  have I : Inv (cxOf CX P w K mg base N qual scope f cdv A outer s H E) [] (start N vs) H s1 := inv_start S hr.hd e0 hl r x
  refine wpAny_mono (ht [] s1 (start N vs) H _ I hq) (fun fl s' hs => ?_) fun e s' hs => hs
  have fin : ∀ {σ' : St} {H' : Hp} {v : V} {u : Value}, Inv (cxOf CX P w K mg base N qual scope f cdv A outer s H E) [] σ' H' s' → RelV v u → Q v H' → CE outer P w H s Q u s' :=
    fun {σ' H' v u} J rv q => ⟨v, H', J.os, J.bare, J.base, J.hok, rv, q⟩
  cases fl with
  | ret u =>
    obtain ⟨v, σ', H', J, rv, q⟩ := hs
    exact fin J rv q
  | next =>
    obtain ⟨σ', H', J, q⟩ := hs
    exact fin (v := V.non) (u := Value.none) J rfl q
  | brk =>
    obtain ⟨_, _, _, q⟩ := hs
    exact False.elim q
  | cont =>
    obtain ⟨_, _, _, q⟩ := hs
    exact False.elim q
end L2
namespace L2
open PySem PySem.Spec PyProof.Rows
section
variable {X : Cx} {x : Str} {p pos : Pos} {e : Expr} {es : List Expr} {t : TA} {id T : String} {r : List V → Hp → VK → Prop}
def tCB (r : List V → Hp → VK → Prop) (t : TA) : TE := fun σ H Q => t σ H fun vs H1 => r vs H1 Q
/-- f(e, ..), f a built-in function -/
theorem pe_callB (hc : CallR X (.builtin id) r) (hg : Gl X x) (hm : X.mg x = none) (hv : bootBuiltins x = some (.builtin id)) (ha : PA X (e :: es) t) (hn : x ≠ "__name__" := by decide) (hdb : (x == ("__debug__" : Str)) = false := by decide)
    (he : starEach (e :: es) X.env = (false, eval e X.env) :: starEach es X.env := by rfl) (hpl : (backTo pos (starEach es X.env)).any (·.1) = false := by rfl) : PE X (.Call (.Name x p) (e :: es) [] pos) (tCB r t) := by
  intro pins s σ H Q I h
  refine wpAny_Call_Name_kw (ld_blt I hg hm hv ?_ hn hdb)
  exact PyProof.Rows.callWith_builtin1 (thn (ha pos pins s σ H _ I h) fun us s1 ⟨vs, H1, I1, r1, q1⟩ => hc pins s1 σ H1 vs us Q I1 r1 q1) he hpl
/-- T(e, ..), T a built-in type -/
theorem pe_callTy (hc : CallR X (.type T) r) (hg : Gl X x) (hm : X.mg x = none) (hv : bootBuiltins x = some (.type T)) (ha : PA X (e :: es) t) (hn : x ≠ "__name__" := by decide) (hdb : (x == ("__debug__" : Str)) = false := by decide)
    (he : starEach (e :: es) X.env = (false, eval e X.env) :: starEach es X.env := by rfl) (hpl : (backTo pos (starEach es X.env)).any (·.1) = false := by rfl) : PE X (.Call (.Name x p) (e :: es) [] pos) (tCB r t) := by
  intro pins s σ H Q I h
  refine wpAny_Call_Name_kw (ld_blt I hg hm hv ?_ hn hdb)
  exact PyProof.Rows.callWith_type1 (thn (ha pos pins s σ H _ I h) fun us s1 ⟨vs, H1, I1, r1, q1⟩ => hc pins s1 σ H1 vs us Q I1 r1 q1) he hpl
end
end L2
namespace HT
open PySem PyProof.Rows
/-- t < u of tuples of ints -/
def lexLt : List Int → List Int → Bool
  | [], [] => false
  | [], _ :: _ => true
  | _ :: _, [] => false
  | x :: xs, y :: ys => if x = y then lexLt xs ys else decide (x < y)
theorem lexLt_cons (x y : Int) (xs ys : List Int) : lexLt (x :: xs) (y :: ys) = if x = y then lexLt xs ys else decide (x < y) := rfl
theorem lexLt_nil_nil : lexLt [] [] = false := rfl
theorem lexLt_nil_cons (y : Int) (ys : List Int) : lexLt [] (y :: ys) = true := rfl
theorem lexLt_cons_nil (x : Int) (xs : List Int) : lexLt (x :: xs) [] = false := rfl
theorem eqAt_int (A : Around) (s : Shared) (a : Int) (t : Tok) (c : Int) (u : Tok) : ∃ e, SeqAt.EqAt A s (.int a t) (.int c u) e ∧ (e = true ↔ a = c) :=
  ⟨(a == c), SeqAt.EqAt.int_int a t c u, by simp⟩
theorem rcLt_int (A : Around) (s : Shared) (a : Int) (t : Tok) (c : Int) (u : Tok) (prog : Program) (w : World) (E : Value → Shared → Prop) (Q : Value → Shared → Prop) (h : Q (.bool (decide (a < c))) s) :
    wpAny (model prog w) A (richCompare .Lt (.int a t) (.int c u)) Q E s :=
  (PyProof.Rows.lt_int h : wpAny (model prog w) A (compareOp .Lt (.int a t) (.int c u)) Q E s)
section
open PySem.SeqAt
open PySem.AutoSeq1 (wpAny_loadPart')
open PySem.MeetsSeq PySem.MeetsSeq2 PySem.MeetsSeq3
theorem tuple_lt_ints (l b : Addr) (items items2 : Array Value) (n n2 : Nat) (dd dd2 : Option Addr) (sl sl2 : Array (Option Value)) (ns ms : List Int) (hi : IntsAre items.toList ns) (hj : IntsAre items2.toList ms) :
    Meets (Builtin.«tuple.__lt__» ⟨[.ref l, .ref b], []⟩)
      (fun _ R s => s.heap.get? l = some { cls := .type "tuple", dict := dd, data := .seq items n, slots := sl } ∧ s.heap.get? b = some { cls := .type "tuple", dict := dd2, data := .seq items2 n2, slots := sl2 } ∧
        R (.ok (.ret (.bool (lexLt ns ms)))) s) :=
  .of_wp fun prog w A R s h => by
    obtain ⟨hp, g, d, tk, os⟩ := s; obtain ⟨hl, hb, h⟩ := h
    have f2 := AutoSeq1.sub_tuple_tuple
    have z1 : items.size = ns.length := by rw [← hi.length]; simp
    have z2 : items2.size = ms.length := by rw [← hj.length]; simp
    wp_walk using wpAny_loadPart' hl, wpAny_loadPart' hb, wpAny_forIn_list _ (fun rest b s' => b.1 = none ∧ s' = ⟨hp, g, d, tk, os⟩ ∧ ∃ (vs ws : List Value) (ns' ms' : List Int), rest = vs.zip ws ∧
      IntsAre vs ns' ∧ IntsAre ws ms' ∧ ns'.length + items2.size = ms'.length + items.size ∧ R (.ok (.ret (.bool (lexLt ns' ms')))) ⟨hp, g, d, tk, os⟩) _
    case turn =>
      rintro ⟨y, x⟩ rest b s' ⟨hb', rfl, vs, ws, ns', ms', hz, hvi, hwi, hlen, hR⟩
      cases hvi with
      | nil => rw [List.zip_nil_left] at hz; cases hz
      | cons a t hvi' =>
        cases hwi with
        | nil => rw [List.zip_nil_right] at hz; cases hz
        | cons c u hwi' =>
          rw [List.zip_cons_cons] at hz
          injection hz with hyx hrest
          injection hyx with hy hx
          subst hy hx
          rw [lexLt_cons] at hR
          simp only [List.length_cons] at hlen
          obtain ⟨e, he, hiff⟩ := eqAt_int A.in1 ⟨hp, g, d, tk, os⟩ a t c u
          refine wpAny_bind (he prog w _ _ ?_)
          cases e with
          | true =>
            rw [if_pos (hiff.mp rfl)] at hR
            wp_walk
            exact ⟨rfl, rfl, _, _, _, _, hrest, hvi', hwi', by omega, hR⟩
          | false =>
            rw [if_neg (fun q => absurd (hiff.mpr q) Bool.false_ne_true)] at hR
            have hri := rcLt_int A.in1 ⟨hp, g, d, tk, os⟩ a t c u prog w
            wp_walk using hri
            exact ⟨_, rfl, by simpa using hR⟩
    case fin =>
      rintro ⟨b1, b2⟩ s' ⟨hb', rfl, vs, ws, ns', ms', hz, hvi, hwi, hlen, hR⟩
      simp only at hb'
      subst hb'
      have hv : lexLt ns' ms' = decide (items.size < items2.size) := by
        cases hvi with
        | nil =>
          cases hwi with
          | nil =>
            simp only [List.length_nil] at hlen
            rw [lexLt_nil_nil]
            exact (decide_eq_false (by omega)).symm
          | cons c u hw =>
            simp only [List.length_nil, List.length_cons] at hlen
            rw [lexLt_nil_cons]
            exact (decide_eq_true (by omega)).symm
        | cons a t hv =>
          cases hwi with
          | nil =>
            simp only [List.length_nil, List.length_cons] at hlen
            rw [lexLt_cons_nil]
            exact (decide_eq_false (by omega)).symm
          | cons c u hw =>
            rw [List.zip_cons_cons] at hz
            cases hz
      rw [hv] at hR
      wp_walk
      exact ⟨_, rfl, by simpa [Builtin.Tuple.tupleCompareSizes] using hR⟩
    case h =>
      exact ⟨rfl, rfl, items.toList, items2.toList, ns, ms, rfl, hi, hj, by omega, h⟩
end
section
variable {prog : Program} {w : World} {A : Around} {E : Value → Shared → Prop} {s : Shared}
theorem lt_tupInts {l b : Addr} {items items2 : Array Value} {ns ms : List Int} {Q : Value → Shared → Prop} (hl : IsTup s.heap l items) (hb : IsTup s.heap b items2) (hi : IntsAre items.toList ns) (hj : IntsAre items2.toList ms)
    (hu : A.units < cLine) (h : Q (.bool (lexLt ns ms)) s) : wpAny (model prog w) A (compareOp .Lt (.ref l) (.ref b)) Q E s := by
  obtain ⟨⟨cls, dd, data, sl⟩, ho, hc, n, hd⟩ := id hl
  obtain ⟨⟨cls2, dd2, data2, sl2⟩, ho2, hc2, n2, hd2⟩ := id hb
  simp only at hc hd hc2 hd2
  subst hc hd hc2 hd2
  exact richCompare_meets_room (op := .Lt) ⟨_, ho, rfl⟩ ⟨_, ho2, rfl⟩ PySem.F.slot_tuple_lt PySem.F.entry_tuple_lt (PySem.F.args_tuple_lt_2 _ _) (tuple_lt_ints l b items items2 n n2 dd dd2 sl sl2 ns ms hi hj)
    ⟨ho, ho2, show Value.bool (lexLt ns ms) ≠ Value.notImplemented ∧ Q (.bool (lexLt ns ms)) s from ⟨(fun x => nomatch x), h⟩⟩ hu
/-! ### t[a:b], not the whole -/
/-- a slice's bound as a place among n (d where it is left out) -/
def sIx (n d : Nat) : Option Int → Nat
  | none => d
  | some v => if v < 0 then (v + (n : Int)).toNat else min v.toNat n
theorem sIx_none (n d : Nat) : sIx n d none = d := rfl
theorem sIx_nat (n d k : Nat) : sIx n d (some (k : Int)) = min k n := by
  show (if (k : Int) < 0 then ((k : Int) + (n : Int)).toNat else min (k : Int).toNat n) = min k n
  rw [if_neg (by omega), Int.toNat_natCast]
end
end HT
namespace L2
open PySem PySem.Spec PyProof.Rows
/-! ### the parts of a slice -/
abbrev TO := St → Hp → (Option Int → Hp → Prop) → Prop
/-- a slice's part (left out, or an int) -/
def PO (X : Cx) (e : Option Expr) (t : TO) : Prop :=
  ∀ (pins : List (Addr × Obj)) (s : Shared) (σ : St) (H : Hp) (Q : Option Int → Hp → Prop), Inv X pins σ H s → t σ H Q →
    wpAny (model X.prog X.w) X.A (evalPart e X.env) (fun u s' => ∃ o H', Inv X pins σ H' s' ∧ IsPart u o ∧ Q o H') X.xe s
def tNoPart : TO := fun _ H Q => Q none H
def tPart (t : TE) : TO := fun σ H Q => t σ H fun x H1 => ∃ i, x = .int i ∧ Q (some i) H1
theorem intsAre_of {ns : List Int} : ∀ {us : List Value}, Vals (ns.map V.int) us → IntsAre us ns := by
  induction ns with
  | nil => intro us r; rw [List.map_nil] at r; cases r; exact .nil
  | cons n ns ih =>
    intro us r
    rw [List.map_cons] at r
    cases r with
    | cons r1 r2 =>
      obtain ⟨t, e⟩ := r1
      subst e
      exact .cons n t (ih r2)
section
variable {X : Cx} {e : Expr} {te : TE} {lo hi : Option Expr} {tl th : TO} {pos p2 : Pos}
theorem po_none : PO X none tNoPart := by
  intro pins s σ H Q I h
  rw [evalPart_none]
  exact wpAny_pure ⟨none, H, I, .none, h⟩
theorem po_some (h : PE X e te) : PO X (some e) (tPart te) := by
  intro pins s σ H Q I hw
  rw [evalPart_some]
  refine thn (h pins s σ H _ I hw) fun u s1 ⟨x, H1, I1, r1, q1⟩ => ?_
  obtain ⟨i, rfl, q⟩ := q1
  obtain ⟨t, rfl⟩ := r1
  exact ⟨some i, H1, I1, .int i t, q⟩
/-- what a slice of a value is, by values: the slice object stands at sl -/
def SlR (X : Cx) (r : V → Option Int → Option Int → Hp → VK → Prop) : Prop :=
  ∀ (pins : List (Addr × Obj)) (s : Shared) (σ : St) (H : Hp) (x : V) (v vl vu : Value) (lo hi : Option Int) (sl : Addr) (Q : VK), Inv X pins σ H s → RelV x v → s.heap.IsSliceOf sl vl vu .none → IsPart vl lo → IsPart vu hi → r x lo hi H Q →
    ∃ T id, typeLookup (.type T) "__getitem__" = pure (some (.builtin id)) ∧ s.TypeIs v T ∧ wpAny (model X.prog X.w) X.A (getItem v (.ref sl)) (EP X pins σ Q) X.xe s
def tSl (r : V → Option Int → Option Int → Hp → VK → Prop) (te : TE) (tl th : TO) : TE := fun σ H Q => te σ H fun x H1 => tl σ H1 fun l H2 => th σ H2 fun u H3 => r x l u H3 Q
/-- a[lo:hi], any a -/
theorem pe_slice {r : V → Option Int → Option Int → Hp → VK → Prop} (hr : SlR X r) (he : PE X e te) (hl : PO X lo tl) (hu : PO X hi th) : PE X (.Subscript e (.Slice lo hi none p2) pos) (tSl r te tl th) := by
  intro pins s σ H Q I h
  refine Subscript_ (thn (he pins s σ H _ I h) fun v s1 ⟨x, H1, I1, r1, q1⟩ => ?_)
  refine wpAny_Slice (thn (hl pins s1 σ H1 _ I1 q1) fun vl s2 ⟨l, H2, I2, pl, q2⟩ => thn (hu pins s2 σ H2 _ I2 q2) fun vu s3 ⟨u, H3, I3, pu, q3⟩ => ?_)
  rw [evalPart_none]
  refine wpAny_pure ?_
  have I4 : Inv X pins σ H3 { s3 with heap := s3.heap.push { cls := .type "slice", data := .fields #[vl, vu, .none] } } := I3.kept (t' := s3.toks) fun b ob q => Heap.get?_push_of_some _ q
  obtain ⟨T, id, hT, ht, hg⟩ := hr pins { s3 with heap := s3.heap.push { cls := .type "slice", data := .fields #[vl, vu, .none] } } σ H3 x v vl vu l u s3.heap.objs.size Q I4 r1 (Heap.IsSliceOf.new ..) pl pu q3
  show wpAny (model X.prog X.w) X.A (subscriptTail e (.Slice lo hi none p2) v (.ref s3.heap.objs.size)) (EP X pins σ Q) X.xe { s3 with heap := s3.heap.push { cls := .type "slice", data := .fields #[vl, vu, .none] } }
  exact tail_any (ops := [.ref s3.heap.objs.size, v]) ht hT hg (by with_unfolding_all rfl)
/-- the items of xs[lo:hi] -/
def cutV (xs : List V) (lo hi : Option Int) : List V := (xs.drop (HT.sIx xs.length 0 lo)).take (HT.sIx xs.length xs.length hi - HT.sIx xs.length 0 lo)
theorem cutV_length (xs : List V) (lo hi : Option Int) : (cutV xs lo hi).length ≤ xs.length := by
  unfold cutV
  rw [List.length_take, List.length_drop]
  omega
/-! ### t < u, t + u -/
end
end L2
namespace L2
open PySem PySem.Spec PyProof.Rows
/-! ### places -/
/-- the place that an index of any sign means -/
def ixN (n : Nat) (i : Int) : Option Nat := if 0 ≤ i then (if i < n then some i.toNat else none) else if -(n : Int) ≤ i then some (i + n).toNat else none
def atI {α : Type} (xs : List α) (i : Int) : Option α := (ixN xs.length i).bind fun j => xs[j]?
theorem ixN_seq {n : Nat} {i : Int} {j : Nat} (h : ixN n i = some j) : seqIndex? i n = some j ∧ j < n ∧ -(n : Int) ≤ i ∧ i < n := by
  unfold ixN at h
  by_cases h0 : 0 ≤ i
  · rw [if_pos h0] at h
    by_cases h1 : i < n
    · rw [if_pos h1] at h
      have e : i.toNat = j := Option.some.inj h
      exact ⟨by rw [seqIndex_of h0 h1, e], by omega, by omega, h1⟩
    · rw [if_neg h1] at h; cases h
  · rw [if_neg h0] at h
    by_cases h1 : -(n : Int) ≤ i
    · rw [if_pos h1] at h
      have e : (i + n).toNat = j := Option.some.inj h
      exact ⟨by rw [seqIndex_neg (by omega) h1, e], by omega, h1, by omega⟩
    · rw [if_neg h1] at h; cases h
theorem atI_get {α : Type} {xs : List α} {i : Int} {v : α} (h : atI xs i = some v) : ∃ j, seqIndex? i xs.length = some j ∧ xs[j]? = some v ∧ j < xs.length ∧ -(xs.length : Int) ≤ i ∧ i < xs.length := by
  unfold atI at h
  cases e : ixN xs.length i with
  | none => rw [e] at h; cases h
  | some j =>
    rw [e] at h
    obtain ⟨h1, h2, h3, h4⟩ := ixN_seq e
    exact ⟨j, h1, h, h2, h3, h4⟩
theorem atI_nat {α : Type} {xs : List α} {j : Nat} {v : α} (h : xs[j]? = some v) : atI xs (j : Int) = some v := by
  have hj : j < xs.length := (List.getElem?_eq_some_iff.mp h).1
  have e : ixN xs.length (j : Int) = some j := by
    unfold ixN
    rw [if_pos (by omega), if_pos (by omega)]; simp
  unfold atI; rw [e]; exact h
/-! ### what may be subscripted -/
/-- what stands as an index of a plain subscript -/
def PlainIx (b : Expr) : Prop := ∀ o i, subscripted b false o i = operate [o, i] (getItem o i)
/-- a subscript by values -/
def IxR (X : Cx) (r : R2) : Prop :=
  ∀ (value slice : Expr) (pins : List (Addr × Obj)) (s : Shared) (σ : St) (H : Hp) (x y : V) (v u : Value) (Q : VK), Inv X pins σ H s → RelV x v → RelV y u → r x y H Q →
    subscripted slice false v u = operate [v, u] (getItem v u) → wpAny (model X.prog X.w) X.A (subscriptTail value slice v u) (EP X pins σ Q) X.xe s
/-- a call of a builtin's method by values: the receiver, the arguments -/
def MtR (X : Cx) (id : String) (r : V → List V → Hp → VK → Prop) : Prop :=
  ∀ (pins : List (Addr × Obj)) (s : Shared) (σ : St) (H : Hp) (x : V) (xs : List V) (v : Value) (us : List Value) (Q : VK), Inv X pins σ H s → RelV x v → Vals xs us → r x xs H Q →
    wpAny (model X.prog X.w) X.A (call (.builtin id) (v :: us)) (EP X pins σ Q) X.xe s
section
variable {X : Cx} {a b : Expr} {ta tb : TE} {pos : Pos}
/-- a[b] -/
theorem pe_ix {r : R2} (hr : IxR X r) (ha : PE X a ta) (hb : PE X b tb) (hs : PlainIx b) : PE X (.Subscript a b pos) (tOp r ta tb) := by
  intro pins s σ H Q I h
  exact Subscript_ (binT ha hb I h fun v u s2 x y H2 I2 rx ry q => hr a b pins s2 σ H2 x y v u Q I2 rx ry q (hs _ _))
def rIxL (K : PySem.W.Frag) : R2 := fun x y H Q => ∃ p xs i v, x = .ref p ∧ y = .int i ∧ SqL K H p xs ∧ atI xs i = some v ∧ Q v H
def rIxT (K : PySem.W.Frag) : R2 := fun x y H Q => ∃ p xs i v, x = .ref p ∧ y = .int i ∧ SqT K H p xs ∧ atI xs i = some v ∧ Q v H
theorem ix_list : IxR X (rIxL X.K) := by
  intro value slice pins s σ H x y v u Q I rx ry h hs
  obtain ⟨p, xs, i, z, rfl, rfl, hq, he, q⟩ := h
  cases rx
  obtain ⟨t, rfl⟩ := ry
  obtain ⟨its, r, pl, hz⟩ := I.list hq
  obtain ⟨j, h1, h2, h3, h4, h5⟩ := atI_get he
  obtain ⟨w, ew, rw'⟩ := r.get h2
  have hl := r.length
  have hn := line63
  have fin : EP X pins σ Q w s := ⟨z, H, I, rw', q⟩
  by_cases h0 : 0 ≤ i
  · have hj : i.toNat = j := by
      rw [seqIndex_of h0 h5] at h1
      exact Option.some.inj h1
    exact item_listR pl.isList h0 (by omega) (by rw [hj]; simpa using ew) fin hs
  · have hj : (i + (its.toArray.size : Int)).toNat = j := by
      rw [seqIndex_neg (by omega) h4] at h1
      rw [List.size_toArray, ← hl]
      exact Option.some.inj h1
    exact subscriptTail_builtinR (x := w) pl.isList.typeIs slot_list_getitem.lookup
      (wpAny_getItem_list_neg (Q := fun r s' => r = w ∧ EP X pins σ Q r s') pl.isList (by omega) (by rw [List.size_toArray] <;> omega) (by omega) (by rw [hj]; simpa using ew) ⟨rfl, fin⟩) hs
theorem ix_tup : IxR X (rIxT X.K) := by
  intro value slice pins s σ H x y v u Q I rx ry h hs
  obtain ⟨p, xs, i, z, rfl, rfl, hq, he, q⟩ := h
  cases rx
  obtain ⟨t, rfl⟩ := ry
  obtain ⟨its, r, pl, hz⟩ := I.tuple hq
  obtain ⟨j, h1, h2, h3, h4, h5⟩ := atI_get he
  obtain ⟨w, ew, rw'⟩ := r.get h2
  have hl := r.length
  have hn := line63
  have fin : EP X pins σ Q w s := ⟨z, H, I, rw', q⟩
  exact subscriptTail_builtinR (x := w) pl.typeIs slot_tuple_getitem.lookup
    (getItem_tuple (j := j) (Q := fun r s' => r = w ∧ EP X pins σ Q r s') pl (by omega) (by omega) (by rw [List.size_toArray, ← hl]; exact h1) (by simpa using ew) ⟨rfl, fin⟩) hs
/-! ### xs[i] = v, any sign -/
/-- the list's object behind a store -/
theorem mapSeq_set (its : List Value) (n j : Nat) (u : Value) : Obj.mapSeq (·.setIfInBounds j u) { cls := .type "list", data := .seq its.toArray n } = { cls := .type "list", data := .seq (its.set j u).toArray n } := by
  simp [Obj.mapSeq]
theorem Inv.lst {pins : List (Addr × Obj)} {σ : St} {H : Hp} {s : Shared} {p : Addr} {xs : List V} (I : Inv X pins σ H s) (h : H p = some (.lst xs)) :
    ∃ (its : List Value) (n : Nat), Vals xs its ∧ s.heap.get? p = some { cls := .type "list", data := .seq its.toArray n } ∧ xs.length ≤ sizeLine := by
  obtain ⟨z, its, n, r, e⟩ := I.hok p _ h
  exact ⟨its, n, r, e, z⟩
/-- the list at p is written by an update of its object -/
theorem Inv.lstUpd {pins : List (Addr × Obj)} {σ : St} {H : Hp} {s : Shared} {p : Addr} {xs ys : List V} {its its' : List Value} {n n' : Nat} {f : Obj → Obj} (I : Inv X pins σ H s) (h : H p = some (.lst xs))
    (ho : s.heap.get? p = some { cls := .type "list", data := .seq its.toArray n }) (hf : f { cls := .type "list", data := .seq its.toArray n } = { cls := .type "list", data := .seq its'.toArray n' }) (r : Vals ys its') (hz : ys.length ≤ sizeLine) (t : Nat) :
    Inv X pins σ (upd H p (.lst ys)) { s with heap := s.heap.update p f, toks := t } := by
  have e : (s.heap.update p f).get? p = some { cls := .type "list", data := .seq its'.toArray n' } := by
    rw [Heap.get?_update_self f ho (by rw [hf] <;> rfl), hf]
  refine I.write (x := p) (e := p) (by rw [h]; trivial) (.inl rfl) (fun b u hb q => (Heap.get?_update_other _ _ (Ne.symm hb)).trans q) ⟨_, e⟩ ?_
  exact ⟨hz, its', n', r, e⟩
def rSetL : V → V → V → Hp → (Hp → Prop) → Prop := fun o i v H Q => ∃ p xs k j, o = .ref p ∧ i = .int k ∧ H p = some (.lst xs) ∧ ixN xs.length k = some j ∧ Q (upd H p (.lst (xs.set j v)))
theorem set_list : PSet X rSetL := by
  intro pins s σ H o i v ov iv u Q I ro ri rv h
  obtain ⟨p, xs, k, j, rfl, rfl, hp, hj, q⟩ := h
  cases ro
  obtain ⟨t, rfl⟩ := ri
  obtain ⟨its, n, r, ho, hz⟩ := I.lst hp
  obtain ⟨h1, h2, h3, h4⟩ := ixN_seq hj
  have hl := r.length
  have hn := line63
  have I' : Inv X pins σ (upd H p (.lst (xs.set j v))) { s with heap := s.heap.update p (Obj.mapSeq (·.setIfInBounds j u)) } :=
    I.lstUpd hp ho (mapSeq_set its n j u) (r.set rv j) (by rw [List.length_set]; exact hz) s.toks
  by_cases h0 : 0 ≤ k
  · have hk : k.toNat = j := by
      rw [seqIndex_of h0 h4] at h1
      exact Option.some.inj h1
    exact PySem.W.ki_setAt ho h0 (by omega) (by rw [List.size_toArray, ← hl]; exact h4) (by rw [hk]; exact ⟨_, I', q⟩)
  · have hk : (k + (its.toArray.size : Int)).toNat = j := by
      rw [seqIndex_neg (by omega) h3] at h1
      rw [List.size_toArray, ← hl]
      exact Option.some.inj h1
    exact PySem.W.ki_setBack ho (by omega) (by rw [List.size_toArray, ← hl]; exact h3) (by omega) (by rw [hk]; exact ⟨_, I', q⟩)
/-! ### slices -/
theorem slice_bounds (lo hi : Option Int) (n : Nat) : (sliceBounds lo hi none n).1 = ((HT.sIx n 0 lo : Nat) : Int) ∧ (sliceBounds lo hi none n).2.1 = ((HT.sIx n n hi : Nat) : Int) ∧ (sliceBounds lo hi none n).2.2 = 1 := by
  refine ⟨?_, ?_, rfl⟩
  · cases lo with
    | none => simp [sliceBounds, HT.sIx]
    | some i =>
      simp only [sliceBounds, HT.sIx, Option.getD_none, show (1 : Int) > 0 by decide, if_true]
      by_cases h : i < 0
      · simp only [h, if_true] <;> omega
      · simp only [h, if_false] <;> omega
  · cases hi with
    | none => simp [sliceBounds, HT.sIx]
    | some i =>
      simp only [sliceBounds, HT.sIx, Option.getD_none, show (1 : Int) > 0 by decide, if_true]
      by_cases h : i < 0
      · simp only [h, if_true] <;> omega
      · simp only [h, if_false] <;> omega
theorem slicePick_cut (its : List Value) (lo hi : Option Int) : slicePick its.toArray lo hi none = ((its.drop (HT.sIx its.length 0 lo)).take (HT.sIx its.length its.length hi - HT.sIx its.length 0 lo)).toArray := by
  obtain ⟨h1, h2, h3⟩ := slice_bounds lo hi its.toArray.size
  unfold slicePick
  rw [h1, h2, h3]
  simp only [sliceRange_one, pick_run, List.size_toArray] <;> rfl
/-- xs[lo:hi] of a list: a new list -/
def rSlL (K : PySem.W.Frag) : V → Option Int → Option Int → Hp → VK → Prop := fun x lo hi H Q => ∃ a xs, x = .ref a ∧ SqL K H a xs ∧ ∀ p, H p = none → Q (.ref p) (upd H p (.lst (cutV xs lo hi)))
theorem sl_list : SlR X (rSlL X.K) := by
  intro pins s σ H x v vl vu lo hi sl Q I rx hs pl pu h
  obtain ⟨a, xs, rfl, hx, q⟩ := h
  cases rx
  obtain ⟨its, r, ht, hz⟩ := I.list hx
  have hlen := r.length
  refine ⟨"list", _, slot_list_getitem.lookup, ht.isList.typeIs, ?_⟩
  refine wpAny_getItem_list_slice ht.isList hs pl pu .none (by simp) ?_ (by rw [List.size_toArray] <;> omega)
  rw [slicePick_cut, ← hlen]
  refine ⟨.ref s.heap.objs.size, _, I.laid (t' := s.toks) (o := .lst (cutV xs lo hi)) (fun b ob q => Heap.get?_push_of_some _ q) (Nat.le_refl _) ?_, rfl, q _ (I.hok.fresh (Nat.le_refl _))⟩
  exact ⟨Nat.le_trans (cutV_length xs lo hi) hz, _, 0, (r.drop (HT.sIx xs.length 0 lo)).take (HT.sIx xs.length xs.length hi - HT.sIx xs.length 0 lo), Heap.get?_push_size _ rfl⟩
/-! ### in, not in: flat items -/
def flatV : V → Bool
  | .non => true
  | .bl _ => true
  | .int _ => true
  | .str _ => true
  | _ => false
/-- == of flat values -/
def eqV : V → V → Bool
  | .non, .non => true
  | .bl a, .bl b => a == b
  | .bl a, .int b => (if a then 1 else 0) == b
  | .int a, .bl b => a == (if b then 1 else 0)
  | .int a, .int b => a == b
  | .str a, .str b => a == b
  | _, _ => false
theorem eqAt_V {A : Around} {s : Shared} {y x : V} {u v : Value} (ry : RelV y u) (rx : RelV x v) (fy : flatV y = true) (fx : flatV x = true) : SeqAt.EqAt A s u v (eqV y x) := by
  cases y with
  | non =>
    cases ry
    cases x with
    | non => cases rx; exact SeqAt.EqAt.same _
    | bl b => cases rx; exact SeqAt.EqAt.none_bool b
    | int b => obtain ⟨t, rfl⟩ := rx; exact SeqAt.EqAt.none_int b t
    | str b => obtain ⟨t, rfl⟩ := rx; exact SeqAt.EqAt.none_str b t
    | _ => exact absurd (show false = true from fx) Bool.false_ne_true
  | bl a =>
    cases ry
    cases x with
    | non => cases rx; exact SeqAt.EqAt.bool_none a
    | bl b => cases rx; exact SeqAt.EqAt.bool_bool a b
    | int b => obtain ⟨t, rfl⟩ := rx; exact SeqAt.EqAt.bool_int a b t
    | str b => obtain ⟨t, rfl⟩ := rx; exact SeqAt.EqAt.bool_str a b t
    | _ => exact absurd (show false = true from fx) Bool.false_ne_true
  | int a =>
    obtain ⟨t', rfl⟩ := ry
    cases x with
    | non => cases rx; exact SeqAt.EqAt.int_none a t'
    | bl b => cases rx; exact SeqAt.EqAt.int_bool a t' b
    | int b => obtain ⟨t, rfl⟩ := rx; exact SeqAt.EqAt.int_int a t' b t
    | str b => obtain ⟨t, rfl⟩ := rx; exact SeqAt.EqAt.int_str a t' b t
    | _ => exact absurd (show false = true from fx) Bool.false_ne_true
  | str a =>
    obtain ⟨t', rfl⟩ := ry
    cases x with
    | non => cases rx; exact SeqAt.EqAt.str_none a t'
    | bl b => cases rx; exact SeqAt.EqAt.str_bool a t' b
    | int b => obtain ⟨t, rfl⟩ := rx; exact SeqAt.EqAt.str_int a t' b t
    | str b => obtain ⟨t, rfl⟩ := rx; exact SeqAt.EqAt.str_str a t' b t
    | _ => exact absurd (show false = true from fx) Bool.false_ne_true
  | _ => exact absurd (show false = true from fy) Bool.false_ne_true
/-- the items' answers, read off the values (a value's own answer does not lean on its token) -/
def eqU (x : V) (u : Value) : Bool := match u with
  | .none => eqV .non x
  | .bool b => eqV (.bl b) x
  | .int i _ => eqV (.int i) x
  | .str z _ => eqV (.str z) x
  | _ => false
theorem eqU_of {x y : V} {u : Value} (r : RelV y u) (f : flatV y = true) : eqU x u = eqV y x := by
  cases y with
  | non => cases r; rfl
  | bl b => cases r; rfl
  | int i => obtain ⟨t, rfl⟩ := r; rfl
  | str z => obtain ⟨t, rfl⟩ := r; rfl
  | _ => exact absurd (show false = true from f) Bool.false_ne_true
theorem any_eqU {x : V} : ∀ {xs : List V} {us : List Value}, Vals xs us → xs.all flatV = true → us.any (eqU x) = xs.any fun y => eqV y x
  | _, _, .nil, _ => rfl
  | y :: xs, u :: us, .cons r t, f => by
    rw [List.all_cons, Bool.and_eq_true] at f
    rw [List.any_cons, List.any_cons, eqU_of r f.1, any_eqU t f.2]
theorem mem_eqAt {A : Around} {s : Shared} {x : V} {v : Value} (rx : RelV x v) (fx : flatV x = true) : ∀ {xs : List V} {us : List Value}, Vals xs us → xs.all flatV = true → ∀ u ∈ us, SeqAt.EqAt A s u v (eqU x u)
  | _, _, .nil, _ => fun u hu => by cases hu
  | y :: xs, u :: us, .cons r t, f => fun u' hu => by
    rw [List.all_cons, Bool.and_eq_true] at f
    rcases List.mem_cons.mp hu with rfl | hu
    · rw [eqU_of r f.1]; exact eqAt_V r rx f.1 fx
    · exact mem_eqAt rx fx t f.2 u' hu
def inV (x : V) (xs : List V) : Bool := xs.any fun y => eqV y x
/-- x in a list or tuple of flat items -/
def rIn (K : PySem.W.Frag) (neg : Bool) : R2 := fun x y H Q => ∃ p xs, y = .ref p ∧ (SqL K H p xs ∨ SqT K H p xs) ∧ flatV x = true ∧ xs.all flatV = true ∧ Q (.bl (if neg then !inV x xs else inV x xs)) H
theorem op_in_seq : OpR X (compareOp .In) (rIn X.K false) := by
  intro pins s σ H x y v u Q I rx ry h
  obtain ⟨p, xs, rfl, hq, fx, fs, q⟩ := h
  cases ry
  rcases hq with hq | hq
  · obtain ⟨its, r, pl, hz⟩ := I.list hq
    refine SeqAt.in_listAt (eqU x) pl.isList (fun w hw => mem_eqAt rx fx r fs w (by simpa using hw)) ⟨.bl _, H, I, rfl, ?_⟩
    rw [show its.toArray.any (eqU x) = its.any (eqU x) by simp, any_eqU r fs]
    exact q
  · obtain ⟨its, r, pl, hz⟩ := I.tuple hq
    refine SeqAt.in_tupleAt (eqU x) pl (fun w hw => mem_eqAt rx fx r fs w (by simpa using hw)) ⟨.bl _, H, I, rfl, ?_⟩
    rw [show its.toArray.any (eqU x) = its.any (eqU x) by simp, any_eqU r fs]
    exact q
/-! ### len, list(x), tuple(x) of any list or tuple that is read -/
theorem call_len_seq : CallR X (.builtin "len") (fun xs H Q => ∃ p ys, xs = [.ref p] ∧ (SqL X.K H p ys ∨ SqT X.K H p ys) ∧ Q (.int ys.length) H) := by
  intro pins s σ H xs us Q I r h
  obtain ⟨p, ys, rfl, hq, q⟩ := h
  obtain ⟨u, rfl, rx⟩ := vals1 r
  cases rx
  have hn := line63
  rcases hq with hq | hq
  · obtain ⟨its, r', pl, hz⟩ := I.list hq
    have hlen := r'.length
    exact Calls.call_len_list pl.isList (by simp only [List.size_toArray] <;> omega) ⟨.int ys.length, H, I.tok _, ⟨s.toks + 1, by rw [List.size_toArray, hlen]⟩, q⟩
  · obtain ⟨its, r', pl, hz⟩ := I.tuple hq
    have hlen := r'.length
    exact len_tuple pl (by simp only [List.size_toArray] <;> omega) ⟨.int ys.length, H, I.tok _, ⟨s.toks + 1, by rw [List.size_toArray, hlen]⟩, q⟩
theorem call_list_of : CallR X (.type "list") (fun xs H Q => ∃ p ys, xs = [.ref p] ∧ (SqL X.K H p ys ∨ SqT X.K H p ys) ∧ ∀ l, H l = none → Q (.ref l) (upd H l (.lst ys))) := by
  intro pins s σ H xs us Q I r h
  obtain ⟨p, ys, rfl, hq, q⟩ := h
  obtain ⟨u, rfl, rx⟩ := vals1 r
  cases rx
  have fin : ∀ (its : List Value), Vals ys its → ys.length ≤ sizeLine → ∀ (h' : Heap) (c' : Nat), (∀ b o', s.heap.get? b = some o' → h'.get? b = some o') →
      h'.get? s.heap.objs.size = some { cls := .type "list", dict := none, data := .seq its.toArray c', slots := #[] } → EP X pins σ Q (.ref s.heap.objs.size) { s with heap := h' } := fun its r' hz h' c' kp e =>
    ⟨.ref s.heap.objs.size, _, I.laid (t' := s.toks) kp (Nat.le_refl _) (show ObjOk X.prog X.w _ h' _ (.lst ys) from ⟨hz, its, c', r', e⟩), rfl, q _ (I.hok.fresh (Nat.le_refl _))⟩
  rcases hq with hq | hq
  · obtain ⟨its, r', pl, hz⟩ := I.list hq
    have hlen := r'.length
    obtain ⟨o, ho, hc, n, hd⟩ := pl.isList
    exact call_list_seq p (.inl rfl) ho hc hd (fun h' c' kp e => fin its r' hz h' c' kp e) (by simp only [List.size_toArray] <;> omega)
  · obtain ⟨its, r', pl, hz⟩ := I.tuple hq
    have hlen := r'.length
    obtain ⟨o, ho, hc, n, hd⟩ := pl
    exact call_list_seq p (.inr rfl) ho hc hd (fun h' c' kp e => fin its r' hz h' c' kp e) (by simp only [List.size_toArray] <;> omega)
/-! ### the call of a builtin's method: o.m(..) -/
/-- the value is of that builtin type -/
def tyV (K : PySem.W.Frag) (T : String) (x : V) (H : Hp) : Prop := match x with
  | .str _ => T = "str"
  | .int _ => T = "int"
  | .ref p => (T = "list" ∧ ∃ xs, SqL K H p xs) ∨ (T = "tuple" ∧ ∃ o, K.lookup p = some o ∧ o.cls = .type "tuple" ∧ o.dict = none) ∨
      (T = "dict" ∧ ((∃ kvs, H p = some (.dK kvs)) ∨ ∃ kvs, H p = some (.dT kvs))) ∨ (T = "set" ∧ ∃ S n, H p = some (.set S n))
  | _ => False
theorem tyV_is {pins : List (Addr × Obj)} {σ : St} {H : Hp} {s : Shared} {T : String} {x : V} {v : Value} (I : Inv X pins σ H s) (r : RelV x v) (ty : tyV X.K T x H) :
    s.TypeIs v T ∧ ∀ a, v = .ref a → ∃ ob, s.heap.get? a = some ob ∧ ob.dict = none := by
  cases x with
  | str z =>
    obtain ⟨t, rfl⟩ := r
    cases (show T = "str" from ty)
    exact ⟨typeIs_str s z t, fun _ e => nomatch e⟩
  | int i =>
    obtain ⟨t, rfl⟩ := r
    cases (show T = "int" from ty)
    exact ⟨typeIs_int s i t, fun _ e => nomatch e⟩
  | ref p =>
    cases r
    rcases ty with ⟨rfl, xs, hq⟩ | ⟨rfl, o, hk, hc, hd⟩ | ⟨rfl, hk⟩ | ⟨rfl, S, n, hk⟩
    · obtain ⟨its, _, pl, _⟩ := I.list hq
      refine ⟨pl.isList.typeIs, fun a e => ?_⟩
      cases e
      obtain ⟨o, n, e, c, hd, _⟩ := pl
      exact ⟨o, e, hd⟩
    · refine ⟨⟨o, I.kIn p o hk, hc⟩, fun a e => ?_⟩
      cases e
      exact ⟨o, I.kIn _ o hk, hd⟩
    · have z : ∃ o, s.heap.get? p = some o ∧ o.ExactDict := by
        rcases hk with ⟨kvs, hk⟩ | ⟨kvs, hk⟩
        · obtain ⟨_, _, _, _, o, _, _, e, ex, _⟩ := I.hok p _ hk
          exact ⟨o, e, ex⟩
        · obtain ⟨_, _, _, _, o, _, _, e, ex, _⟩ := I.hok p _ hk
          exact ⟨o, e, ex⟩
      obtain ⟨o, e, ex⟩ := z
      refine ⟨⟨o, e, ex.1⟩, fun a e2 => ?_⟩
      cases e2
      exact ⟨o, e, ex.2.1⟩
    · obtain ⟨o, _, _, _, e, ex, _⟩ := I.hok p _ hk
      refine ⟨⟨o, e, ex.1⟩, fun a e2 => ?_⟩
      cases e2
      exact ⟨o, e, ex.2.1⟩
  | _ => exact False.elim ty
def tBM (K : PySem.W.Frag) (T : String) (r : V → List V → Hp → VK → Prop) (to : TE) (t : TA) : TE := fun σ H Q => to σ H fun x H1 => tyV K T x H1 ∧ t σ H1 fun xs H2 => r x xs H2 Q
variable {o e : Expr} {es : List Expr} {to : TE} {t : TA} {name : Str} {apos cpos : Pos} {T id : String} {r : V → List V → Hp → VK → Prop}
theorem pe_bm (pa : PlainAttrs T) (slot : Slot T name id) (hty : typeOf (.builtin id) = pure (.type "method_descriptor")) (hm : MtR X id r) (ho : PE X o to) (ha : PA X (e :: es) t)
    (hbase : attributeBase o name X.env (eval o X.env) = eval o X.env := by rfl)
    (hfew : ((backTo cpos (starEach (e :: es) X.env)).all (fun x => !x.1) && (backToKw cpos (keywordEach [] X.env)).all (fun x => x.1.isSome)
      && decide ((e :: es).length + ([] : List Keyword).length + (if ([] : List Keyword).isEmpty then 0 else 1) < 30)) = true := by rfl)
    (hline : (apos.endLine == cpos.line) = true := by rfl) (hs : starEach (e :: es) X.env = (false, eval e X.env) :: starEach es X.env := by rfl) (hplain : (backTo cpos (starEach es X.env)).any (·.1) = false := by rfl) :
    PE X (.Call (.Attribute o name apos) (e :: es) [] cpos) (tBM X.K T r to t) := by
  intro pins s σ H Q I h
  refine wpAny_Call_method_late hbase hfew hline rfl (thn (ho pins s σ H _ I h) fun v s1 ⟨x, H1, I1, r1, ty, q1⟩ => ?_)
  obtain ⟨h1, h2⟩ := tyV_is I1 r1 ty
  refine ⟨T, id, pa, slot, hty, h1, h2, ?_⟩
  have hA := ha cpos pins s1 σ H1 _ I1 q1
  rw [hs] at hA ⊢
  refine Calls.callWith_builtin (by show (false || (backTo cpos (starEach es X.env)).any (·.1)) = false; rw [hplain] <;> rfl) (Calls.evalArgs_plain ?_)
  exact thn hA fun us s2 ⟨vs, H2, I2, r2, q2⟩ => hm pins s2 σ H2 x vs v us Q I2 r1 r2 q2
/- xs.append(e), list.index on a module's tuple .. are MtR facts of 06m -/
end
end L2
namespace L2
open PySem PySem.Spec PyProof.Rows
def MtM (X : Cx) (id : String) (r : V → List V → Hp → VK → Prop) : Prop :=
  ∀ (pins : List (Addr × Obj)) (s : Shared) (σ : St) (H : Hp) (x : V) (xs : List V) (v : Value) (us : List Value) (Q : VK), Inv X pins σ H s → RelV x v → Vals xs us → r x xs H Q →
    wpAny (model X.prog X.w) X.A (call (.builtin id) (v :: us)) (EP X pins σ Q) X.xe s
/-! ### lists of values -/
theorem Vals.one : ∀ {x : V} {us : List Value}, Vals [x] us → ∃ u, us = [u] ∧ RelV x u
  | _, _, .cons r .nil => ⟨_, rfl, r⟩
theorem Vals.rep {xs : List V} {us : List Value} (h : Vals xs us) : ∀ k : Nat, Vals (List.replicate k xs).flatten (List.replicate k us).flatten
  | 0 => .nil
  | k + 1 => by
    rw [List.replicate_succ, List.replicate_succ, List.flatten_cons, List.flatten_cons]
    exact Vals.append h (Vals.rep h k)
theorem foldl_rep (its : List Value) : ∀ (k : Nat) (acc : List Value),
    List.foldl (fun x1 x2 => x1 ++ x2) acc.toArray (List.replicate k its.toArray) = (acc ++ (List.replicate k its).flatten).toArray
  | 0, acc => by simp
  | k + 1, acc => by
    have e : acc.toArray ++ its.toArray = (acc ++ its).toArray := by simp
    have e2 : (acc ++ its) ++ (List.replicate k its).flatten = acc ++ (List.replicate (k + 1) its).flatten := by
      rw [List.replicate_succ, List.flatten_cons, List.append_assoc]
    rw [← e2, ← foldl_rep its k (acc ++ its), ← e, List.replicate_succ, List.foldl_cons]
section
variable {X : Cx} {pins : List (Addr × Obj)} {σ : St} {H : Hp} {s : Shared} {l b : Addr} {xs ys zs : List V}
/-! ### the two steps: a tracked list is rewritten, a new list is laid -/
theorem Inv.lset {its its' : List Value} {n : Nat} {f : Array Value → Array Value} {t' : Nat} (I : Inv X pins σ H s) (hH : H l = some (.lst xs))
    (e : s.heap.get? l = some { cls := .type "list", data := .seq its.toArray n }) (hf : f its.toArray = its'.toArray) (hv : Vals ys its') (hz : ys.length ≤ sizeLine) :
    Inv X pins σ (upd H l (.lst ys)) { s with heap := s.heap.update l (Obj.mapSeq f), toks := t' } := by
  have q := PySem.IsL.update e f
  rw [hf] at q
  refine I.write (x := l) (e := l) (by rw [hH]; exact trivial) (.inl rfl) (fun b' u hb hu => (Heap.get?_update_other s.heap (Obj.mapSeq f) (Ne.symm hb)).trans hu) ⟨_, q⟩ ?_
  exact ⟨hz, its', _, hv, q⟩
theorem Inv.lnew {its : List Value} {t' : Nat} (I : Inv X pins σ H s) (hv : Vals ys its) (hz : ys.length ≤ sizeLine) :
    Inv X pins σ (upd H s.heap.objs.size (.lst ys)) { s with heap := s.heap.push { cls := .type "list", data := .seq its.toArray }, toks := t' } :=
  I.laid (fun _ _ q => Heap.get?_push_of_some _ q) (Nat.le_refl _) ⟨hz, its, 0, hv, Heap.get?_push_size _ rfl⟩
theorem Inv.fresh (I : Inv X pins σ H s) : H s.heap.objs.size = none := I.hok.fresh (Nat.le_refl _)
theorem Inv.lstM (I : Inv X pins σ H s) (hH : H l = some (.lst xs)) : xs.length ≤ sizeLine ∧ ∃ (its : List Value) (n : Nat), Vals xs its ∧ xs.length = its.length ∧ s.heap.get? l = some { cls := .type "list", data := .seq its.toArray n } := by
  obtain ⟨z, its, n, r, e⟩ := I.hok l _ hH
  exact ⟨z, its, n, r, r.length, e⟩
theorem notLongL {n : Nat} (h : n ≤ sizeLine) : Builtin.List.listTooLong n = false := by
  unfold Builtin.List.listTooLong
  exact decide_eq_false (by omega)
end
section
variable {X : Cx}
/-! ### methods -/
def rAppend : V → List V → Hp → VK → Prop := fun x vs H Q => ∃ l xs y, x = .ref l ∧ vs = [y] ∧ H l = some (.lst xs) ∧ xs.length < sizeLine ∧ Q .non (upd H l (.lst (xs ++ [y])))
theorem mt_append : MtM X "list.append" rAppend := by
  intro pins s σ H x vs v us Q I rx rv h
  obtain ⟨l, xs, y, rfl, rfl, hH, hz, q⟩ := h
  cases rx
  obtain ⟨u, rfl, ru⟩ := rv.one
  obtain ⟨z, its, n, r, hl, e⟩ := I.lstM hH
  refine call_meets F.slot_list_append ⟨_, e, rfl⟩ F.entry_list_append (F.args_list_append_2 _ _) (PySem.list_append l its.toArray n u (by rw [List.size_toArray]; omega)) ⟨e, ?_⟩
  refine ⟨.non, _, I.lset (its' := its ++ [u]) hH e (by simp) (r.append (.cons ru .nil)) ?_, rfl, q⟩
  rw [List.length_append, List.length_singleton]
  omega
def rExtend : V → List V → Hp → VK → Prop := fun x vs H Q => ∃ l b xs zs, x = .ref l ∧ vs = [.ref b] ∧ H l = some (.lst xs) ∧ H b = some (.lst zs) ∧ xs.length + zs.length ≤ sizeLine ∧ Q .non (upd H l (.lst (xs ++ zs)))
theorem mt_extend : MtM X "list.extend" rExtend := by
  intro pins s σ H x vs v us Q I rx rv h
  obtain ⟨l, b, xs, zs, rfl, rfl, hH, hB, hz, q⟩ := h
  cases rx
  obtain ⟨u, rfl, ru⟩ := rv.one
  cases ru
  obtain ⟨z, its, n, r, hl, e⟩ := I.lstM hH
  obtain ⟨z2, its2, n2, r2, hl2, e2⟩ := I.lstM hB
  have hsz : its.toArray.size + its2.toArray.size ≤ sizeLine := by rw [List.size_toArray, List.size_toArray]; omega
  have hlong : ¬ (!its.toArray.isEmpty && Builtin.List.listTooLong (its.toArray.size + its2.toArray.size)) = true := by
    rw [notLongL hsz, Bool.and_false]
    exact Bool.false_ne_true
  refine call_meets F.slot_list_extend ⟨_, e, rfl⟩ F.entry_list_extend (F.args_list_extend_2 _ _)
    (AutoSeq1.list_extend_list_list_0 l its.toArray n b its2.toArray n2 hlong (by rw [List.size_toArray]; omega) (by omega)) ⟨e, e2, ?_⟩
  refine ⟨.non, _, I.lset (its' := its ++ its2) hH e (by simp) (r.append r2) ?_, rfl, q⟩
  rw [List.length_append]
  omega
/-! ### list + list, list += list, list * int -/
def rCat : R2 := fun x y H Q => ∃ l b xs zs, x = .ref l ∧ y = .ref b ∧ H l = some (.lst xs) ∧ H b = some (.lst zs) ∧ xs.length + zs.length ≤ sizeLine ∧ ∀ p, H p = none → Q (.ref p) (upd H p (.lst (xs ++ zs)))
theorem op_cat : OpR X (binaryOp .Add) rCat := by
  intro pins s σ H x y v u Q I rx ry h
  obtain ⟨l, b, xs, zs, rfl, rfl, hH, hB, hz, q⟩ := h
  cases rx
  cases ry
  obtain ⟨z, its, n, r, hl, e⟩ := I.lstM hH
  obtain ⟨z2, its2, n2, r2, hl2, e2⟩ := I.lstM hB
  refine PySem.P.add_list e e2 ?_ (by rw [List.size_toArray, List.size_toArray]; omega)
  have ea : its.toArray ++ its2.toArray = (its ++ its2).toArray := by simp
  rw [ea]
  exact ⟨.ref _, _, I.lnew (t' := s.toks) (r.append r2) (by rw [List.length_append]; omega), rfl, q _ I.fresh⟩
/-- a list times an int (a negative one is nothing) -/
def rRep : R2 := fun x y H Q => ∃ l k xs, x = .ref l ∧ y = .int k ∧ H l = some (.lst xs) ∧ -(2 ^ 63) ≤ k ∧ k < 2 ^ 63 ∧ xs.length * k.toNat ≤ sizeLine ∧
  ∀ p, H p = none → Q (.ref p) (upd H p (.lst (List.replicate k.toNat xs).flatten))
theorem len_rep {α : Type} (xs : List α) (k : Nat) : (List.replicate k xs).flatten.length = k * xs.length := by
  induction k with
  | zero => simp
  | succ k ih => rw [List.replicate_succ, List.flatten_cons, List.length_append, ih, Nat.succ_mul, Nat.add_comm]
theorem op_rep : OpR X (binaryOp .Mult) rRep := by
  intro pins s σ H x y v u Q I rx ry h
  obtain ⟨l, k, xs, rfl, rfl, hH, h1, h2, hz, q⟩ := h
  cases rx
  obtain ⟨t, rfl⟩ := ry
  obtain ⟨z, its, n, r, hl, e⟩ := I.lstM hH
  have hlen : its.toArray.size * k.toNat ≤ sizeLine := by rw [List.size_toArray, ← hl]; exact hz
  have hcap : ¬ its.toArray.size * k.toNat > (2 ^ 63 - 1) / 8 := by
    have : (sizeLine : Nat) ≤ (2 ^ 63 - 1) / 8 := by decide
    omega
  have hfit : ¬ (!Builtin.List.listFitsIndex k) = true := by
    rw [fitsIndex_both h1 h2]
    exact Bool.false_ne_true
  have hlong : ¬ Builtin.List.listTooLong (its.toArray.size * k.toNat) = true := by
    rw [notLongL hlen]
    exact Bool.false_ne_true
  have hnew : List.foldl (fun x1 x2 => x1 ++ x2) #[] (List.replicate (if its.toArray.isEmpty = true then 0 else k.toNat) its.toArray) = (List.replicate k.toNat its).flatten.toArray := by
    have f0 : ∀ m : Nat, List.foldl (fun x1 x2 => x1 ++ x2) #[] (List.replicate m its.toArray) = (List.replicate m its).flatten.toArray := fun m => by
      have := foldl_rep its m []
      rw [List.nil_append] at this
      exact this
    rw [f0]
    cases its with
    | nil => simp
    | cons a r' => rw [if_neg (by simp)]
  refine wpAny_binaryOp_repeat_ref (T := "list") (U := "int") (by decide) ⟨_, e, rfl⟩ (fun s' => typeIs_int s' k t) noFill_list_mul F.fills_int_mul F.slot_int_rmul repeat_list F.slot_int_index.lookup
    (call_meets F.slot_int_rmul (typeIs_int s k t) F.entry_int_rmul (F.args_int_rmul_2 _ _) (int___rmul___int_list k t l its.toArray n)
      ⟨e, rfl, ⟨_, e, rfl⟩, call_meets F.slot_list_mul ⟨_, e, rfl⟩ F.entry_list_mul (F.args_list_mul_2 _ _) (AutoListH.list___mul___list_int_3 l its.toArray n k t hfit hcap hlong) ⟨e, ?_⟩⟩)
  rw [hnew]
  exact ⟨.ref _, _, I.lnew (t' := s.toks) (r.rep k.toNat) (by rw [len_rep, Nat.mul_comm]; exact hz), rfl, q _ I.fresh⟩
/-! ### del xs[i] -/
end
/-! ### xs[a:b] = ys -/
section
variable {prog : Program} {w : World} {A : Around} {E : Value → Shared → Prop} {s : Shared}
set_option maxRecDepth 100000 in
end
section
variable {X : Cx}
end
end L2
namespace L2
open PySem PySem.Spec PyProof.Rows
theorem Vals.ints : ∀ {ns : List Int} {us : List Value}, Vals (ns.map V.int) us → IntsAre us ns
  | [], us, h => by
    rw [List.map_nil] at h
    cases h
    exact IntsAre.nil
  | n :: ns, us, h => by
    rw [List.map_cons] at h
    cases h with
    | cons r t =>
      obtain ⟨k, rfl⟩ := r
      exact IntsAre.cons n k (Vals.ints t)
theorem vals_of_ints : ∀ {us : List Value} {ns : List Int}, IntsAre us ns → Vals (ns.map V.int) us
  | _, _, .nil => by rw [List.map_nil]; exact Paired.nil
  | _, _, .cons n t h => by rw [List.map_cons]; exact Paired.cons (show RelV (V.int n) (Value.int n t) from ⟨t, rfl⟩) (vals_of_ints h)
theorem Vals.bls : ∀ {bs : List Bool} {us : List Value}, Vals (bs.map V.bl) us → us = bs.map Value.bool
  | [], us, h => by
    rw [List.map_nil] at h
    cases h
    rfl
  | b :: bs, us, h => by
    rw [List.map_cons] at h
    cases h with
    | cons r t =>
      cases r
      rw [Vals.bls t, List.map_cons]
theorem Vals.ref1 {a : Addr} {us : List Value} (r : Vals [V.ref a] us) : us = [Value.ref a] := by
  cases r with
  | cons r t =>
    cases t
    cases r
    rfl
/-! ### the library's walks over a list of ints, kept objects alone -/
section
variable {prog : Program} {w : World} {A : Around} {E : Value → Shared → Prop} {s : Shared} {l : Addr} {its : List Value} {ns : List Int} {Q : Value → Shared → Prop}
theorem min_raw (hh : A.handled = none) (hl : s.heap.IsList l its.toArray) (hi : IntsAre its ns) (hne : 0 < ns.length)
    (h : ∀ h' tk M t', (∀ b o, s.heap.get? b = some o → h'.get? b = some o) → M ∈ ns → (∀ a, a ∈ ns → M ≤ a) → Q (.int M t') { s with heap := h', toks := tk }) : wpAny (model prog w) A (call (.builtin "min") [.ref l]) Q E s := by
  obtain ⟨xs, e⟩ := hi.allInts.items
  have hn : numsOf (intItems xs).toList = ns := by rw [← e]; exact hi.numsOf
  rw [nums_intItems] at hn
  subst hn
  rw [e] at hl
  have hsz : 0 < xs.size := by simpa using hne
  refine PySem.min_intList hh hl hsz fun v h' tk hv hk => ?_
  obtain ⟨t, rfl⟩ := intItems_at hv
  obtain ⟨h1, h2⟩ := argBest_lt (numAt xs) (xs.size - 1)
  refine h h' tk _ t hk ?_ fun a ha => ?_
  · rw [numAt_eq]; exact PySem.getD_mem (by rw [List.length_map, Array.length_toList]; omega)
  · obtain ⟨j, hj, rfl⟩ := mem_getD ha
    rw [List.length_map, Array.length_toList] at hj
    rw [← numAt_eq]; exact h2 j (by omega)
end
/-! ### the calls, by values (CallR of 03t; MtR of 06l) -/
section
variable {X : Cx}
def rMin (K : PySem.W.Frag) : List V → Hp → VK → Prop := fun vs H Q => ∃ (a : Addr) (ns : List Int), vs = [V.ref a] ∧ SqL K H a (ns.map V.int) ∧ 0 < ns.length ∧ ∀ m, m ∈ ns → (∀ y, y ∈ ns → m ≤ y) → Q (.int m) H
theorem cr_min (hc : X.calm = true) : CallR X (.builtin "min") (rMin X.K) := by
  intro pins s σ H vs us Q I r h
  obtain ⟨a, ns, rfl, hs, hne, q⟩ := h
  obtain ⟨its, rv, hl, _⟩ := I.list hs
  rw [Vals.ref1 r]
  exact min_raw (I.ok.hd hc) hl.isList rv.ints hne fun h' tk m t' hk h1 h2 => ⟨.int _, H, I.kept hk, ⟨_, rfl⟩, q m h1 h2⟩
/-! sorted, sort (fewer than 64 items: the library's own bound) -/
def rSorted (K : PySem.W.Frag) : List V → Hp → VK → Prop := fun vs H Q => ∃ (a : Addr) (ns : List Int), vs = [V.ref a] ∧ SqL K H a (ns.map V.int) ∧ ns.length < 64 ∧
  ∀ (ns' : List Int) (p : Addr), ns'.Perm ns → ns'.Pairwise (· ≤ ·) → H p = none → Q (.ref p) (upd H p (.lst (ns'.map V.int)))
theorem small64 {n : Nat} (h : n < 64) : n ≤ sizeLine := by rw [sizeLine_eq]; omega
theorem cr_sorted : CallR X (.builtin "sorted") (rSorted X.K) := by
  intro pins s σ H vs us Q I r h
  obtain ⟨a, ns, rfl, hs, h64, q⟩ := h
  obtain ⟨its, rv, hl, _⟩ := I.list hs
  rw [Vals.ref1 r]
  have hi := rv.ints
  refine PyProof.Rows.sorted_ints hl.isList hi (by rw [hi.length]; exact h64) fun out ns' h1 h2 h3 => ?_
  obtain ⟨ep, he'⟩ := PyProof.Rows.sortedAll_at s.heap its out
  have hlen : (ns'.map V.int).length ≤ sizeLine := by rw [List.length_map, h2.length_eq]; exact small64 h64
  exact ⟨.ref _, upd H (s.heap.objs.size + 1) (.lst (ns'.map V.int)), I.laid (t' := s.toks) (fun _ _ => PyProof.Rows.sortedAll_old) (Nat.le_succ _) ⟨hlen, out.toList, ep, vals_of_ints h1, he'⟩, rfl, q ns' _ h2 h3 (I.hok.fresh (Nat.le_succ _))⟩
end
/-! ### list.index, flat items -/
section
variable {X : Cx}
end
/-! ### type(x) of an own instance; is, is not of a module's class -/
section
variable {X : Cx}
end
/-! ### any(xs), all(xs) of a list of bools -/
theorem iter_any {prog : Program} {w : World} {A : Around} {E : Value → Shared → Prop} {s : Shared} {l : Addr} {items : Array Value} {Q : Value → Shared → Prop} (hl : s.heap.IsList l items)
    (h : ∀ s₂ : Shared, s₂ = { s with heap := s.heap.push { cls := .type "list_iterator", data := .fields #[.ref l, .int 0 0] } } →
      (s₂.heap.IsListIter s.heap.objs.size l 0 ∧ s₂.heap.IsList l items) → l ≠ s.heap.objs.size → Q (.ref s.heap.objs.size) s₂) : wpAny (model prog w) A (pyIter (.ref l)) Q E s := by
  have hlt : l < s.heap.objs.size := by obtain ⟨_, e, _⟩ := hl; exact Heap.lt_size e
  exact wpAny_pyIter_list hl (h _ rfl ⟨⟨_, Heap.get?_push_size _ rfl, rfl, rfl⟩, hl.push _⟩ (Nat.ne_of_lt hlt))
theorem truth_bools {prog : Program} {w : World} {A : Around} {bs : List Bool} {its : List Value} (e : its = bs.map Value.bool) :
    TruthOf prog w A (fun i v => its.toArray[i]? = some v) (fun i => bs.getD i false) := fun i v s Q E hv hq => by
  have hv' : its[i]? = some v := by simpa using hv
  rw [e, List.getElem?_map] at hv'
  obtain ⟨b, hb, rfl⟩ := Option.map_eq_some_iff.mp hv'
  have hg : bs.getD i false = b := by rw [List.getD_eq_getElem?_getD, hb] <;> rfl
  have hq' : Q (bs.getD i false) s := hq
  rw [hg] at hq'
  exact wpAny_truthy_bool hq'
theorem all_range : ∀ bs : List Bool, (List.range bs.length).all (fun i => bs.getD i false) = bs.all id
  | [] => rfl
  | b :: bs => by
    rw [List.length_cons, List.range_succ_eq_map, List.all_cons, List.all_map, List.all_cons, ← all_range bs]
    all_goals rfl
section
variable {X : Cx}
def rAll (K : PySem.W.Frag) : List V → Hp → VK → Prop := fun vs H Q => ∃ (a : Addr) (bs : List Bool), vs = [V.ref a] ∧ SqL K H a (bs.map V.bl) ∧ Q (.bl (bs.all id)) H
theorem cr_all (hc : X.calm = true) : CallR X (.builtin "all") (rAll X.K) := by
  intro pins s σ H vs us Q I r h
  obtain ⟨a, bs, rfl, hs, q⟩ := h
  obtain ⟨its, rv, hl, _⟩ := I.list hs
  rw [Vals.ref1 r]
  have hb := rv.bls
  refine call_all_walk (iter_any hl.isList fun s₂ e2 st hne => ?_)
  subst e2
  refine ⟨_, _, _, _, _, _, _, rfl, Walks.list (A := X.A.in1) (I.ok.hd hc) _ a hne its.toArray, st, truth_bools hb, fun h' tk hk => ?_⟩
  refine ⟨.bl _, H, I.kept fun b o eo => hk b o (fun hmem => ?_) (Heap.get?_push_of_some _ eo), ?_, q⟩
  · rcases List.mem_cons.mp hmem with e1 | hmem
    · exact absurd (e1 ▸ Heap.lt_size eo) (Nat.lt_irrefl _)
    · cases hmem
  · show Value.bool _ = Value.bool _
    rw [← all_range, hb, List.size_toArray, List.length_map]
end
/-! ### == and != of data at any depth: none, bools, ints, texts, lists, tuples -/
mutual
inductive Dp (K : PySem.W.Frag) (H : Hp) : V → PyData → Prop
  | non : Dp K H .non .none
  | bl (b : Bool) : Dp K H (.bl b) (.bool b)
  | int (i : Int) : Dp K H (.int i) (.int i)
  | str (x : Str) : Dp K H (.str x) (.str x)
  | lst {a : Addr} {xs : List V} {ds : List PyData} : SqL K H a xs → DpAll K H xs ds → Dp K H (.ref a) (.list ds)
  | tup {a : Addr} {xs : List V} {ds : List PyData} : SqT K H a xs → DpAll K H xs ds → Dp K H (.ref a) (.tuple ds)
inductive DpAll (K : PySem.W.Frag) (H : Hp) : List V → List PyData → Prop
  | nil : DpAll K H [] []
  | cons {v : V} {vs : List V} {d : PyData} {ds : List PyData} : Dp K H v d → DpAll K H vs ds → DpAll K H (v :: vs) (d :: ds)
end
section
variable {X : Cx} {pins : List (Addr × Obj)} {σ : St} {H : Hp} {s : Shared}
mutual
theorem Dp.reads (I : Inv X pins σ H s) : ∀ (d : PyData) (v : V) (u : Value), Dp X.K H v d → RelV v u → ∃ as, Reads s.heap u d as
  | .none, _, _, h, r => by
    cases h
    cases r
    exact ⟨_, Reads.none⟩
  | .bool b, _, _, h, r => by
    cases h
    cases r
    exact ⟨_, Reads.bool b⟩
  | .int i, _, _, h, r => by
    cases h
    obtain ⟨t, rfl⟩ := r
    exact ⟨_, Reads.int i t⟩
  | .str x, _, _, h, r => by
    cases h
    obtain ⟨t, rfl⟩ := r
    exact ⟨_, Reads.str x t⟩
  | .list ds, _, _, h, r => by
    cases h with
    | lst hs ha =>
      cases r
      obtain ⟨its, rv, ⟨o, n, ho, hc, _, hd⟩, _⟩ := I.list hs
      obtain ⟨as, hr⟩ := Dp.readsAll I ds _ its ha rv
      exact ⟨_, Reads.list ho hc hd hr⟩
  | .tuple ds, _, _, h, r => by
    cases h with
    | tup hs ha =>
      cases r
      obtain ⟨its, rv, ⟨o, ho, hc, n, hd⟩, _⟩ := I.tuple hs
      obtain ⟨as, hr⟩ := Dp.readsAll I ds _ its ha rv
      exact ⟨_, Reads.tuple ho hc hd hr⟩
  | .dict _, _, _, h, _ => by cases h
theorem Dp.readsAll (I : Inv X pins σ H s) : ∀ (ds : List PyData) (vs : List V) (us : List Value), DpAll X.K H vs ds → Vals vs us → ∃ as, ReadsAll s.heap us ds as
  | [], _, _, h, r => by
    cases h
    cases r
    exact ⟨_, ReadsAll.nil⟩
  | d :: ds, _, _, h, r => by
    cases h with
    | cons h1 h2 =>
      cases r with
      | cons r1 r2 =>
        obtain ⟨as, q1⟩ := Dp.reads I d _ _ h1 r1
        obtain ⟨bs, q2⟩ := Dp.readsAll I ds _ _ h2 r2
        exact ⟨_, ReadsAll.cons q1 q2⟩
end
end
section
variable {X : Cx}
def rEqD (K : PySem.W.Frag) : R2 := fun x y H Q => ∃ d e, Dp K H x d ∧ Dp K H y e ∧ SeqAt.shaped d = true ∧ SeqAt.shaped e = true ∧ Q (.bl (PyData.eqv d e)) H
theorem op_eqD (hu : X.A.units + 64 < cLine) : OpR X (compareOp .Eq) (rEqD X.K) := by
  intro pins s σ H x y v u Q I rx ry h
  obtain ⟨d, e, hd, he, sd, se, q⟩ := h
  obtain ⟨as, r1⟩ := Dp.reads I d x v hd rx
  obtain ⟨bs, r2⟩ := Dp.reads I e y u he ry
  exact SeqAt.compareEq_shaped r1 r2 sd se hu ⟨.bl _, H, I, rfl, q⟩
end
end L2
namespace L2
open PySem PySem.Spec PyProof.Rows
abbrev CellAt (h : Heap) (c : Addr) (v : Option Value) : Prop := h.IsCell c v
def relS (scope sc : Scope) : Scope :=
  { scope with names := scope.names.map fun (n, k) => if (k == .free && sc.kind == .function && sc.names.lookup n == some .cell) then (n, .cell) else (n, k) }
def cloFrom (cells : List (Str × Addr)) : List (Str × NameKind) → List (Str × Addr) → List (Str × Addr)
  | [], acc => acc
  | (n, k) :: r, acc => if k == .free then cloFrom cells r ((n, (cells.lookup n).getD 0) :: acc) else cloFrom cells r acc
theorem closure_loop (env : Env) (f : Str × NameKind → List (Str × Addr) → Sem (ForInStep (List (Str × Addr))))
    (hf : ∀ n k c, f (n, k) c = if k == .free then (do let a ← cellOf env n; pure (.yield ((n, a) :: c))) else pure (.yield c)) :
    ∀ (names : List (Str × NameKind)) (acc : List (Str × Addr)), (∀ y ∈ names, y.2 = .free → ∃ c, env.cells.lookup y.1 = some c) → forIn names acc f = pure (cloFrom env.cells names acc)
  | [], acc, _ => by rw [List.forIn_nil]; rfl
  | (n, k) :: r, acc, h => by
    rw [List.forIn_cons, hf]
    have ih := fun acc => closure_loop env f hf r acc fun y hy => h y (List.mem_cons_of_mem _ hy)
    unfold cloFrom
    by_cases hk : (k == NameKind.free) = true
    · rw [if_pos hk, if_pos hk]
      obtain ⟨c, hc⟩ := h (n, k) List.mem_cons_self (by simpa using hk)
      have e : cellOf env n = pure c := by unfold cellOf; rw [hc]
      rw [e]
      have e2 : (env.cells.lookup n).getD 0 = c := by rw [hc]; rfl
      rw [e2]
      exact ih _
    · rw [if_neg hk, if_neg hk]
      exact ih _
theorem closure_ok {scope : Scope} {env : Env} (h : ∀ y ∈ scope.names, y.2 = .free → ∃ c, env.cells.lookup y.1 = some c) : closureFor scope env = pure (cloFrom env.cells scope.names []) := by
  simp only [closureFor]
  rw [closure_loop env _ (fun n k c => rfl) scope.names [] h]
  rfl
theorem mem_lookup {α : Type} : ∀ {l : List (Str × α)} {n : Str} {c : α}, (n, c) ∈ l → ∃ c', l.lookup n = some c'
  | (k, v) :: r, n, c, h => by
    rw [List.lookup_cons]
    cases hb : n == k with
    | true => exact ⟨_, rfl⟩
    | false =>
      rcases List.mem_cons.mp h with e | h
      · cases e; simp at hb
      · exact mem_lookup h
theorem cloFrom_mem {cells : List (Str × Addr)} : ∀ {names : List (Str × NameKind)} {acc : List (Str × Addr)} {n : Str} {c : Addr}, (n, c) ∈ cloFrom cells names acc → (n, c) ∈ acc ∨ ((n, .free) ∈ names ∧ c = (cells.lookup n).getD 0)
  | [], _, _, _, h => .inl h
  | (m, k) :: r, acc, n, c, h => by
    unfold cloFrom at h
    split at h
    · rename_i hk
      have hk : k = .free := by simpa using hk
      rcases cloFrom_mem h with h | ⟨h1, h2⟩
      · rcases List.mem_cons.mp h with e | h
        · cases e; exact .inr ⟨hk ▸ List.mem_cons_self, rfl⟩
        · exact .inl h
      · exact .inr ⟨List.mem_cons_of_mem _ h1, h2⟩
    · rcases cloFrom_mem h with h | ⟨h1, h2⟩
      · exact .inl h
      · exact .inr ⟨List.mem_cons_of_mem _ h1, h2⟩
theorem cloFrom_acc {cells : List (Str × Addr)} : ∀ {names : List (Str × NameKind)} {acc : List (Str × Addr)} {p : Str × Addr}, p ∈ acc → p ∈ cloFrom cells names acc
  | [], _, _, h => h
  | (m, k) :: r, acc, p, h => by
    unfold cloFrom
    split
    · exact cloFrom_acc (List.mem_cons_of_mem _ h)
    · exact cloFrom_acc h
theorem cloFrom_has {cells : List (Str × Addr)} : ∀ {names : List (Str × NameKind)} {acc : List (Str × Addr)} {n : Str}, (n, .free) ∈ names → (n, (cells.lookup n).getD 0) ∈ cloFrom cells names acc
  | (m, k) :: r, acc, n, h => by
    unfold cloFrom
    rcases List.mem_cons.mp h with e | h
    · cases e
      exact cloFrom_acc List.mem_cons_self
    · split
      · exact cloFrom_has h
      · exact cloFrom_has h
theorem cells_mem : ∀ {names : List (Str × NameKind)} {h : Heap} {acc : List (Str × Addr)} {x : Str} {c : Addr}, (x, c) ∈ cellsFrom h.objs.size names acc →
    (x, c) ∈ acc ∨ ((x, .cell) ∈ names ∧ h.objs.size ≤ c ∧ CellAt (pushCells h names) c none)
  | [], _, _, _, _, h => .inl h
  | (n, k) :: r, h, acc, x, c, hm => by
    unfold cellsFrom at hm
    unfold pushCells
    split at hm
    · rename_i hk
      rw [if_pos hk]
      have hk : k = .cell := by simpa using hk
      rw [← Heap.size_push h { cls := .type "cell", data := .cell none }] at hm
      rcases cells_mem hm with hm | ⟨h1, h2, h3⟩
      · rcases List.mem_cons.mp hm with e | hm
        · cases e
          exact .inr ⟨hk ▸ List.mem_cons_self, Nat.le_refl _, _, pushCells_keeps r _ _ _ (Heap.get?_push_size _ rfl), rfl⟩
        · exact .inl hm
      · rw [Heap.size_push] at h2
        exact .inr ⟨List.mem_cons_of_mem _ h1, Nat.le_of_succ_le h2, h3⟩
    · rename_i hk
      rw [if_neg hk]
      rcases cells_mem hm with hm | ⟨h1, h2, h3⟩
      · exact .inl hm
      · exact .inr ⟨List.mem_cons_of_mem _ h1, h2, h3⟩
theorem cells_acc : ∀ {names : List (Str × NameKind)} {n : Nat} {acc : List (Str × Addr)} {p : Str × Addr}, p ∈ acc → p ∈ cellsFrom n names acc
  | [], _, _, _, h => h
  | (m, k) :: r, n, acc, p, h => by
    unfold cellsFrom
    split
    · exact cells_acc (List.mem_cons_of_mem _ h)
    · exact cells_acc h
theorem cells_has : ∀ {names : List (Str × NameKind)} {n : Nat} {acc : List (Str × Addr)} {x : Str}, (x, .cell) ∈ names → ∃ c, (x, c) ∈ cellsFrom n names acc
  | (m, k) :: r, n, acc, x, h => by
    unfold cellsFrom
    rcases List.mem_cons.mp h with e | h
    · cases e
      exact ⟨n, cells_acc List.mem_cons_self⟩
    · split
      · exact cells_has h
      · exact cells_has h
theorem cells_inj : ∀ {names : List (Str × NameKind)} {h : Heap} {acc : List (Str × Addr)} {x y : Str} {c : Addr}, (∀ p ∈ acc, p.2 < h.objs.size) → (∀ x y c, (x, c) ∈ acc → (y, c) ∈ acc → x = y) →
    (x, c) ∈ cellsFrom h.objs.size names acc → (y, c) ∈ cellsFrom h.objs.size names acc → x = y
  | [], _, _, _, _, _, _, hi, h1, h2 => hi _ _ _ h1 h2
  | (n, k) :: r, h, acc, x, y, c, hl, hi, h1, h2 => by
    unfold cellsFrom at h1 h2
    split at h1
    · rename_i hk
      rw [if_pos hk] at h2
      rw [← Heap.size_push h { cls := .type "cell", data := .cell none }] at h1 h2
      refine cells_inj (h := h.push _) (fun p hp => ?_) (fun x y c a b => ?_) h1 h2
      · rw [Heap.size_push]
        rcases List.mem_cons.mp hp with rfl | hp
        · exact Nat.lt_succ_self _
        · exact Nat.lt_succ_of_lt (hl p hp)
      · rcases List.mem_cons.mp a with e | a <;> rcases List.mem_cons.mp b with e' | b
        · cases e; cases e'; rfl
        · cases e; exact absurd (hl _ b) (Nat.lt_irrefl _)
        · cases e'; exact absurd (hl _ a) (Nat.lt_irrefl _)
        · exact hi _ _ _ a b
    · rename_i hk
      rw [if_neg hk] at h2
      exact cells_inj hl hi h1 h2
theorem newEnv_comp {M : Model} {A : Around} {E : Value → Shared → Prop} {s : Shared} {scope : Scope} {globals : Addr} {closure : List (Str × Addr)} {qual : Str} {func : Option Addr} {code : Value} {around : Env} {builtins : Addr} {Q : Env → Shared → Prop}
    (h : Q (newEnv scope s.heap.objs.size globals (cellsFrom (s.heap.objs.size + 1) scope.names closure) qual func code (some around) builtins)
      { s with heap := pushCells (s.heap.push { cls := .type "dict", data := .dict #[] }) scope.names }) :
    wpAny M A (newFunctionEnv scope globals closure [] qual func code (some around) builtins) Q E s := by
  simp only [newFunctionEnv, Option.isSome_some, if_true]
  refine wpAny_bind (wpAny_alloc ?_)
  refine wpAny_bind (wpAny_layCells _ (fun n k c => rfl) scope.names closure _ _ ?_)
  rw [show ({ s with heap := s.heap.push { cls := .type "dict", data := .dict #[] } } : Shared).heap.objs.size = s.heap.objs.size + 1 from Heap.size_push ..]
  rw [List.forIn_nil]
  exact wpAny_bind (wpAny_pure (wpAny_pure h))
/-- every name of the written scope, in the scope that runs -/
theorem lookup_relS {sc : Scope} : ∀ {names : List (Str × NameKind)} {x : Str} {k : NameKind},
    (names.map fun (n, k) => if (k == NameKind.free && sc.kind == .function && sc.names.lookup n == some .cell) then (n, NameKind.cell) else (n, k)).lookup x = some k →
    ∃ k', names.lookup x = some k' ∧ (k = k' ∨ (k' = .free ∧ k = .cell))
  | [], _, _, h => by simp at h
  | (n, k₀) :: r, x, k, h => by
    have ih := @lookup_relS sc r x k
    have h' : List.lookup x ((if (k₀ == NameKind.free && sc.kind == .function && sc.names.lookup n == some .cell) = true then (n, NameKind.cell) else (n, k₀)) :: (r.map _)) = some k := h
    cases hx : x == n with
    | true =>
      simp only [List.lookup_cons, hx]
      by_cases hc : (k₀ == NameKind.free && sc.kind == .function && sc.names.lookup n == some .cell) = true
      · rw [if_pos hc] at h'
        simp only [List.lookup_cons, hx] at h'
        cases h'
        simp only [Bool.and_eq_true, beq_iff_eq] at hc
        exact ⟨k₀, rfl, .inr ⟨hc.1.1, rfl⟩⟩
      · rw [if_neg hc] at h'
        simp only [List.lookup_cons, hx] at h'
        cases h'
        exact ⟨_, rfl, .inl rfl⟩
    | false =>
      simp only [List.lookup_cons, hx]
      by_cases hc : (k₀ == NameKind.free && sc.kind == .function && sc.names.lookup n == some .cell) = true
      · rw [if_pos hc] at h'
        simp only [List.lookup_cons, hx] at h'
        exact ih h'
      · rw [if_neg hc] at h'
        simp only [List.lookup_cons, hx] at h'
        exact ih h'
/-- the names of a comprehension's block: its own (with their places in N), or captured -/
structure BlkOk (N : List Str) (sc scope : Scope) (own : List (Str × Nat)) : Prop where
  kind : scope.kind = .function
  uniq : ∀ y ∈ scope.names, scope.names.lookup y.1 = some y.2
  ix : ∀ p ∈ own, N[p.2]? = some p.1
  free : ∀ y ∈ scope.names, y.2 = .free → sc.names.lookup y.1 = some .cell ∨ sc.names.lookup y.1 = some .free
  own : ∀ y ∈ scope.names, y.2 = .local ∨ y.2 = .cell → y.1 ∈ own.map (·.1) ∨ y.1 ∉ N
/-- the slots of the block's own names forgotten -/
def wipe (σ : St) : List Nat → St
  | [] => σ
  | v :: vs => (wipe σ vs).set v none
theorem wipe_length (σ : St) : ∀ vs : List Nat, (wipe σ vs).length = σ.length
  | [] => rfl
  | v :: vs => by unfold wipe; rw [List.length_set, wipe_length σ vs]
theorem wipe_some {σ : St} {i : Nat} {x : V} : ∀ {vs : List Nat}, (wipe σ vs)[i]? = some (some x) → σ[i]? = some (some x) ∧ i ∉ vs
  | [], h => ⟨h, by simp⟩
  | v :: vs, h => by
    unfold wipe at h
    by_cases hi : v = i
    · subst hi
      by_cases hv : v < (wipe σ vs).length
      · rw [List.getElem?_set_self hv] at h; cases h
      · rw [List.getElem?_eq_none (by simpa using hv)] at h; cases h
    · rw [List.getElem?_set_ne hi] at h
      obtain ⟨h1, h2⟩ := wipe_some h
      exact ⟨h1, by simp only [List.mem_cons, not_or]; exact ⟨fun e => hi e.symm, h2⟩⟩
/-- the context of a block that starts at s, its iterator's objects at fp -/
abbrev Cx.blk (X : Cx) (s : Shared) (H : Hp) (scope : Scope) (cenv : Env) (fp : List Addr) : Cx := { X with s_0 := s, H_0 := H, env := cenv, outer := X.stack, ex := fp, fn := fun x => scope.names.lookup x == some .cell, pn := [], xe := fun _ _ => False }
section
variable {X : Cx} {pins : List (Addr × Obj)} {σ : St} {H : Hp} {s : Shared}
theorem block_start {scope : Scope} {own : List (Str × Nat)} {fp : List Addr} (I : Inv X pins σ H s) (ok : BlkOk X.N X.env.scope scope own) (hN : X.N.Nodup) (hfp : ∀ b ∈ fp, FpOk X pins H b ∧ b < s.heap.objs.size) :
    Inv (X.blk s H scope (compEnvC scope (cellsFrom (s.heap.objs.size + 1) scope.names (cloFrom X.env.cells scope.names [])) s.heap.objs.size X.env) fp) [] (wipe σ (own.map (·.2))) H { s with heap := pushCells (s.heap.push { cls := .type "dict", data := .dict #[] }) scope.names } := by
  have hfree : ∀ y ∈ scope.names, y.2 = .free → ∃ c, X.env.cells.lookup y.1 = some c := fun y hy e => by
    rcases ok.free y hy e with k | k
    · exact I.ok.has _ (.inl k)
    · exact I.ok.has _ (.inr k)
  generalize hcenv : compEnvC scope (cellsFrom (s.heap.objs.size + 1) scope.names (cloFrom X.env.cells scope.names [])) s.heap.objs.size X.env = cenv
  have kp : ∀ b o, s.heap.get? b = some o → (pushCells (s.heap.push { cls := .type "dict", data := .dict #[] }) scope.names).get? b = some o := fun b o e => pushCells_keeps _ _ _ _ (Heap.get?_push_of_some _ e)
  have hL : cenv.locals = s.heap.objs.size := by rw [← hcenv]; rfl
  have hcl : cenv.cells = cellsFrom (s.heap.objs.size + 1) scope.names (cloFrom X.env.cells scope.names []) := by rw [← hcenv]; rfl
  have hsc : cenv.scope = relS scope X.env.scope := by rw [← hcenv]; rfl
  rw [← Heap.size_push s.heap { cls := .type "dict", data := .dict #[] }] at hcl
  have cm : ∀ {y c}, (y, c) ∈ cloFrom X.env.cells scope.names [] → X.env.cells.lookup y = some c ∧ c < s.heap.objs.size := fun {y c} hm => by
    rcases cloFrom_mem hm with hm | ⟨h1, rfl⟩
    · cases hm
    · obtain ⟨c, hc⟩ := hfree _ h1 rfl
      rw [hc]
      obtain ⟨w, z⟩ := I.cell _ _ hc
      exact ⟨rfl, z.lt⟩
  have mem : ∀ {y c}, cenv.cells.lookup y = some c → (X.env.cells.lookup y = some c ∧ c < s.heap.objs.size) ∨ (s.heap.objs.size + 1 ≤ c ∧ CellAt (pushCells (s.heap.push { cls := .type "dict", data := .dict #[] }) scope.names) c none) := fun {y c} e => by
    rw [hcl] at e
    rcases cells_mem (PySem.mem_of_lookup e) with hm | ⟨_, h2, h3⟩
    · exact .inl (cm hm)
    · rw [Heap.size_push] at h2; exact .inr ⟨h2, h3⟩
  have look : ∀ {y}, scope.names.lookup y = some .free → ∃ c, cenv.cells.lookup y = some c ∧ X.env.cells.lookup y = some c := fun {y} hl => by
    have hy : (y, NameKind.free) ∈ scope.names := PySem.mem_of_lookup hl
    obtain ⟨c', e'⟩ := mem_lookup (cells_acc (names := scope.names) (n := (s.heap.push { cls := .type "dict", data := .dict #[] }).objs.size) (cloFrom_has (cells := X.env.cells) (acc := []) hy))
    rw [← hcl] at e'
    refine ⟨c', e', ?_⟩
    rw [hcl] at e'
    rcases cells_mem (PySem.mem_of_lookup e') with hm | ⟨h1, _, _⟩
    · exact (cm hm).1
    · have := ok.uniq _ h1
      rw [hl] at this; cases this
  have okB : (X.blk s H scope cenv fp).Ok := by
    refine ⟨I.ok.mod, by show cenv.scope.kind = _; rw [hsc]; exact ok.kind, by show cenv.globals = _; rw [← hcenv]; exact I.ok.glob, by show cenv.builtins = _; rw [← hcenv]; exact I.ok.blt, by show s.heap.objs.size ≤ cenv.locals; rw [hL]; exact Nat.le_refl _,
      fun y z c e1 e2 => ?_, fun y hy => ?_, fun y c z e => ?_, I.ok.hd, I.ok.frames, .inl rfl, fun b hb => ⟨?_, fun y c e z => ?_⟩, I.bs, Nat.le_trans I.ok.bsz I.sz, fun b o e hb => ?_, fun b hb z => ?_, I.stack, I.stkFree⟩
    · have e1 : cenv.cells.lookup y = some c := e1
      have e2 : cenv.cells.lookup z = some c := e2
      rw [hcl] at e1 e2
      refine cells_inj (fun p hp => ?_) (fun y z c a b => I.ok.inj y z c (cm a).1 (cm b).1) (PySem.mem_of_lookup e1) (PySem.mem_of_lookup e2)
      rw [Heap.size_push]
      exact Nat.lt_succ_of_lt (cm (y := p.1) (c := p.2) hp).2
    · show ∃ c, cenv.cells.lookup y = some c
      have key : ∀ k, cenv.kindOf y = some k → (k = .cell ∨ k = .free) → ∃ c, cenv.cells.lookup y = some c := fun k hk hk' => by
        unfold Env.kindOf at hk
        rw [hsc] at hk
        obtain ⟨k', e, r⟩ := lookup_relS hk
        have : k' = .cell ∨ k' = .free := by
          rcases r with rfl | ⟨rfl, _⟩
          · exact hk'
          · exact .inr rfl
        rcases this with rfl | rfl
        · obtain ⟨c, hm⟩ := cells_has (n := (s.heap.push { cls := .type "dict", data := .dict #[] }).objs.size) (acc := cloFrom X.env.cells scope.names []) (PySem.mem_of_lookup e)
          obtain ⟨c', e'⟩ := mem_lookup hm
          exact ⟨c', by rw [hcl]; exact e'⟩
        · obtain ⟨c, h1, _⟩ := look e
          exact ⟨c, h1⟩
      rcases hy with hy | hy
      · exact key _ hy (.inl rfl)
      · exact key _ hy (.inr rfl)
    · have z : (scope.names.lookup y == some NameKind.cell) = true := z
      have z : scope.names.lookup y = some .cell := by simpa using z
      have e : cenv.cells.lookup y = some c := e
      rw [hcl] at e
      rcases cells_mem (PySem.mem_of_lookup e) with hm | ⟨_, h2, _⟩
      · rcases cloFrom_mem hm with hm | ⟨h1, _⟩
        · cases hm
        · have q := ok.uniq _ h1
          rw [z] at q; cases q
      · rw [Heap.size_push] at h2
        exact Nat.le_of_succ_le h2
    · show b ≠ cenv.locals
      rw [hL]; exact Nat.ne_of_lt (hfp b hb).2
    · have e : cenv.cells.lookup y = some c := e
      rcases mem e with ⟨h1, _⟩ | ⟨h1, _⟩
      · exact (hfp b hb).1.2.2.2.2.1 y c h1 z
      · have h2 : s.heap.objs.size + 1 ≤ b := by rw [← z]; exact h1
        exact absurd (Nat.lt_of_lt_of_le (hfp b hb).2 (Nat.le_of_succ_le h2)) (Nat.lt_irrefl _)
    · rcases (hfp b hb).1.2.2.2.1 with z | z
      · exact I.ok.noex b o e z
      · exact absurd (Nat.lt_of_lt_of_le (Heap.lt_size e) (Nat.le_trans I.ok.bsz z)) (Nat.lt_irrefl _)
    · rcases List.mem_cons.mp (I.stkSub b z) with z | z
      · exact (hfp b hb).1.2.1 z
      · exact (hfp b hb).1.2.2.1 z
  refine ⟨okB, rfl, I.bare, Un.kept kp, ⟨fun _ => none, ?_, fun i y av e1 e2 e3 => ?_⟩, fun y c e => ?_, ?_, fun y c e => ?_, fun p hp => ?_, I.hok.kept kp, by rw [wipe_length]; exact I.len⟩
  · show Heap.Ns _ cenv.locals _
    rw [hL]
    exact Heap.Ns.keeps (Heap.Ns.new ..) fun b o e => pushCells_keeps _ _ _ _ e
  · obtain ⟨e2, hne⟩ := wipe_some e2
    have hfr : scope.names.lookup y = some .free ∧ (cenv.kindOf y = some .cell ∨ cenv.kindOf y = some .free) := by
      have key : ∀ k, cenv.scope.names.lookup y = some k → k = .local ∨ k = .cell ∨ k = .free → scope.names.lookup y = some .free ∧ (cenv.kindOf y = some .cell ∨ cenv.kindOf y = some .free) := fun k hk hk' => by
        have hk0 := hk
        rw [hsc] at hk
        obtain ⟨k', e, r⟩ := lookup_relS hk
        have no : ¬ (k' = .local ∨ k' = .cell) := fun hh => by
          rcases ok.own _ (PySem.mem_of_lookup e) hh with e' | e'
          · obtain ⟨p, hp, hpy⟩ := List.mem_map.mp e'
            have e3 := ok.ix p hp
            have : p.1 = y := hpy
            rw [this] at e3
            exact hne (List.mem_map.mpr ⟨p, hp, nodup_ix hN e3 e1⟩)
          · exact e' (List.mem_of_getElem? e1)
        rcases r with rfl | ⟨rfl, rfl⟩
        · rcases hk' with rfl | rfl | rfl
          · exact absurd (.inl rfl) no
          · exact absurd (.inr rfl) no
          · exact ⟨e, .inr hk0⟩
        · exact ⟨e, .inl hk0⟩
      have e3 : Vis cenv.scope y := e3
      rcases e3 with e3 | e3 | e3
      · exact key _ e3 (.inl rfl)
      · exact key _ e3 (.inr (.inl rfl))
      · exact key _ e3 (.inr (.inr rfl))
    obtain ⟨m, hn, hl⟩ := I.loc
    have hvis : Vis X.env.scope y := (ok.free _ (PySem.mem_of_lookup hfr.1) rfl).elim (fun k => .inr (.inl k)) (fun k => .inr (.inr k))
    obtain ⟨w, r, q⟩ := hl i y av e1 e2 hvis
    refine ⟨w, r, .inr ⟨hfr.2, ?_⟩⟩
    obtain ⟨c, h1, h2⟩ := look hfr.1
    rcases q with ⟨k, _⟩ | ⟨_, c', e', z⟩
    · have k : X.env.scope.names.lookup y = some .local := k
      rcases ok.free _ (PySem.mem_of_lookup hfr.1) rfl with k' | k' <;> rw [show X.env.scope.names.lookup y = _ from k'] at k <;> cases k
    · rw [h2] at e'; cases e'
      exact ⟨c, h1, z.keeps kp⟩
  · have e : cenv.cells.lookup y = some c := e
    rcases mem e with ⟨h1, _⟩ | ⟨_, z⟩
    · obtain ⟨w, z⟩ := I.cell y c h1
      exact ⟨w, z.keeps kp⟩
    · exact ⟨_, z⟩
  · show H cenv.locals = none
    rw [hL]; exact I.hok.fresh (Nat.le_refl _)
  · have e : cenv.cells.lookup y = some c := e
    rcases mem e with ⟨h1, _⟩ | ⟨h1, _⟩
    · exact I.freeC y c h1
    · exact I.hok.fresh (Nat.le_of_succ_le h1)
  · exact absurd (show p ∈ ([] : List (Addr × Obj)) ++ [] from hp) (by simp)
/-- an item appended to a tracked list -/
theorem app_ok {E : Value → Shared → Prop} {D : Addr} {xs : List V} {y : V} {v : Value} {Q : Value → Shared → Prop} (I : Inv X pins σ H s) (hD : H D = some (.lst xs)) (hz : xs.length < sizeLine) (r : RelV y v)
    (h : ∀ s', Inv X pins σ (upd H D (.lst (xs ++ [y]))) s' → Q .none s') : wpAny (model X.prog X.w) X.A (call (.builtin "list.append") [.ref D, v]) Q E s := by
  obtain ⟨hz', its, n, ri, e⟩ := I.hok D _ hD
  have hl := ri.length
  refine append_at (hsz := by rw [List.size_toArray]; omega) e fun h' sb ho' => ?_
  refine h { s with heap := h' } (I.write (t' := s.toks) (by rw [hD]; trivial) (.inl rfl) (fun b u hb q => (sb.2 b hb).trans q) ⟨_, ho'⟩ ⟨by rw [List.length_append]; exact hz, its ++ [v], n + 1, ri.append (.cons r .nil), ?_⟩)
  rw [ho']
  simp
/-- a clause's tests -/
def PTs (X : Cx) (ifs : List Expr) (t : TT) : Prop :=
  ∀ (pins : List (Addr × Obj)) (s : Shared) (σ : St) (H : Hp) (Q : Bool → Hp → Prop), Inv X pins σ H s → t σ H Q →
    wpAny (model X.prog X.w) X.A (forIn ifs true fun c r => if r = true then do let ok ← isTrue c X.env (eval c X.env); pure (ForInStep.yield ok) else pure (ForInStep.yield r)) (TP X pins σ Q) X.xe s
def tYes : TT := fun _ H Q => Q true H
theorem pts_nil : PTs X [] tYes := fun _ _ _ H _ I h => wpAny_tests_nil ⟨H, I, h⟩
theorem pts_one {c : Expr} {t : TT} (h : PT X c t) : PTs X [c] t := fun pins s σ H Q I hw => wpAny_tests_one (h pins s σ H Q I hw)
end
theorem thnF {α : Type} {t : Sem α} {Q Q' : α → Shared → Prop} {M : Model} {A : Around} {E : Value → Shared → Prop} {s : Shared} (h : wpAny M A t Q (fun _ _ => False) s) (hQ : ∀ a s, Q a s → Q' a s) : wpAny M A t Q' E s := wpAny_mono h hQ fun _ _ z => False.elim z
/-- the loop of a list comprehension's block, the target of any form (codeAny_compLoop_tests asks a target that no tuple goes to; statement and proof follow it, PyProof/CompMap.lean:41-61, with the step letOwnedTupleGo kept) -/
theorem compLoop_any {prog : Program} {w : World} {A : Around} {R : Result → Shared → Prop} {s : Shared} {elt target iter : Expr} {ifs : List Expr} {scope : Scope} {pos : Pos} {it acc : Value} {env : Env} (I : Nat → Shared → Prop)
    (turn : ∀ n s, I n s → wpAny (model prog w) A (pyNext it) (fun r s₁ => match r with
      | none => R (.ok .next) s₁
      | some v => wpAny (model prog w) A (letOwnedTupleGo target it v) (fun _ s₁' => wpAny (model prog w) A (assign target env v) (fun _ s₂ =>
          wpAny (model prog w) A (forIn ifs true fun c r => if r = true then do let ok ← isTrue c env (eval c env); pure (ForInStep.yield ok) else pure (ForInStep.yield r)) (fun ok s₃ =>
            if ok = true then wpAny (model prog w) A (eval elt env) (fun x s₄ =>
              wpAny (model prog w) A (call (.builtin "list.append") [acc, x]) (fun _ s₅ => ∃ m, m < n ∧ I m s₅) (notedBy (model prog w) A env fun e s' => R (.error e) s') s₄) (notedBy (model prog w) A env fun e s' => R (.error e) s') s₃
            else ∃ m, m < n ∧ I m s₃) (notedBy (model prog w) A env fun e s' => R (.error e) s') s₂) (notedBy (model prog w) A env fun e s' => R (.error e) s') s₁') (notedBy (model prog w) A env fun e s' => R (.error e) s') s₁) (notedBy (model prog w) A env fun e s' => R (.error e) s') s)
    (n : Nat) (h : I n s) :
    codeAny (model prog w) A (.compLoop (.ListComp elt [⟨target, iter, ifs, 0⟩] scope pos) 0 it acc env) R s := by
  refine codeAny_loop rfl I (fun n s hI => ?_) n h
  show wpAny _ A ((compTurn (.ListComp elt [⟨target, iter, ifs, 0⟩] scope pos) 0 it acc env).onRaise (fun x => do noteFrame x env; theTreesLotGoes x)) _ _ s
  refine wpAny_noted ?_
  rw [compTurn_list]
  refine wpAny_bind (wpAny_standAt (wpAny_bind (wpAny_mono (turn n s hI) (fun r s₁ h₁ => ?_) fun _ _ h' => h')))
  cases r with
  | none => exact wpAny_pure h₁
  | some v =>
    refine wpAny_bind (wpAny_mono h₁ (fun _ s₁' h₁' => ?_) fun _ _ h' => h')
    refine wpAny_bind (wpAny_mono h₁' (fun _ s₂ h₂ => wpAny_bind (wpAny_mono h₂ (fun ok s₃ h₃ => ?_) fun _ _ h' => h')) fun _ _ h' => h')
    cases ok with
    | false => exact wpAny_pure ⟨rfl, h₃⟩
    | true =>
      exact wpAny_bind (wpAny_bind (wpAny_mono h₃ (fun x s₄ h₄ => wpAny_bind (wpAny_mono h₄ (fun _ s₅ h₅ => wpAny_pure (wpAny_pure ⟨rfl, h₅⟩)) fun _ _ h' => h')) fun _ _ h' => h'))
section
variable {X : Cx}
/-- [elt for target in iter if ..]: D the new list; W by the turn and a measure, Nx what a turn is to reach -/
def tLc (wi : TI) (g : TG) (tt : TT) (te : TE) (vs : List Nat) : TE := fun σ H Q => wi σ H fun J H1 => ∀ D, H1 D = none → ∃ W : Nat → Nat → Hp → Prop, (∃ m, W 0 m (upd H1 D (.lst []))) ∧ ∀ i m H, W i m H →
  (J.stop i H ∧ Q (.ref D) H) ∨ (J.go i H ∧ ∃ Nx : Hp → Prop, (∀ H', Nx H' → ∃ m', m' < m ∧ W (i + 1) m' H') ∧ ∀ x H', J.yld i H x H' → g x (wipe σ vs) H' fun σ2 H2 => wipe σ2 vs = wipe σ vs ∧ tt σ2 H2 fun b H3 =>
    if b = true then te σ2 H3 fun y H4 => ∃ acc, H4 D = some (.lst acc) ∧ acc.length < sizeLine ∧ Nx (upd H4 D (.lst (acc ++ [y]))) else Nx H3)
theorem lc_core {pins : List (Addr × Obj)} {s : Shared} {σ : St} {H : Hp} {Q : VK} {elt tg iter : Expr} {ifs : List Expr} {scope : Scope} {own : List (Str × Nat)} {pos pos' : Pos} {wi : TI} {g : TG} {tt : TT} {te : TE} {use : Option (Value → Sem Unit)} {Qf : Value → Shared → Prop}
    (hc : X.calm = true) (hN : X.N.Nodup) (I : Inv X pins σ H s) (hi : PI X tg iter wi) (ok : BlkOk X.N X.env.scope scope own)
    (hg : ∀ (s : Shared) (H : Hp) (C : Addr) (cl : List (Str × Addr)) (fp : List Addr), PG (X.blk s H scope (compEnvC scope cl C X.env) fp) tg g) (ht : ∀ (s : Shared) (H : Hp) (C : Addr) (cl : List (Str × Addr)) (fp : List Addr), PTs (X.blk s H scope (compEnvC scope cl C X.env) fp) ifs tt)
    (he : ∀ (s : Shared) (H : Hp) (C : Addr) (cl : List (Str × Addr)) (fp : List Addr), PE (X.blk s H scope (compEnvC scope cl C X.env) fp) elt te) (hs : ∀ x, foldedSetIterable iter X.env x = pure x)
    (h : tLc wi g tt te (own.map (·.2)) σ H Q)
    (hRR : ∀ D C s' m H', Inv X pins σ H' s' → Q (.ref D) H' → s'.heap.Ns C m → FpOk X pins H' C → compPost (model X.prog X.w) X.A X.xe use Qf (.ref D) C (.ok .next) s') :
    wpAny (model X.prog X.w) X.A (comprehension (.ListComp elt [⟨tg, iter, ifs, 0⟩] scope pos) scope X.env pos' (newList []) false (eval iter X.env) use) Qf X.xe s := by
  have hfree : ∀ y ∈ scope.names, y.2 = .free → ∃ c, X.env.cells.lookup y.1 = some c := fun y hy e => by
    rcases ok.free y hy e with k | k
    · exact I.ok.has _ (.inl k)
    · exact I.ok.has _ (.inr k)
  refine wpAny_comprehension_free (use := use) rfl hs (closure_ok hfree) ok.kind (fun y hy e => by rw [ok.uniq y hy, e])
    (thn (hi pins s σ H _ I h) fun xv s1 hx => thn hx fun itv s2 h2 => ?_)
  obtain ⟨it, fp, tn, J, H2, e, I2, T, st2, f2, q⟩ := h2
  subst e
  refine wpAny_newObj_type (newEnv_comp ?_) (by show 0 ≤ sizeLine; decide)
  generalize hD : s2.heap.objs.size = D
  have hDn : H2 D = none := I2.hok.fresh (Nat.le_of_eq hD)
  obtain ⟨W, ⟨m0, w0⟩, turn⟩ := q D hDn
  -- the new list
  generalize hs3 : ({ s2 with heap := s2.heap.push { cls := .type "list", data := .seq ([] : List Value).toArray } } : Shared) = s3
  have I3 : Inv X pins σ (upd H2 D (.lst [])) s3 := by
    rw [← hs3]
    refine I2.laid (t' := s2.toks) (fun b o e => Heap.get?_push_of_some _ e) (Nat.le_of_eq hD) ⟨Nat.zero_le _, [], 0, .nil, ?_⟩
    rw [← hD]
    exact Heap.get?_push_size _ rfl
  have h3 : s3.heap = s2.heap.push { cls := .type "list", data := .seq ([] : List Value).toArray } := by rw [← hs3]
  have sz : ∀ b ∈ fp, b < s2.heap.objs.size := fun b hb => by
    obtain ⟨o, e, _⟩ := T.obj _ _ st2 b hb
    exact Heap.lt_size e
  have f3 : ∀ b ∈ fp, FpOk X pins (upd H2 D (.lst [])) b ∧ b < s3.heap.objs.size := fun b hb => by
    have hlt := sz b hb
    refine ⟨⟨?_, (f2 b hb).2⟩, by rw [h3, Heap.size_push]; exact Nat.lt_succ_of_lt hlt⟩
    rw [upd_ne (by rw [← hD]; exact Nat.ne_of_lt hlt)]
    exact (f2 b hb).1
  have st3 : tn 0 s3.heap := T.keep _ _ _ st2 fun b _ o e => by rw [h3]; exact Heap.get?_push_of_some _ e
  have I4 := block_start I3 ok hN f3
  have pg := hg s3 (upd H2 D (.lst [])) s3.heap.objs.size (cellsFrom (s3.heap.objs.size + 1) scope.names (cloFrom X.env.cells scope.names [])) fp
  have pt := ht s3 (upd H2 D (.lst [])) s3.heap.objs.size (cellsFrom (s3.heap.objs.size + 1) scope.names (cloFrom X.env.cells scope.names [])) fp
  have pe := he s3 (upd H2 D (.lst [])) s3.heap.objs.size (cellsFrom (s3.heap.objs.size + 1) scope.names (cloFrom X.env.cells scope.names [])) fp
  show codeAny _ _ (.compStart (.ListComp elt [⟨tg, iter, ifs, 0⟩] scope pos) 0 (.ref it) (.ref D) (compEnvC scope (cellsFrom (s3.heap.objs.size + 1) scope.names (cloFrom X.env.cells scope.names [])) s3.heap.objs.size X.env)) (compPost (model X.prog X.w) X.A X.xe use Qf (.ref D) s3.heap.objs.size) { s3 with heap := pushCells (s3.heap.push { cls := .type "dict", data := .dict #[] }) scope.names }
  have nfp : ∀ b ∈ fp, (upd H2 D (.lst [])) b = none := fun b hb => (f3 b hb).1.1
  generalize hce : compEnvC scope (cellsFrom (s3.heap.objs.size + 1) scope.names (cloFrom X.env.cells scope.names [])) s3.heap.objs.size X.env = ce at I4 pg pt pe ⊢
  have cL : ce.locals = s3.heap.objs.size := by subst hce; rfl
  generalize hH3 : upd H2 D (.lst []) = H3 at I3 I4 pg pt pe w0 nfp f3
  generalize hs4 : ({ s3 with heap := pushCells (s3.heap.push { cls := .type "dict", data := .dict #[] }) scope.names } : Shared) = s4 at I4 ⊢
  have st4 : tn 0 s4.heap := T.keep _ _ _ st3 fun b _ o e => by rw [← hs4]; exact pushCells_keeps _ _ _ _ (Heap.get?_push_of_some _ e)
  have stat : ∀ {σ' : St} {H' : Hp} {s' : Shared}, Inv (X.blk s3 H3 scope ce fp) [] σ' H' s' → (∀ b ∈ fp, H' b = none) → ∀ b ∈ fp, FpOk (X.blk s3 H3 scope ce fp) [] H' b := fun {σ' H' s'} I' hn b hb =>
    ⟨hn b hb, (I'.ok.exf b hb).1, I'.ok.exfs b hb, .inl hb, fun x c e => (I'.ok.exf b hb).2 x c e, fun p hp => absurd (show p ∈ ([] : List (Addr × Obj)) ++ [] from hp) (by simp)⟩
  have loop : codeAny (model X.prog X.w) X.A (.compLoop (.ListComp elt [⟨tg, iter, ifs, 0⟩] scope pos) 0 (.ref it) (.ref D) ce) (compPost (model X.prog X.w) X.A X.xe use Qf (.ref D) s3.heap.objs.size) s4 := by
    refine compLoop_any (fun n s' => ∃ i H', Inv (X.blk s3 H3 scope ce fp) [] (wipe σ (own.map (·.2))) H' s' ∧ tn i s'.heap ∧ (∀ b ∈ fp, H' b = none) ∧ W i n H') ?_ m0 ⟨0, H3, I4, st4, nfp, w0⟩
    rintro n s5 ⟨i, H5, I5, st5, n5, w5⟩
    rcases turn i n H5 w5 with ⟨stop, qq⟩ | ⟨go, Nx, hNx, step⟩
    · have td := T.done (X.blk s3 H3 scope ce fp) rfl rfl rfl hc i [] s5 _ H5 (fun _ _ => False) I5 (stat I5 n5) st5 stop
      refine thnF td fun r s6 ⟨hr, I6⟩ => ?_
      subst hr
      -- back in the def's context
      have I7 : Inv X pins σ H5 s6 := I3.call' (ch := fp) I6.os I6.base I6.hok I6.bare fun b hb => ⟨(f3 b hb).1.2.2.2.1, (f3 b hb).1.2.1, (f3 b hb).1.2.2.2.2.1, (f3 b hb).1.2.2.2.2.2⟩
      have nC : H5 s3.heap.objs.size = none := by
        have z : H5 ce.locals = none := I6.free
        rw [cL] at z
        exact z
      obtain ⟨m, hn, _⟩ := I6.loc
      have hn : s6.heap.Ns ce.locals m := hn
      rw [cL] at hn
      exact hRR D s3.heap.objs.size s6 m H5 I7 qq hn (I3.fpOk (Nat.le_refl _) nC)
    · have ti := T.item (X.blk s3 H3 scope ce fp) rfl rfl rfl hc i [] s5 _ H5 (fun _ _ => False) I5 (stat I5 n5) st5 go
      refine thnF ti fun r s6 ⟨u, hr, h6⟩ => ?_
      subst hr
      refine thnF h6 fun _ s7 ⟨x, H7, I7, r7, y7, st7, n7⟩ => ?_
      have I7' := I7.pinned (stat I7 n7) (T.obj _ _ st7)
      refine thnF (pg _ s7 _ H7 x u _ I7' r7 (step x H7 y7)) fun _ s8 ⟨σ8, H8, I8, hw8, q8⟩ => ?_
      refine thnF (pt _ s8 σ8 H8 _ I8 q8) fun b s9 ⟨H9, I9, q9⟩ => ?_
      -- the turn's end
      have fin : ∀ {s' : Shared} {H' : Hp}, Inv (X.blk s3 H3 scope ce fp) ([] ++ pinsAt fp s7.heap) σ8 H' s' → Nx H' → ∃ m, m < n ∧ ∃ i H', Inv (X.blk s3 H3 scope ce fp) [] (wipe σ (own.map (·.2))) H' s' ∧ tn i s'.heap ∧ (∀ b ∈ fp, H' b = none) ∧ W i m H' := fun {s' H'} I' nx => by
        obtain ⟨m', hm, w'⟩ := hNx H' nx
        have pin' : ∀ b ∈ fp, ∀ o, s7.heap.get? b = some o → s'.heap.get? b = some o ∧ H' b = none := fun b hb o e =>
          let z := I'.pin (b, o) (List.mem_append_right _ (List.mem_append_right _ (mem_pinsAt hb e)))
          ⟨z.1, z.2.1⟩
        have hl : (wipe σ (own.map (·.2))).length = σ8.length := by rw [← hw8, wipe_length]
        refine ⟨m', hm, i + 1, H', (I'.unpinned (pins := [])).weak hl (fun j v e => ?_), T.keep _ _ _ st7 fun b hb o e => (pin' b hb o e).1, fun b hb => ?_, w'⟩
        · rw [← hw8] at e
          exact (wipe_some e).1
        · obtain ⟨o, e, _⟩ := T.obj _ _ st7 b hb
          exact (pin' b hb o e).2
      cases b with
      | false =>
        simp only [Bool.false_eq_true, if_false] at q9 ⊢
        exact fin I9 q9
      | true =>
        simp only [if_true] at q9 ⊢
        refine thnF (pe _ s9 σ8 H9 _ I9 q9) fun z s10 ⟨yv, H10, I10, r10, acc, hD10, hz10, nx⟩ => ?_
        exact app_ok (X := X.blk s3 H3 scope ce fp) I10 hD10 hz10 r10 fun s11 I11 => fin I11 nx
  exact codeAny_compStart_list loop (T.self X.A 0 _ _ _ st4 loop)
/-- as a value -/
theorem pe_lc {elt tg iter : Expr} {ifs : List Expr} {scope : Scope} {own : List (Str × Nat)} {pos : Pos} {wi : TI} {g : TG} {tt : TT} {te : TE} (hc : X.calm = true) (hN : X.N.Nodup) (hi : PI X tg iter wi) (ok : BlkOk X.N X.env.scope scope own)
    (hg : ∀ (s : Shared) (H : Hp) (C : Addr) (cl : List (Str × Addr)) (fp : List Addr), PG (X.blk s H scope (compEnvC scope cl C X.env) fp) tg g) (ht : ∀ (s : Shared) (H : Hp) (C : Addr) (cl : List (Str × Addr)) (fp : List Addr), PTs (X.blk s H scope (compEnvC scope cl C X.env) fp) ifs tt)
    (he : ∀ (s : Shared) (H : Hp) (C : Addr) (cl : List (Str × Addr)) (fp : List Addr), PE (X.blk s H scope (compEnvC scope cl C X.env) fp) elt te) (hs : ∀ x, foldedSetIterable iter X.env x = pure x := by intro _; rfl) :
    PE X (.ListComp elt [⟨tg, iter, ifs, 0⟩] scope pos) (tLc wi g tt te (own.map (·.2))) := by
  intro pins s σ H Q I h
  rw [eval_ListComp]
  refine lc_core hc hN I hi ok hg ht he hs h fun D C s' m H' I' q hn f => ⟨m, hn, fun h'' sb => ?_⟩
  obtain ⟨f0, f1, f2, f3, f4, f5⟩ := f
  exact ⟨.ref D, H', I'.turned (t' := s'.toks) (fun b o hb e => (sb.2 b hb).trans e) f0 f1 f3 f4 f5, rfl, q⟩
/-- name = [..] on one line, the name a local -/
theorem ps_setLc {i : Nat} {y : Str} {py : Pos} {elt tg iter : Expr} {ifs : List Expr} {scope : Scope} {own : List (Str × Nat)} {pos spos : Pos} {wi : TI} {g : TG} {tt : TT} {te : TE} (hc : X.calm = true) (hN : X.N.Nodup) (hy : X.N[i]? = some y) (hyl : X.env.scope.names.lookup y = some .local)
    (hsw : swapsWith (.ListComp elt [⟨tg, iter, ifs, 0⟩] scope pos) (some (.Name y py)) spos.line X.env = pure true) (hi : PI X tg iter wi) (ok : BlkOk X.N X.env.scope scope own)
    (hg : ∀ (s : Shared) (H : Hp) (C : Addr) (cl : List (Str × Addr)) (fp : List Addr), PG (X.blk s H scope (compEnvC scope cl C X.env) fp) tg g) (ht : ∀ (s : Shared) (H : Hp) (C : Addr) (cl : List (Str × Addr)) (fp : List Addr), PTs (X.blk s H scope (compEnvC scope cl C X.env) fp) ifs tt)
    (he : ∀ (s : Shared) (H : Hp) (C : Addr) (cl : List (Str × Addr)) (fp : List Addr), PE (X.blk s H scope (compEnvC scope cl C X.env) fp) elt te) (hs : ∀ x, foldedSetIterable iter X.env x = pure x := by intro _; rfl) :
    PS X (.Assign [.Name y py] (.ListComp elt [⟨tg, iter, ifs, 0⟩] scope pos) spos) (tAsg (tLc wi g tt te (own.map (·.2))) (gName i)) := by
  intro pins s σ H D I h
  rw [exec_Assign_Name_used _ _ _ _ hsw]
  refine wpAny_bind (wpAny_standAt (wpAny_bind ?_))
  show wpAny _ X.A (do let _ ← comprehension (.ListComp elt [⟨tg, iter, ifs, 0⟩] scope pos) scope X.env (firstIterPos [⟨tg, iter, ifs, 0⟩] pos) (newList []) false (eval iter X.env) (some (assign (.Name y py) X.env))) _ _ s
  have h : tLc wi g tt te (own.map (·.2)) σ H (fun x H1 => gName i x σ H1 D.nx) := h
  refine wpAny_bind (thn (lc_core (Qf := fun _ s' => SP X pins D .next s') hc hN I hi ok hg ht he hs h fun L C s' m H' I' q hn f => ?_) fun _ s' hq => wpAny_pure (wpAny_pure hq))
  show wpAny _ _ (assign (.Name y py) X.env (.ref L)) _ _ _
  refine wpAny_assign_Name (store_ok2 (v := V.ref L) I' hN hy (.inl hyl) rfl (fun s2 I2 ⟨a, sb, ha⟩ => ?_) (.inr hyl))
  obtain ⟨f0, f1, f2, f3, f4, f5⟩ := f
  have haC : C ≠ a := by
    rcases ha with z | z
    · rw [z]; exact f1
    · exact fun e => f4 y a z e.symm
  refine ⟨m, hn.sameBut sb haC, fun h3 sb3 => ?_⟩
  exact ⟨_, H', I2.turned (t' := s2.toks) (fun b o hb e => (sb3.2 b hb).trans e) f0 f1 f3 f4 f5, q⟩
theorem sw_true {elt : Expr} {gs : List Comprehension} {scope : Scope} {pos py : Pos} {y : Str} {l : Nat} {env : Env} (hk : env.scope.kind = .function) (hy : env.scope.names.lookup y = some .local) (hl : (py.line == pos.line) = true)
    (ha : (scope.names.any fun (n, k) => n == y && (k == .local || k == .cell)) = false) : swapsWith (.ListComp elt gs scope pos) (some (.Name y py)) l env = pure true := by
  have ky : env.kindOf y = some .local := hy
  have hb : env.blockKind = .function := by unfold Env.blockKind; rw [hk]; rfl
  unfold swapsWith
  have e1 : Expr.pos (.ListComp elt gs scope pos) = pos := rfl
  have e2 : Expr.pos (.Name y py) = py := rfl
  simp only [hb, ky, ha, e1, e2, hl]
  rfl
end
/-! ### the forms one uses -/
/-- over a range: Pv by the turn and the heap (the new list at D within) -/
theorem lc_range {lo : Int} {n : Nat} {g : TG} {tt : TT} {te : TE} {vs : List Nat} {σ : St} {H1 : Hp} {D : Addr} {Qd : Hp → Prop} (Pv : Nat → Hp → Prop) (h0 : Pv 0 (upd H1 D (.lst [])))
    (hs : ∀ i H, i < n → Pv i H → g (.int (lo + i)) (wipe σ vs) H fun σ2 H2 => wipe σ2 vs = wipe σ vs ∧ tt σ2 H2 fun b H3 =>
      if b = true then te σ2 H3 fun y H4 => ∃ acc, H4 D = some (.lst acc) ∧ acc.length < sizeLine ∧ Pv (i + 1) (upd H4 D (.lst (acc ++ [y]))) else Pv (i + 1) H3) (hd : ∀ H, Pv n H → Qd H) :
    ∃ W : Nat → Nat → Hp → Prop, (∃ m, W 0 m (upd H1 D (.lst []))) ∧ ∀ i m H, W i m H →
      ((Itr lo n).stop i H ∧ Qd H) ∨ ((Itr lo n).go i H ∧ ∃ Nx : Hp → Prop, (∀ H', Nx H' → ∃ m', m' < m ∧ W (i + 1) m' H') ∧ ∀ x H', (Itr lo n).yld i H x H' → g x (wipe σ vs) H' fun σ2 H2 => wipe σ2 vs = wipe σ vs ∧ tt σ2 H2 fun b H3 =>
        if b = true then te σ2 H3 fun y H4 => ∃ acc, H4 D = some (.lst acc) ∧ acc.length < sizeLine ∧ Nx (upd H4 D (.lst (acc ++ [y]))) else Nx H3) := by
  refine ⟨fun i m H => m = n - i ∧ i ≤ n ∧ Pv i H, ⟨n, by simp, Nat.zero_le _, h0⟩, ?_⟩
  rintro i m H ⟨rfl, hi, p⟩
  by_cases hlt : i < n
  · refine .inr ⟨hlt, Pv (i + 1), fun H' p' => ⟨n - (i + 1), by omega, rfl, hlt, p'⟩, fun x H' y => ?_⟩
    obtain ⟨e, y⟩ := y
    subst e y
    exact hs i _ hlt p
  · have e : i = n := by omega
    subst e
    exact .inl ⟨Nat.le_refl _, hd H p⟩
/-- over a list that the block leaves as it is -/
theorem lc_list {K : PySem.W.Frag} {a : Addr} {xs : List V} {g : TG} {tt : TT} {te : TE} {vs : List Nat} {σ : St} {H1 : Hp} {D : Addr} {Qd : Hp → Prop} (Pv : Nat → Hp → Prop) (h0 : Pv 0 (upd H1 D (.lst []))) (hl : ∀ i H, i ≤ xs.length → Pv i H → SqL K H a xs)
    (hs : ∀ i x H, xs[i]? = some x → Pv i H → g x (wipe σ vs) H fun σ2 H2 => wipe σ2 vs = wipe σ vs ∧ tt σ2 H2 fun b H3 =>
      if b = true then te σ2 H3 fun y H4 => ∃ acc, H4 D = some (.lst acc) ∧ acc.length < sizeLine ∧ Pv (i + 1) (upd H4 D (.lst (acc ++ [y]))) else Pv (i + 1) H3) (hd : ∀ H, Pv xs.length H → Qd H) :
    ∃ W : Nat → Nat → Hp → Prop, (∃ m, W 0 m (upd H1 D (.lst []))) ∧ ∀ i m H, W i m H →
      ((Itl K a).stop i H ∧ Qd H) ∨ ((Itl K a).go i H ∧ ∃ Nx : Hp → Prop, (∀ H', Nx H' → ∃ m', m' < m ∧ W (i + 1) m' H') ∧ ∀ x H', (Itl K a).yld i H x H' → g x (wipe σ vs) H' fun σ2 H2 => wipe σ2 vs = wipe σ vs ∧ tt σ2 H2 fun b H3 =>
        if b = true then te σ2 H3 fun y H4 => ∃ acc, H4 D = some (.lst acc) ∧ acc.length < sizeLine ∧ Nx (upd H4 D (.lst (acc ++ [y]))) else Nx H3) := by
  refine ⟨fun i m H => m = xs.length - i ∧ i ≤ xs.length ∧ Pv i H, ⟨xs.length, by simp, Nat.zero_le _, h0⟩, ?_⟩
  rintro i m H ⟨rfl, hi, p⟩
  have q := hl i H hi p
  by_cases hlt : i < xs.length
  · refine .inr ⟨⟨xs, xs[i], q, by simp [hlt]⟩, Pv (i + 1), fun H' p' => ⟨xs.length - (i + 1), by omega, rfl, hlt, p'⟩, fun x H' y => ?_⟩
    obtain ⟨e, y⟩ := y
    subst e
    exact hs i x _ (y xs q) p
  · have e : i = xs.length := by omega
    subst e
    exact .inl ⟨⟨xs, q, Nat.le_refl _⟩, hd H p⟩
end L2
namespace L2
open PySem PySem.Spec PyProof.Rows
section
variable {prog : Program} {w : World} {A : Around} {R : Result → Shared → Prop} {s : Shared} {elt t0 i0 t1 i1 : Expr} {ifs0 ifs1 : List Expr} {scope : Scope} {pos : Pos} {it acc : Value} {env : Env}
end
section
variable {X : Cx}
end
end L2
namespace L2
open PySem PySem.Spec PyProof.Rows
/-! ### lists of pairs as tables -/
section
variable {κ : Type} [DecidableEq κ]
def valV (kvs : List (κ × V)) (k : κ) : Option V := (kvs.find? fun kv => decide (kv.1 = k)).map (·.2)
/-- in its place, or at the end -/
def putK (kvs : List (κ × V)) (k : κ) (v : V) : List (κ × V) :=
  if (kvs.any fun kv => decide (kv.1 = k)) = true then kvs.map (fun kv => if kv.1 = k then (kv.1, v) else kv) else kvs ++ [(k, v)]
theorem valV_pos {p : κ × V} {r : List (κ × V)} {k : κ} (e : p.1 = k) : valV (p :: r) k = some p.2 := by simp [valV, List.find?_cons, e]
theorem valV_neg {p : κ × V} {r : List (κ × V)} {k : κ} (e : ¬ p.1 = k) : valV (p :: r) k = valV r k := by simp [valV, List.find?_cons, e]
theorem valV_any (k : κ) : ∀ kvs : List (κ × V), (kvs.any fun kv => decide (kv.1 = k)) = (valV kvs k).isSome
  | [] => rfl
  | p :: r => by
    rw [List.any_cons]
    by_cases e : p.1 = k
    · simp only [valV_pos e, decide_eq_true e, Bool.true_or, Option.isSome_some]
    · rw [valV_neg e, decide_eq_false e, Bool.false_or]; exact valV_any k r
theorem valV_map (k j : κ) (y : V) : ∀ kvs : List (κ × V), valV (kvs.map fun kv => if kv.1 = k then (kv.1, y) else kv) j = (valV kvs j).map fun x => if j = k then y else x
  | [] => rfl
  | p :: r => by
    have ih := valV_map k j y r
    rw [List.map_cons]
    by_cases h : p.1 = k
    · rw [if_pos h]
      by_cases e : p.1 = j
      · rw [valV_pos (p := (p.1, y)) e, valV_pos e, Option.map_some, if_pos (e.symm.trans h)]
      · rw [valV_neg (p := (p.1, y)) e, valV_neg e, ih]
    · rw [if_neg h]
      by_cases e : p.1 = j
      · rw [valV_pos (p := p) e, valV_pos e, Option.map_some, if_neg (fun z => h (e.trans z))]
      · rw [valV_neg (p := p) e, valV_neg e, ih]
theorem valV_snoc (k j : κ) (y : V) : ∀ kvs : List (κ × V), valV kvs k = none → valV (kvs ++ [(k, y)]) j = if j = k then some y else valV kvs j
  | [], _ => by
    by_cases e : k = j
    · rw [if_pos e.symm]; exact valV_pos (p := (k, y)) e
    · rw [if_neg (fun z => e z.symm)]; exact valV_neg (p := (k, y)) e
  | p :: r, hn => by
    rw [List.cons_append]
    have hk : ¬ p.1 = k := fun z => by rw [valV_pos z] at hn; cases hn
    rw [valV_neg hk] at hn
    have ih := valV_snoc k j y r hn
    by_cases e : p.1 = j
    · rw [valV_pos e, valV_pos e, if_neg (fun z => hk (e.trans z))]
    · rw [valV_neg e, valV_neg e, ih]
theorem valV_put (kvs : List (κ × V)) (k j : κ) (y : V) : valV (putK kvs k y) j = if j = k then some y else valV kvs j := by
  unfold putK
  by_cases a : (kvs.any fun kv => decide (kv.1 = k)) = true
  · rw [if_pos a, valV_map]
    rw [valV_any] at a
    by_cases e : j = k
    · obtain ⟨x, hx⟩ := Option.isSome_iff_exists.mp a
      rw [if_pos e, e, hx, Option.map_some, if_pos rfl]
    · rw [if_neg e]
      cases valV kvs j with
      | none => rfl
      | some x => rw [Option.map_some, if_neg e]
  · rw [if_neg a]
    refine valV_snoc k j y kvs ?_
    rw [valV_any] at a
    cases q : valV kvs k with
    | none => rfl
    | some x => rw [q] at a; exact (a rfl).elim
theorem length_putK (kvs : List (κ × V)) (k : κ) (v : V) : (putK kvs k v).length ≤ kvs.length + 1 := by
  unfold putK
  split
  · rw [List.length_map]; omega
  · rw [List.length_append, List.length_cons, List.length_nil]; omega
theorem putK_new {kvs : List (κ × V)} {k : κ} (v : V) (h : valV kvs k = none) : putK kvs k v = kvs ++ [(k, v)] := by
  unfold putK
  rw [valV_any, h]
  exact if_neg (by decide)
theorem RelO.isSome_eq {o : Option V} {u : Option Value} (r : RelO o u) : o.isSome = u.isSome := by
  cases o with
  | none => cases u with
    | none => rfl
    | some _ => exact (show False from r).elim
  | some _ => cases u with
    | none => exact (show False from r).elim
    | some _ => rfl
/-- raw tables of the same keys -/
theorem KV.val {kvs : List (κ × V)} {vs : List (κ × Value)} (r : KV kvs vs) (k : κ) : RelO (valV kvs k) (valueAt vs k) := by
  unfold KV at r
  induction r with
  | nil => exact True.intro
  | @cons p q ps qs h t ih =>
    obtain ⟨h1, h2⟩ := h
    by_cases e : p.1 = k
    · have e' : q.1 = k := h1.symm.trans e
      have b : valueAt (q :: qs) k = some q.2 := by simp [valueAt, List.find?_cons, e']
      rw [valV_pos e, b]; exact h2
    · have e' : ¬ q.1 = k := fun z => e (h1.trans z)
      have b : valueAt (q :: qs) k = valueAt qs k := by simp [valueAt, List.find?_cons, e']
      rw [valV_neg e, b]; exact ih
theorem KV.any {kvs : List (κ × V)} {vs : List (κ × Value)} (r : KV kvs vs) (k : κ) : (kvs.any fun kv => decide (kv.1 = k)) = vs.any fun kv => decide (kv.1 = k) := by
  unfold KV at r
  induction r with
  | nil => rfl
  | cons h t ih => rw [List.any_cons, List.any_cons, ih, h.1]
theorem KV.repl {kvs : List (κ × V)} {vs : List (κ × Value)} (r : KV kvs vs) (k : κ) {y : V} {u : Value} (ry : RelV y u) :
    KV (kvs.map fun kv => if kv.1 = k then (kv.1, y) else kv) (vs.map fun kv => if kv.1 = k then (kv.1, u) else kv) := by
  unfold KV at r ⊢
  induction r with
  | nil => exact .nil
  | @cons p q ps qs h t ih =>
    rw [List.map_cons, List.map_cons]
    refine .cons ?_ ih
    obtain ⟨h1, h2⟩ := h
    by_cases e : p.1 = k
    · rw [if_pos e, if_pos (h1.symm.trans e)]; exact ⟨h1, ry⟩
    · rw [if_neg e, if_neg (fun z => e (h1.trans z))]; exact ⟨h1, h2⟩
theorem KV.put {kvs : List (κ × V)} {vs : List (κ × Value)} (r : KV kvs vs) (k : κ) {y : V} {u : Value} (ry : RelV y u) : KV (putK kvs k y) (stored vs k u) := by
  unfold putK stored
  rw [r.any k]
  by_cases e : (vs.any fun kv => decide (kv.1 = k)) = true
  · rw [if_pos e, if_pos e]; exact r.repl k ry
  · rw [if_neg e, if_neg e]; exact Paired.snoc r ⟨rfl, ry⟩
theorem KV.length {kvs : List (κ × V)} {vs : List (κ × Value)} (r : KV kvs vs) : kvs.length = vs.length := Paired.length r
end
/-! ### a tracked dict, its keys ints and texts or tuples of these -/
theorem kV_is {P : Program} {w : World} {k : Key} {u : Value} (r : RelV (kV k) u) : (mixKind P w).is k u = true := by
  cases k with
  | inl i => obtain ⟨t, e⟩ := (show ∃ t, u = Value.int i t from r); subst e; exact mixKind_int P w i t
  | inr x => obtain ⟨t, e⟩ := (show ∃ t, u = Value.str x t from r); subst e; exact mixKind_str P w x t
theorem items_are {P : Program} {w : World} : ∀ {ks : List Key} {us : List Value}, Vals (ks.map kV) us → ItemsAre (mixKind P w) ks us
  | [], _, r => by rw [List.map_nil] at r; cases r; exact .nil
  | k :: ks, _, r => by
    rw [List.map_cons] at r
    cases r with
    | cons h t => exact .cons (kV_is h) (items_are t)
/-- raw entries of a dict with tuple keys -/
abbrev KT (H : Hp) : List (List Key × V) → List (List Key × Addr × Value) → Prop := Paired fun p q => p.1 = q.1 ∧ H q.2.1 = some (.tup (p.1.map kV)) ∧ RelV p.2 q.2.2
theorem KT.val {H : Hp} {kvs : List (List Key × V)} {xs : List (List Key × Addr × Value)} (r : KT H kvs xs) (k : List Key) : RelO (valV kvs k) ((atKey xs k).map (·.2)) := by
  induction r with
  | nil => exact True.intro
  | @cons p q ps qs h t ih =>
    obtain ⟨h1, _, h2⟩ := h
    by_cases e : p.1 = k
    · have e' : q.1 = k := h1.symm.trans e
      have b : atKey (q :: qs) k = some q.2 := by simp [atKey, List.find?_cons, e']
      rw [valV_pos e, b]; exact h2
    · have e' : ¬ q.1 = k := fun z => e (h1.trans z)
      have b : atKey (q :: qs) k = atKey qs k := by simp [atKey, List.find?_cons, e']
      rw [valV_neg e, b]; exact ih
theorem KT.repl {H : Hp} {kvs : List (List Key × V)} {xs : List (List Key × Addr × Value)} (r : KT H kvs xs) (k : List Key) {y : V} {u : Value} (ry : RelV y u) :
    KT H (kvs.map fun kv => if kv.1 = k then (kv.1, y) else kv) (xs.map (putAt k u)) := by
  induction r with
  | nil => exact .nil
  | @cons p q ps qs h t ih =>
    rw [List.map_cons, List.map_cons]
    refine .cons ?_ ih
    obtain ⟨h1, h2, h3⟩ := h
    unfold putAt
    by_cases e : p.1 = k
    · rw [if_pos e, if_pos (h1.symm.trans e)]; exact ⟨h1, h2, ry⟩
    · rw [if_neg e, if_neg (fun z => e (h1.trans z))]; exact ⟨h1, h2, h3⟩
theorem KT.put {H : Hp} {kvs : List (List Key × V)} {xs : List (List Key × Addr × Value)} (r : KT H kvs xs) (k : List Key) {b : Addr} {y : V} {u : Value} (hb : H b = some (.tup (k.map kV))) (ry : RelV y u) :
    KT H (putK kvs k y) (storedH xs k b u) := by
  have e : (kvs.any fun kv => decide (kv.1 = k)) = (atKey xs k).isSome := by
    rw [valV_any, (r.val k).isSome_eq, Option.isSome_map]
  unfold putK storedH
  rw [e]
  by_cases q : (atKey xs k).isSome = true
  · rw [if_pos q, if_pos q]; exact r.repl k ry
  · rw [if_neg q, if_neg q]; exact Paired.snoc r ⟨rfl, hb, ry⟩
theorem KT.keeps {H H' : Hp} {kvs : List (List Key × V)} {xs : List (List Key × Addr × Value)} (r : KT H kvs xs) (ht : ∀ b ys, H b = some (.tup ys) → H' b = some (.tup ys)) : KT H' kvs xs :=
  Paired.mapP r fun _ _ z => ⟨z.1, ht _ _ z.2.1, z.2.2⟩
section
variable {P : Program} {w : World} {H : Hp} {h : Heap} {a : Addr}
theorem rd_of {u : HO} (ok : HOk P w H h) (e : Rd H a u) : ObjOk P w H h a u := e.ok ok
theorem dk_rd {kvs : List (Key × V)} (ok : HOk P w H h) (e : Rd H a (.dK kvs)) : kvs.length ≤ sizeLine ∧ (a == sysModules) = false ∧ ∃ vs, KV kvs vs ∧ h.DictOf (mixKind P w) a vs :=
  show ObjOk P w H h a (.dK kvs) from rd_of ok e
theorem dk_of {kvs : List (Key × V)} (ok : HOk P w H h) (e : H a = some (.dK kvs)) : kvs.length ≤ sizeLine ∧ (a == sysModules) = false ∧ ∃ vs, KV kvs vs ∧ h.DictOf (mixKind P w) a vs := dk_rd ok (.inl e)
/-- a tracked tuple of ints and texts is a key -/
theorem key_of {ks : List Key} (ok : HOk P w H h) (e : H a = some (.tup (ks.map kV))) : (tupleKind (mixKind P w)).is h ks a := by
  obtain ⟨_, its, r, o, h1, h2, n, h3⟩ := (show ObjOk P w H h a (.tup (ks.map kV)) from ok a _ e)
  exact ⟨o, its.toArray, n, h1, h2, h3, by simpa using items_are r⟩
theorem dt_rd {kvs : List (List Key × V)} (ok : HOk P w H h) (e : Rd H a (.dT kvs)) : kvs.length ≤ sizeLine ∧ (a == sysModules) = false ∧
    ∃ xs, KT H kvs xs ∧ h.DictOfH (tupleKind (mixKind P w)) a xs := by
  obtain ⟨z, y, xs, r, o, es, ep, h1, h2, h3, h4, h5⟩ := (show ObjOk P w H h a (.dT kvs) from rd_of ok e)
  refine ⟨z, y, xs, r, o, es, ep, h1, h2, h3, h4, fun x hx => ?_, h5⟩
  have all : ∀ {l : List (List Key × V)} {m : List (List Key × Addr × Value)}, KT H l m → ∀ x ∈ m, (tupleKind (mixKind P w)).is h x.1 x.2.1 := by
    intro l m q
    induction q with
    | nil => intro x hx; exact nomatch hx
    | @cons p q ps qs hq t ih =>
      intro x hx
      rcases List.mem_cons.mp hx with e | hx
      · subst e
        exact key_of ok (by rw [← hq.1]; exact hq.2.1)
      · exact ih x hx
  exact all r x hx
theorem dt_of {kvs : List (List Key × V)} (ok : HOk P w H h) (e : H a = some (.dT kvs)) : kvs.length ≤ sizeLine ∧ (a == sysModules) = false ∧
    ∃ xs, KT H kvs xs ∧ h.DictOfH (tupleKind (mixKind P w)) a xs := dt_rd ok (.inl e)
end
/-- what the dict at a holds at the key y -/
def DGet (H : Hp) (a : Addr) (y : V) (r : Option V) : Prop :=
  (∃ kvs k, Rd H a (.dK kvs) ∧ y = kV k ∧ r = valV kvs k) ∨ ∃ kvs k b, Rd H a (.dT kvs) ∧ y = .ref b ∧ H b = some (.tup (k.map kV)) ∧ r = valV kvs k
/-- the heap behind a[y] = v -/
def DPut (H : Hp) (a : Addr) (y v : V) (H' : Hp) : Prop :=
  (∃ kvs k, H a = some (.dK kvs) ∧ y = kV k ∧ kvs.length < sizeLine ∧ H' = upd H a (.dK (putK kvs k v))) ∨
  ∃ kvs k b, H a = some (.dT kvs) ∧ y = .ref b ∧ H b = some (.tup (k.map kV)) ∧ kvs.length < sizeLine ∧ H' = upd H a (.dT (putK kvs k v))
theorem DGet.k {H : Hp} {a : Addr} {kvs : List (Key × V)} {k : Key} (e : H a = some (.dK kvs)) : DGet H a (kV k) (valV kvs k) := .inl ⟨kvs, k, .inl e, rfl, rfl⟩
theorem DGet.t {H : Hp} {a b : Addr} {kvs : List (List Key × V)} {k : List Key} (e : H a = some (.dT kvs)) (eb : H b = some (.tup (k.map kV))) : DGet H a (.ref b) (valV kvs k) := .inr ⟨kvs, k, b, .inl e, rfl, eb, rfl⟩
theorem DPut.k {H : Hp} {a : Addr} {kvs : List (Key × V)} {k : Key} {v : V} (e : H a = some (.dK kvs)) (hl : kvs.length < sizeLine) : DPut H a (kV k) v (upd H a (.dK (putK kvs k v))) := .inl ⟨kvs, k, e, rfl, hl, rfl⟩
theorem DPut.t {H : Hp} {a b : Addr} {kvs : List (List Key × V)} {k : List Key} {v : V} (e : H a = some (.dT kvs)) (eb : H b = some (.tup (k.map kV))) (hl : kvs.length < sizeLine) :
    DPut H a (.ref b) v (upd H a (.dT (putK kvs k v))) := .inr ⟨kvs, k, b, e, rfl, eb, hl, rfl⟩
section
variable {X : Cx} {pins : List (Addr × Obj)} {σ : St} {H : Hp} {s : Shared} {a : Addr} {y v : V} {u r : Value} {o : Option V} {A : Around} {E : Value → Shared → Prop}
theorem Inv.big (I : Inv X pins σ H s) : sysModules < s.heap.objs.size := by
  have h : mainGlobals < s.heap.objs.size := (I.mod.glob.keeps I.bk).lt
  exact Nat.lt_trans (by decide) h
/-- d[y], there -/
theorem d_getItem {Q : Value → Shared → Prop} (hu : A.units + 1 < cLine) (I : Inv X pins σ H s) (g : DGet H a y (some v)) (ry : RelV y u) (h : ∀ w' s', Inv X pins σ H s' → RelV v w' → Q w' s') :
    wpAny (model X.prog X.w) A (getItem (.ref a) u) Q E s := by
  rcases g with ⟨kvs, k, e, ey, l⟩ | ⟨kvs, k, b, e, ey, eb, l⟩
  · subst ey
    obtain ⟨z, hd, vs, rel, dd⟩ := dk_rd I.hok e
    obtain ⟨w', hw, rw'⟩ := RelO.some_of (v := v) (o := valueAt vs k) (by rw [l]; exact rel.val k)
    exact wpAny_getItem_of (kV_is ry) dd.mapOf hw (h w' _ (I.tok _) rw')
  · subst ey
    cases (show u = Value.ref b from ry)
    obtain ⟨z, hd, xs, rel, dd⟩ := dt_rd I.hok e
    obtain ⟨w', hw, rw'⟩ := RelO.some_of (v := v) (o := (atKey xs k).map (·.2)) (by rw [l]; exact rel.val k)
    obtain ⟨p, hp, hp2⟩ := Option.map_eq_some_iff.mp hw
    refine wpAny_getItem_heap (tupleKind_room_in1 hu) (key_of I.hok eb) dd hp ?_
    rw [hp2]
    exact h w' _ (I.tok _) rw'
/-- y in d -/
theorem d_in {Q : Value → Shared → Prop} (hu : A.units + 1 < cLine) (I : Inv X pins σ H s) (g : DGet H a y o) (ry : RelV y u) (h : ∀ s', Inv X pins σ H s' → Q (.bool o.isSome) s') :
    wpAny (model X.prog X.w) A (compareOp .In u (.ref a)) Q E s := by
  rcases g with ⟨kvs, k, e, ey, l⟩ | ⟨kvs, k, b, e, ey, eb, l⟩
  · subst ey
    obtain ⟨z, hd, vs, rel, dd⟩ := dk_rd I.hok e
    refine wpAny_in_of (kV_is ry) hd dd.mapOf ?_
    rw [← (rel.val k).isSome_eq, ← l]
    exact h _ (I.tok _)
  · subst ey
    cases (show u = Value.ref b from ry)
    obtain ⟨z, hd, xs, rel, dd⟩ := dt_rd I.hok e
    refine wpAny_in_heap (tupleKind_room_in1 hu) (key_of I.hok eb) hd dd ?_
    have q := (rel.val k).isSome_eq
    rw [Option.isSome_map] at q
    rw [← q, ← l]
    exact h _ (I.tok _)
theorem d_notIn {Q : Value → Shared → Prop} (hu : A.units + 1 < cLine) (I : Inv X pins σ H s) (g : DGet H a y o) (ry : RelV y u) (h : ∀ s', Inv X pins σ H s' → Q (.bool (!o.isSome)) s') :
    wpAny (model X.prog X.w) A (compareOp .NotIn u (.ref a)) Q E s := by
  rcases g with ⟨kvs, k, e, ey, l⟩ | ⟨kvs, k, b, e, ey, eb, l⟩
  · subst ey
    obtain ⟨z, hd, vs, rel, dd⟩ := dk_rd I.hok e
    refine wpAny_notIn_of (kV_is ry) hd dd.mapOf ?_
    rw [← (rel.val k).isSome_eq, ← l]
    exact h _ (I.tok _)
  · subst ey
    cases (show u = Value.ref b from ry)
    obtain ⟨z, hd, xs, rel, dd⟩ := dt_rd I.hok e
    refine wpAny_notIn_heap (tupleKind_room_in1 hu) (key_of I.hok eb) hd dd ?_
    have q := (rel.val k).isSome_eq
    rw [Option.isSome_map] at q
    rw [← q, ← l]
    exact h _ (I.tok _)
/-- a dict's object is replaced -/
theorem d_write {h' : Heap} {t' : Nat} {ob : HO} (I : Inv X pins σ H s) (mu : Mut (H a)) (hs : Heap.SameBut a s.heap h') (he : ∃ q, h'.get? a = some q) (new : ObjOk X.prog X.w (upd H a ob) h' a ob) :
    Inv X pins σ (upd H a ob) { s with heap := h', toks := t' } :=
  I.write (x := a) (e := a) mu (.inl rfl) (fun b q hb z => (hs.2 b hb).trans z) he new
theorem dk_new {P : Program} {w : World} {H' : Hp} {h' : Heap} {kvs : List (Key × V)} {vs : List (Key × Value)} (z : kvs.length ≤ sizeLine) (hd : (a == sysModules) = false) (rel : KV kvs vs) (dd : h'.DictOf (mixKind P w) a vs) :
    ObjOk P w H' h' a (.dK kvs) := ⟨z, hd, vs, rel, dd⟩
/-- d[y] = v -/
theorem d_setItem {H' : Hp} {Q : Unit → Shared → Prop} (hu : A.units + 1 < cLine) (I : Inv X pins σ H s) (g : DPut H a y v H') (ry : RelV y u) (rv : RelV v r) (h : ∀ s', Inv X pins σ H' s' → Q () s') :
    wpAny (model X.prog X.w) A (setItem (.ref a) u r) Q E s := by
  rcases g with ⟨kvs, k, e, ey, l, eH⟩ | ⟨kvs, k, b, e, ey, eb, l, eH⟩
  · subst ey eH
    obtain ⟨z, hd, vs, rel, dd⟩ := dk_of I.hok e
    have hz : vs.length ≤ sizeLine := by rw [← rel.length]; exact z
    have hl : (putK kvs k v).length ≤ sizeLine := by have := length_putK kvs k v; omega
    refine wpAny_setItem_pairs (hsz := hz) (kV_is ry) dd fun h' dd' hs => h _ ?_
    have he : ∃ q, h'.get? a = some q := let ⟨q, _, _, hq, _⟩ := dd'; ⟨q, hq⟩
    exact d_write I (by rw [e]; exact True.intro) hs he (dk_new hl hd (rel.put k rv) dd')
  · subst ey eH
    cases (show u = Value.ref b from ry)
    obtain ⟨z, hd, xs, rel, dd⟩ := dt_of I.hok e
    have hz : xs.length ≤ sizeLine := by rw [← Paired.length rel]; exact z
    have hl : (putK kvs k v).length ≤ sizeLine := by have := length_putK kvs k v; omega
    refine wpAny_setItem_heap (hsz := hz) (tupleKind_room_in1 hu) (key_of I.hok eb) dd fun h' dd' hs => h _ ?_
    obtain ⟨q, es, ep, hq, h2, h3, h4, _, h5⟩ := dd'
    refine d_write I (by rw [e]; exact True.intro) hs ⟨q, hq⟩ ⟨hl, hd, _, (rel.put k eb rv).keeps fun c ys ec => ?_, q, es, ep, hq, h2, h3, h4, h5⟩
    rw [upd_ne (ne_of ec e (fun z => nomatch z))]
    exact ec
end
section
variable {X : Cx} {pins : List (Addr × Obj)} {σ : St} {H : Hp} {s : Shared} {a : Addr} {kvs : List (Key × V)} {k : Key} {u : Value} {A : Around} {E : Value → Shared → Prop}
end
/-! ### readings and rules -/
/-- the element of a subscription, not a slice -/
def NoSl (i : Expr) : Prop := ∀ ov iv, subscripted i false ov iv = operate [ov, iv] (getItem ov iv)
theorem subD_of {prog : Program} {w : World} {A : Around} {E : Value → Shared → Prop} {s : Shared} {env : Env} {value slice : Expr} {pos : Pos} {T id : String} {Q : Value → Shared → Prop}
    (hl : typeLookup (.type T) "__getitem__" = pure (some (.builtin id))) (hs : NoSl slice)
    (h : wpAny (model prog w) A (eval value env) (fun o s₁ => wpAny (model prog w) A (eval slice env) (fun i s₂ => s₂.TypeIs o T ∧ wpAny (model prog w) A (getItem o i) Q E s₂) E s₁) E s) :
    wpAny (model prog w) A (eval (.Subscript value slice pos) env) Q E s := by
  refine Subscript_ (wpAny_mono h (fun o s₁ h₁ => wpAny_mono h₁ (fun i s₂ h₂ => ?_) fun _ _ x => x) fun _ _ x => x)
  obtain ⟨hT, h₂⟩ := h₂
  unfold subscriptTail
  refine wpAny_bind ?_
  rw [getitemInPython_of_ne hT.not_modules]
  refine wpAny_bind (wpAny_specialOf hT hl ?_)
  have fin : wpAny (model prog w) A (subscripted slice false o i) (fun r s₃ => wpAny (model prog w) A (letTemporaryGo value o r >>= fun _ => pure r) Q E s₃) E s₂ := by
    rw [hs o i]
    exact wpAny_operating (wpAny_mono h₂ (fun r s₃ h₃ => wpAny_bind (wpAny_letTemporaryGo (wpAny_pure h₃))) fun _ _ x => x)
  first
    | exact wpAny_pure (wpAny_bind fin)
    | exact wpAny_bind (wpAny_pure (wpAny_bind fin))
    | exact wpAny_bind fin
theorem dict_typeIs {X : Cx} {pins : List (Addr × Obj)} {σ : St} {H : Hp} {s : Shared} {a : Addr} {y : V} {o : Option V} (I : Inv X pins σ H s) (g : DGet H a y o) : s.TypeIs (.ref a) "dict" := by
  rcases g with ⟨kvs, k, e, _, _⟩ | ⟨kvs, k, b, e, _, _, _⟩
  · obtain ⟨_, _, vs, _, dd⟩ := dk_rd I.hok e
    exact dd.typeIs
  · obtain ⟨_, _, xs, _, dd⟩ := dt_rd I.hok e
    exact dd.typeIs
/-- d[y] -/
def tDGet (td ty : TE) : TE := fun σ H Q => td σ H fun x H1 => ty σ H1 fun y H2 => ∃ a v, x = .ref a ∧ DGet H2 a y (some v) ∧ Q v H2
/-- y in d, y not in d -/
def tDIn (ty td : TE) : TE := fun σ H Q => ty σ H fun y H1 => td σ H1 fun x H2 => ∃ a o, x = .ref a ∧ DGet H2 a y o ∧ Q (.bl o.isSome) H2
def tDNotIn (ty td : TE) : TE := fun σ H Q => ty σ H fun y H1 => td σ H1 fun x H2 => ∃ a o, x = .ref a ∧ DGet H2 a y o ∧ Q (.bl (!o.isSome)) H2
/-- d[y] = v -/
def sDPut (td ty tv : TE) : TS := fun D σ H => tv σ H fun v H1 => td σ H1 fun x H2 => ty σ H2 fun y H3 => ∃ a H4, x = .ref a ∧ DPut H3 a y v H4 ∧ D.nx σ H4
section
variable {X : Cx} {o i e value : Expr} {pos pos' tpos : Pos} {td ty tv : TE}
theorem pe_dget (hu : X.A.units + 1 < cLine) (ho : PE X o td) (hi : PE X i ty) (hs : NoSl i) : PE X (.Subscript o i pos) (tDGet td ty) := by
  intro pins s σ H Q I h
  refine subD_of PySem.F.slot_dict_getitem.lookup hs (thn (ho pins s σ H _ I h) fun u s1 ⟨x, H1, I1, rx, q1⟩ => thn (hi pins s1 σ H1 _ I1 q1) fun iv s2 ⟨y, H2, I2, ry, a, v, ex, g, q2⟩ => ?_)
  subst ex
  obtain rfl : u = Value.ref a := rx
  exact ⟨dict_typeIs I2 g, d_getItem hu I2 g ry fun w' s3 I3 rw' => ⟨v, H2, I3, rw', q2⟩⟩
theorem pc_din (hu : X.A.units + 1 < cLine) (hi : PE X i ty) (ho : PE X o td) : PC X .In i o (tDIn ty td) := by
  intro pins s σ H Q I h
  refine thn (hi pins s σ H _ I h) fun iv s1 ⟨y, H1, I1, ry, q1⟩ => thn (ho pins s1 σ H1 _ I1 q1) fun u s2 ⟨x, H2, I2, rx, a, ov, ex, g, q2⟩ => ?_
  subst ex
  obtain rfl : u = Value.ref a := rx
  exact d_in hu I2 g ry fun s3 I3 => ⟨.bl ov.isSome, H2, I3, rfl, q2⟩
theorem pc_dnotin (hu : X.A.units + 1 < cLine) (hi : PE X i ty) (ho : PE X o td) : PC X .NotIn i o (tDNotIn ty td) := by
  intro pins s σ H Q I h
  refine thn (hi pins s σ H _ I h) fun iv s1 ⟨y, H1, I1, ry, q1⟩ => thn (ho pins s1 σ H1 _ I1 q1) fun u s2 ⟨x, H2, I2, rx, a, ov, ex, g, q2⟩ => ?_
  subst ex
  obtain rfl : u = Value.ref a := rx
  exact d_notIn hu I2 g ry fun s3 I3 => ⟨.bl (!ov.isSome), H2, I3, rfl, q2⟩
theorem ps_dput (hu : X.A.units + 1 < cLine) (ho : PE X o td) (hi : PE X i ty) (hv : PE X value tv) (hs : swapsWith value (some (.Subscript o i pos')) pos.line X.env = pure false) :
    PS X (.Assign [.Subscript o i pos'] value pos) (sDPut td ty tv) := by
  intro pins s σ H D I h
  refine wpAny_Assign_Subscript (thn (hv pins s σ H _ I h) fun r s1 ⟨v, H1, I1, rv, q1⟩ => thn (ho pins s1 σ H1 _ I1 q1) fun u s2 ⟨x, H2, I2, rx, q2⟩ => thn (hi pins s2 σ H2 _ I2 q2) fun iv s3 ⟨y, H3, I3, ry, a, H4, ex, g, q3⟩ => ?_) hs
  subst ex
  obtain rfl : u = Value.ref a := rx
  exact d_setItem hu I3 g ry rv fun s4 I4 => ⟨σ, H4, I4, q3⟩
end
/-! ### displays -/
theorem dk_empty {P : Program} {w : World} {H : Hp} (h : Heap) (hb : sysModules < h.objs.size) : ObjOk P w H (h.push { cls := .type "dict", data := .dict #[] }) h.objs.size (.dK []) :=
  ⟨Nat.zero_le _, beq_eq_false_iff_ne.mpr (Ne.symm (Nat.ne_of_lt hb)), [], .nil, Heap.DictOf.new h⟩
theorem dt_empty {P : Program} {w : World} {H : Hp} (h : Heap) (hb : sysModules < h.objs.size) : ObjOk P w H (h.push { cls := .type "dict", data := .dict #[] }) h.objs.size (.dT []) :=
  ⟨Nat.zero_le _, beq_eq_false_iff_ne.mpr (Ne.symm (Nat.ne_of_lt hb)), [], .nil, _, #[], 0, Heap.get?_push_size _ rfl, ⟨rfl, rfl, rfl⟩, rfl, rfl, List.nodup_nil⟩
/-- {}, to be a dict of the kind that is wanted -/
def tDNewK : TE := fun _ H Q => ∀ p, H p = none → Q (.ref p) (upd H p (.dK []))
def tDNewT : TE := fun _ H Q => ∀ p, H p = none → Q (.ref p) (upd H p (.dT []))
section
variable {X : Cx} {pos : Pos}
theorem pe_dnewK : PE X (.Dict [] [] pos) tDNewK := fun pins s σ H Q I h =>
  wpAny_Dict_empty ⟨.ref s.heap.objs.size, _, I.laid (a := s.heap.objs.size) (o := .dK []) (t' := s.toks) (fun _ _ q => Heap.get?_push_of_some _ q) (Nat.le_refl _) (dk_empty s.heap I.big), rfl, h _ (I.hok.fresh (Nat.le_refl _))⟩
theorem pe_dnewT : PE X (.Dict [] [] pos) tDNewT := fun pins s σ H Q I h =>
  wpAny_Dict_empty ⟨.ref s.heap.objs.size, _, I.laid (a := s.heap.objs.size) (o := .dT []) (t' := s.toks) (fun _ _ q => Heap.get?_push_of_some _ q) (Nat.le_refl _) (dt_empty s.heap I.big), rfl, h _ (I.hok.fresh (Nat.le_refl _))⟩
end
/-! ### methods -/
section
variable {X : Cx} {pins : List (Addr × Obj)} {σ : St} {H : Hp} {s : Shared} {a : Addr} {y d : V} {u r : Value} {o : Option V} {A : Around} {E : Value → Shared → Prop}
end
section
variable {X : Cx} {o e f : Expr} {apos cpos : Pos} {td ty tx : TE}
end
/-! ### dict(d): a copy -/
section
variable {X : Cx} {pins : List (Addr × Obj)} {σ : St} {H : Hp} {s : Shared} {a : Addr} {kvs : List (Key × V)} {A : Around} {E : Value → Shared → Prop}
end
section
variable {X : Cx} {pins : List (Addr × Obj)} {σ : St} {H : Hp} {s : Shared} {a : Addr} {y : V} {u : Value} {A : Around} {E : Value → Shared → Prop}
end
end L2
namespace L2
open PySem PySem.Spec PyProof.Rows
section
variable {prog : Program} {w : World} {A : Around} {E : Value → Shared → Prop}
end
section
variable {X : Cx}
end
end L2
namespace L2
open PySem PySem.Spec PyProof.Rows
section
variable {X : Cx} {pins : List (Addr × Obj)} {σ : St} {H : Hp} {s : Shared} {h' : Heap}
/-- .. and one new object is laid -/
theorem Inv.turnedNew {t' : Nat} {ch : List Addr} {T : Addr} {ob : HO} (I : Inv X pins σ H s) (k : ∀ b o, b ∉ ch → s.heap.get? b = some o → h'.get? b = some o) (hf : ∀ b ∈ ch, FpOk X pins H b) (hT : s.heap.objs.size ≤ T)
    (new : ObjOk X.prog X.w (upd H T ob) h' T ob) : Inv X pins σ (upd H T ob) { s with heap := h', toks := t' } := by
  have hn : H T = none := I.hok.fresh hT
  have nit : ∀ b u, H b = some u → b ∉ ch := fun b u e z => by
    have q := (hf b z).1
    rw [q] at e; cases e
  refine I.step (g' := s.gens) (d' := s.drawn) (ch := ch) (fun b hb => ⟨(hf b hb).2.2.2.1, (hf b hb).2.1, (hf b hb).2.2.2.2.1, (hf b hb).2.2.2.2.2⟩) (fun b o _ _ hc e _ => k b o hc e) (fun b o _ _ hc e _ => ⟨o.slots, k b o hc e⟩)
    (fun b o _ e n => ?_) (fun b o hc e => ⟨o, k b o hc e⟩) (fun b xs e => ?_) (fun b o u e => ?_) (fun b ps e => ⟨#[], ?_⟩) (fun m hm => ?_) (fun b u e => ?_) I.bare
  · rw [upd_ne (Nat.ne_of_lt (Nat.lt_of_lt_of_le (Heap.lt_size e) hT))]; exact n
  · rw [upd_ne (ne_of_none e hn)]; exact e
  · rw [upd_ne (ne_of_none e hn)]; exact e
  · rw [upd_ne (ne_of_none e hn), e]; simp
  · obtain ⟨o, es, ep, ho, r⟩ := hm
    exact ⟨o, es, ep, k _ o (fun z => (hf _ z).2.1 rfl) ho, r⟩
  · by_cases hb : b = T
    · subst hb
      rw [upd_same] at e
      cases e
      exact new
    · rw [upd_ne hb] at e
      refine (I.hok b u e).stay (fun c v hc q => k c v ?_ q) (fun c q => by rw [upd_ne (ne_of_none q hn)]; exact q) fun c xs q => by rw [upd_ne (ne_of_none q hn)]; exact q
      rcases hc with z | z
      · rw [z]; exact nit b u e
      · exact nit c _ z
/-! ### locking a thing while a statement runs -/
end
section
variable {X : Cx}
/-! ### one iterator just laid -/
end
/-! ### range with a step -/
section
variable {X : Cx} {tg : Expr}
end
/-! ### reversed(list) -/
section
variable {X : Cx} {tg : Expr}
end
/-! ### a str -/
/-! ### a dict's keys: any dict's entries -/
section
variable {prog : Program} {w : World} {A : Around} {E : Value → Shared → Prop} {s : Shared}
end
/-! ### a locked dict -/
theorem paired_get {α β : Type} {G : α → β → Prop} {l₁ : List α} {l₂ : List β} (h : Paired G l₁ l₂) : ∀ {i : Nat} {a : α}, l₁[i]? = some a → ∃ b, l₂[i]? = some b ∧ G a b := by
  induction h with
  | nil => intro i a e; simp at e
  | @cons a b l₁ l₂ r t ih =>
    intro i a' e
    cases i with
    | zero =>
      simp only [List.getElem?_cons_zero, Option.some.injEq] at e
      subst e
      exact ⟨b, rfl, r⟩
    | succ j =>
      simp only [List.getElem?_cons_succ] at e ⊢
      exact ih e
section
variable {X : Cx} {pins : List (Addr × Obj)} {σ : St} {H : Hp} {s : Shared} {d : Addr} {o : Obj}
end
section
variable {P : Program} {w : World} {K : PySem.W.Frag} {tg : Expr} {d : Addr} {o : Obj} {es : Array DictEntry} {ep : Nat}
end
/-! ### for k in d, d.keys(), d.values(), d.items() -/
section
variable {X : Cx} {tg e : Expr} {td : TE} {apos cpos : Pos}
end
/-! ### enumerate(list) -/
/-- the list at a as it stands at each turn, each item in a new pair -/
def Ite (K : PySem.W.Frag) (a : Addr) : It :=
  ⟨fun i H => ∃ (xs : List V) (x : V), SqL K H a xs ∧ xs[i]? = some x, fun i H v H' => ∃ T x, v = .ref T ∧ H T = none ∧ H' = upd H T (.tup [.int (i : Nat), x]) ∧ ∀ xs, SqL K H a xs → xs[i]? = some x, fun i H => ∃ xs : List V, SqL K H a xs ∧ xs.length ≤ i⟩
theorem turn_enum {P : Program} {w : World} {K : PySem.W.Frag} {elts : List Expr} {kk : Nat} {tpos : Pos} (a e it : Addr) :
    Turn P w K (.Tuple elts kk tpos) (Ite K a) [e, it] e (fun i h => (∃ old, IsEnum h e it ((i : Nat) : Int) old) ∧ h.IsListIter it a i ∧ e ≠ it) where
  mem := by simp
  obj := fun i h st b hb => by
    obtain ⟨⟨old, he⟩, ⟨o, ho, hc, hd⟩, _⟩ := st
    have e' : b = e ∨ b = it := by simpa using hb
    rcases e' with z | z
    · rw [z]; exact ⟨_, he, fun v q => nomatch q⟩
    · rw [z]; exact ⟨o, ho, fun v q => by rw [hd] at q; cases q⟩
  keep := fun i h h' st k => let ⟨⟨old, he⟩, hi, hne⟩ := st; ⟨⟨old, k e (by simp) _ he⟩, hi.at fun o q => k it (by simp) o q, hne⟩
  item := by
    intro X hP hw hK hc i pins s σ H E I hf st hg
    subst hP hw hK
    obtain ⟨⟨old, he⟩, hit, hne⟩ := st
    obtain ⟨xs, x, hq, hx⟩ := hg
    obtain ⟨its, rv, p, hz⟩ := I.list hq
    obtain ⟨u, hu, ru⟩ := rv.get hx
    have hel : e < s.heap.objs.size := Heap.lt_size he
    have hil : it < s.heap.objs.size := by obtain ⟨_, q, _⟩ := hit; exact Heap.lt_size q
    refine wpAny_pyNext_enum_item he hit p.isList (x := u) (by simpa using hu) hne fun h' ho hit' hT hsz hk => ?_
    refine ⟨_, rfl, wpAny_letOwnedTupleGo_enum (s := { s with heap := h', toks := s.toks + 1 }) ho fun h'' he' sb => ?_⟩
    have hT2 : h''.get? s.heap.objs.size = some { cls := .type "tuple", data := .seq #[.int i s.toks, u] } := (sb.2 _ (Nat.ne_of_gt hel)).trans hT
    have new : ObjOk X.prog X.w (upd H s.heap.objs.size (.tup [.int (i : Nat), x])) h'' s.heap.objs.size (.tup [.int (i : Nat), x]) :=
      ⟨by show 2 ≤ sizeLine; decide, [.int i s.toks, u], .cons ⟨_, rfl⟩ (.cons ru .nil), ⟨_, hT2, rfl, _, rfl⟩⟩
    have I1 : Inv X pins σ (upd H s.heap.objs.size (.tup [.int (i : Nat), x])) { s with heap := h'', toks := s.toks + 1 } :=
      I.turnedNew (ch := [e, it]) (fun b ob hb q => (sb.2 b (fun z => hb (by simp [z]))).trans (hk b ob (fun z => hb (by simp [z])) (fun z => hb (by simp [z])) q)) hf (Nat.le_refl _) new
    refine ⟨.ref s.heap.objs.size, _, I1, rfl, ⟨_, x, rfl, I.hok.fresh (Nat.le_refl _), rfl, fun ys hy => by rw [I.list_inj hy hq]; exact hx⟩, ⟨⟨u, ?_⟩, hit'.at fun o q => (sb.2 it (Ne.symm hne)).trans q, hne⟩, fun b hb => ?_⟩
    · have e1 : ((i + 1 : Nat) : Int) = (i : Int) + 1 := by omega
      rw [e1]; exact he'
    · have hb' : b < s.heap.objs.size := by
        have e' : b = e ∨ b = it := by simpa using hb
        rcases e' with z | z
        · rw [z]; exact hel
        · rw [z]; exact hil
      rw [upd_ne (Nat.ne_of_lt hb')]
      exact (hf b hb).1
  done := by
    intro X hP hw hK hc i pins s σ H E I hf st hg
    subst hP hw hK
    obtain ⟨⟨old, he⟩, hit, hne⟩ := st
    obtain ⟨xs, hq, hx⟩ := hg
    obtain ⟨its, rv, p, hz⟩ := I.list hq
    obtain ⟨f0, f1, f2, f3, f4, f5⟩ := hf it (by simp)
    have hl := rv.length
    exact wpAny_pyNext_enum_end (I.ok.hd hc) he hit p.isList (by simp; omega) fun h' eb => ⟨rfl, I.turned (t' := s.toks) (fun b o hb q => eb b o hb q) f0 f1 f3 f4 f5⟩
  self := fun A i s Q E st h => let ⟨⟨_, he⟩, _⟩ := st; wpAny_pyIter_enum he h
def iEnum (K : PySem.W.Frag) (ta : TA) : TI := fun σ H R => ta σ H fun vs H1 => ∃ a xs, vs = [.ref a] ∧ SqL K H1 a xs ∧ R (Ite K a) H1
theorem pi_enum {X : Cx} {e : Expr} {ta : TA} {p pos tpos : Pos} {elts : List Expr} {kk : Nat} (hg : Gl X "enumerate") (hm : X.mg "enumerate" = none) (ha : PA X [e] ta) (hs : starEach [e] X.env = [(false, eval e X.env)] := by rfl) :
    PI X (.Tuple elts kk tpos) (.Call (.Name "enumerate" p) [e] [] pos) (iEnum X.K ta) := by
  intro pins s σ H R I h
  refine Call_ (ld_blt I hg hm boot_enumerate (PyProof.Rows.callWith_type1 (thn (ha pos pins s σ H _ I h) fun us s1 ⟨vs, H1, I1, r1, q1⟩ => ?_) hs rfl))
  obtain ⟨a, xs, ex, hq, q⟩ := q1
  subst ex
  cases r1 with
  | cons r rr =>
    cases rr
    cases r
    obtain ⟨its, rv, p', hz⟩ := I1.list hq
    refine call_enumerate_list p'.isList fun h' he hit hsz hk => wpAny_pyIter_enum he ?_
    have I2 : Inv X pins σ H1 { s1 with heap := h' } := I1.kept (t' := s1.toks) hk
    refine ⟨s1.heap.objs.size + 1, [s1.heap.objs.size + 1, s1.heap.objs.size], _, _, H1, rfl, I2, turn_enum a (s1.heap.objs.size + 1) s1.heap.objs.size, ⟨⟨.none, he⟩, hit, Nat.succ_ne_self _⟩, fun b hb => ?_, q⟩
    have e' : b = s1.heap.objs.size + 1 ∨ b = s1.heap.objs.size := by simpa using hb
    have hle : s1.heap.objs.size ≤ b := by
      rcases e' with z | z
      · rw [z]; exact Nat.le_add_right _ _
      · rw [z]; exact Nat.le_refl _
    exact I1.fpOk hle (I1.hok.fresh hle)
/-! ### zip(list, list) -/
end L2
section 
namespace Bits
open PySem PyProof.Rows
end Bits
end 
section 
namespace TL
open PySem PySem.Builtin PySem.Builtin.Str PySem.StrLaws
/-! ### the list functions -/
/-! ### the model's split and partition are these -/
/-! ### computing spl and par -/
/-! ### digits -/
/-! ### words: x.split() -/
end TL
end 
namespace L2
open PySem PySem.Spec PyProof.Rows
section
variable {X : Cx} {pins : List (Addr × Obj)} {σ : St} {H : Hp} {s : Shared} {Q : VK}
end
section
variable {X : Cx}
/-! ### of a text alone -/
/-! ### of a text and a text -/
end
section
variable {X : Cx} {o e : Expr} {to te : TE}
end
end L2
namespace L2
open PySem PySem.Spec PyProof.Rows
section
variable {X : Cx}
end
/-! ### slices of a text -/
end L2
namespace Att
open PySem PySem.W PySem.Calls PyProof.Rows
/-! ### the script -/
/-! ### the attachment: holds_open's last premise (the goal 'hc' behind k_head) from a wpAny of the law's body -/
/-! ### rules over ANY heap (no ledger) from facts about the written part K: the library's own take a ledger (News) for what they write -/
section
variable {prog : Program} {w : World} {A : Around} {E : Value → Shared → Prop} {s : Shared} {K : Frag}
/-! the whole heap as the ledger: makes every rule that writes through a ledger a rule over any heap -/
end
end Att
namespace L2
open PySem PySem.Spec PyProof.Rows
end L2
namespace L2
open PySem PySem.Spec PyProof.Rows
end L2
/- THE LAST THEOREM (shape; LID, My.* are yours):
   My.Adr: a structure of the addresses that your layer names (classes, functions); My.Txt K t: a structure (Prop) of the equations over K;
   My.txt_mk : {K} {implicit addresses ..} (e1 : nsIn K mainGlobals "law" = some (some (.ref f))) (e2 : K.lookup f = some ⟨oc, od, .func (fnOf "law" "law" params body scope dV kV doc pm an cdv ct), sl⟩) (e3 : codeIn K cdv "law" = true) .. : ∃ t, My.Txt K t
set_option maxRecDepth 100000 in
set_option maxHeartbeats 0 in
theorem PySem.Challenge.cw_LID_holds : PySem.Challenge.rw_LID.Holds := by
  w_on; o_law; k_head; (case hw => w_witness2)
  k_fill
  refine L2.walk_of (l := PySem.Challenge.rw_LID) (n := 63) (k := 40) (x := "script") (CX := fun w => ..) (sp := fun _ => My.sp_law) rfl (by decide) rfl ⟨rfl, by decide, by decide⟩ (fun w h Y => PySem.W.kIn_of Y) ?F ?S ?C
  case F =>
    intro w mg fa h KX G hmg
    have T : ∃ t, My.Txt (L2.KOf KX) t := by
      dsimp only [L2.KOf]                          -- K must stand as «<heap const> w.params» for k_is
      refine' My.txt_mk ?e1 ?e2 ?e3 ..
      (case e1 => PySem.W.k_is)                    -- in the order: a name -> its address -> its object -> its parts
      (case e2 => PySem.W.k_is)
      ..
    obtain ⟨t, T⟩ := T
    have e0 := hmg.symm.trans (PySem.W.mg_of KX G T.law)
    cases e0                                       -- fa is the law's own address
    exact ⟨_, fun s u => .of_eq rfl, fun base kb nb => My.law_fn T kb nb⟩     -- if «.of_eq rfl» comes too early: refine' ⟨_, ?b, fun base kb nb => My.law_fn T kb nb⟩; exact fun s u => .of_eq rfl
  case S => exact fun w H a ns hl hO hS => ..
  case C => exact ..
(the tactic k_is has no namespace: write k_is) -/
/-! SHORT WORDS over the layer: a def of the text, its body, what a loop and a test want. -/
namespace L2
open PySem PySem.Spec PyProof.Rows
/-! ### the text by places -/
/-- the j-th statement of a class's body -/
def inClass (s : Stmt) (j : Nat) : Stmt := match s with
  | .ClassDef _ _ _ body _ _ _ _ _ _ _ => body.getD j (.Pass ⟨0, 0, 0, 0⟩)
  | _ => .Pass ⟨0, 0, 0, 0⟩
def defArgs (s : Stmt) : Arguments := match s with
  | .FunctionDef _ a _ _ _ _ _ _ _ _ => a
  | _ => { posonlyargs := [], args := [], vararg := none, kwonlyargs := [], kw_defaults := [], kwarg := none, defaults := [] }
def defBody (s : Stmt) : List Stmt := match s with
  | .FunctionDef _ _ b _ _ _ _ _ _ _ => b
  | _ => []
def defScope (s : Stmt) : Scope := match s with
  | .FunctionDef _ _ _ _ _ _ sc _ _ _ => sc
  | _ => { kind := .function, names := [], isGenerator := false, isCoroutine := false }
/-! ### no exception leaves a def -/
abbrev CX0 : CXT := fun _ _ _ _ _ _ => False
abbrev E0 : XK := fun _ _ _ => False
theorem pass0 {X : Cx} : Passes CX0 X E0 := fun _ _ _ _ _ _ _ h => h.elim
/-! ### a def (or method) of the text as it stands behind the top -/
structure Fun (K : PySem.W.Frag) (x qual : Str) (st : Stmt) (f : Addr) (fd : FuncData) : Prop where
  ex : ∃ (oc : Value) (od : Option Addr) (kV doc pm : Value) (an : Option Addr) (cdv ct : Value) (osl : Array (Option Value)),
    fd = PySem.W.fnOf x qual (defArgs st) (defBody st) (defScope st) .none kV doc pm an cdv ct ∧ K.lookup f = some ⟨oc, od, .func fd, osl⟩ ∧ PySem.W.codeIn K cdv qual = true
  kp : PySem.W.keepIn K (.ref f) = true
section
variable {P : Program} {w : World} {K : PySem.W.Frag} {mg : Str → Option Value} {base : Heap}
/-- THE RULE for a def: its body as a term of rules, and the reading of that term -/
theorem Fun.ok {x qual : Str} {st : Stmt} {f : Addr} {fd : FuncData} {N ps : List Str} {k : Nat} {sp : Sp} (F : Fun K x qual st f fd) (S : FnScope N ps (defScope st)) (len : ∀ vs H Q E, sp vs H Q E → vs.length = ps.length)
    (hbody : ∀ (cdv : Value) (A : Around) (outer : List Env) (s : Shared) (H : Hp) (vs : List V) (Q : VK) (E : XK), Room k (A.deeper (envOfC qual (defScope st) s.heap.objs.size f cdv)) → sp vs H Q E →
      ∃ t, PSs (cxOf CX0 P w K mg base N qual (defScope st) f cdv A outer s H E).nox (defBody st) t ∧ t { nx := fun _ H' => Q .non H', rt := Q } (start N vs) H) : FnOk P w K mg base CX0 (k + 1) f fd ps sp := by
  obtain ⟨oc, od, kV, doc, pm, an, cdv, ct, osl, rfl, lk, hcd⟩ := F.ex
  refine fn_of lk hcd S len fun A outer s H vs Q E hr hsp => ?_
  obtain ⟨t, h, q⟩ := hbody cdv A outer s H vs Q E hr hsp
  exact ⟨t, h.nox, q⟩
/-- how its arguments bind (no defaults): h is «fun _ _ _ _ _ _ us hl => match us, hl with | [_, _], _ => rfl», one _ a parameter -/
theorem Fun.binds {x qual : Str} {st : Stmt} {f : Addr} {fd : FuncData} {ps : List Str} (F : Fun K x qual st f fd)
    (h : ∀ (kV doc pm : Value) (an : Option Addr) (cdv ct : Value) (us : List Value), us.length = ps.length → bindArgs (PySem.W.fnOf x qual (defArgs st) (defBody st) (defScope st) .none kV doc pm an cdv ct) ⟨us, []⟩ = pure (ps.zip us)) : Binds K fd ps [] := by
  obtain ⟨oc, od, kV, doc, pm, an, cdv, ct, osl, rfl, lk, hcd⟩ := F.ex
  exact .all (h kV doc pm an cdv ct)
theorem fun_mk {x qual : Str} {st : Stmt} {f : Addr} {oc : Value} {od an : Option Addr} {osl : Array (Option Value)} {kV doc pm cdv ct : Value} (l : K.lookup f = some ⟨oc, od, .func (PySem.W.fnOf x qual (defArgs st) (defBody st) (defScope st) .none kV doc pm an cdv ct), osl⟩)
    (c : PySem.W.codeIn K cdv qual = true) (k : PySem.W.keepIn K (.ref f) = true) : Fun K x qual st f (PySem.W.fnOf x qual (defArgs st) (defBody st) (defScope st) .none kV doc pm an cdv ct) := ⟨⟨oc, od, kV, doc, pm, an, cdv, ct, osl, rfl, l, c⟩, k⟩
end
theorem hu_of {A : Around} {k : Nat} (hr : Room k A) : A.units + 1 < cLine := Nat.lt_of_le_of_lt (Nat.add_le_add_left (by decide : 1 ≤ 64) _) hr.units
/-! ### expressions in short: the name that stands in the i-th slot -/
section
variable {X : Cx}
theorem pv (i : Nat) {x : Str} {pos : Pos} (hN : X.N[i]? = some x := by rfl) (hv : Vis X.env.scope x := by first | exact Or.inl rfl | exact Or.inr (Or.inl rfl) | exact Or.inr (Or.inr rfl)) (hd : (x == ("__debug__" : Str)) = false := by decide)
    (hcd : (x == ("__classdict__" : Str)) = false := by decide) : PE X (.Name x pos) (tVar i) := pe_var hN hv hd hcd
end
/-! ### tests -/
theorem iteF {A B : Prop} (h : B) : if false = true then A else B := by
  rw [if_neg Bool.false_ne_true]
  exact h
theorem iteT {A B : Prop} (h : A) : if true = true then A else B := by
  rw [if_pos rfl]
  exact h
theorem ite2 {c A B : Prop} [Decidable c] (h1 : c → A) (h2 : ¬ c → B) : if c then A else B := by
  by_cases h : c
  · rw [if_pos h]
    exact h1 h
  · rw [if_neg h]
    exact h2 h
/-! ### heaps -/
/-- all that was tracked is as it was -/
def Same (H H' : Hp) : Prop := ∀ b o, H b = some o → H' b = some o
theorem Same.trans {H H1 H2 : Hp} (a : Same H H1) (b : Same H1 H2) : Same H H2 := fun c o h => b c o (a c o h)
theorem Same.free {H H' : Hp} (e : Same H H') {l : Addr} (h : H' l = Option.none) : H l = Option.none := by
  cases q : H l with
  | none => rfl
  | some o =>
    rw [e l o q] at h
    cases h
theorem Same.seq {K : PySem.W.Frag} {H H' : Hp} {a : Addr} {xs : List V} (e : Same H H') (h : SqL K H a xs) : SqL K H' a xs := by
  rcases h with (h | ⟨o, h⟩) | h
  · exact .inl (.inl (e _ _ h))
  · exact .inl (.inr ⟨o, e _ _ h⟩)
  · exact .inr h
/-! ### a dict's pairs: keys that differ -/
section
variable {κ : Type} [DecidableEq κ]
theorem valV_not {kvs : List (κ × V)} {k : κ} (h : valV kvs k = none) : ¬ k ∈ kvs.map (·.1) := by
  intro m
  obtain ⟨p, hp, e⟩ := List.mem_map.mp m
  have q : (kvs.any fun kv => decide (kv.1 = k)) = true := List.any_eq_true.mpr ⟨p, hp, decide_eq_true e⟩
  rw [valV_any, h] at q
  exact absurd q (by simp)
theorem nd_snoc : ∀ {l : List κ} {k : κ}, l.Nodup → ¬ k ∈ l → (l ++ [k]).Nodup
  | [], k, _, _ => by simp
  | a :: r, k, h, hk => by
    obtain ⟨h1, h2⟩ := List.nodup_cons.mp h
    show (a :: (r ++ [k])).Nodup
    refine List.nodup_cons.mpr ⟨fun m => ?_, nd_snoc h2 fun m => hk (List.mem_cons.mpr (Or.inr m))⟩
    rcases List.mem_append.mp m with q | q
    · exact h1 q
    · exact hk (List.mem_cons.mpr (Or.inl (List.mem_singleton.mp q).symm))
theorem nd_putK {kvs : List (κ × V)} {k : κ} (v : V) (hn : (kvs.map (·.1)).Nodup) (h : valV kvs k = none) : ((putK kvs k v).map (·.1)).Nodup := by
  rw [putK_new v h, List.map_append]
  exact nd_snoc hn (valV_not h)
end
/-! ### lists -/
theorem at_of {xs : List V} {z : Int} {j : Nat} {v : V} (e : z = (j : Int)) (h : xs[j]? = some v) : atI xs z = some v := by
  rw [e]
  exact atI_nat h
theorem nd_ix {α : Type} {l : List α} (hN : l.Nodup) {i j : Nat} {x : α} (a : l[i]? = some x) (b : l[j]? = some x) : i = j := by
  obtain ⟨h1, e1⟩ := List.getElem?_eq_some_iff.mp a
  obtain ⟨h2, e2⟩ := List.getElem?_eq_some_iff.mp b
  exact (List.getElem_inj hN).mp (e1.trans e2.symm)
/-- a new instance and its __init__ leave all that was tracked as it was -/
theorem Same.made {H H1 : Hp} {x dx C : Addr} (nx : H x = Option.none) (nd : H dx = Option.none) (k : ∀ b o, (upd (upd H dx (.own x)) x (.ins C dx [])) b = some o → b ≠ x → H1 b = some o) : Same H H1 := fun b o e =>
  k b o (by rw [upd_ne (ne_of_none e nx), upd_ne (ne_of_none e nd)]; exact e) (ne_of_none e nx)
end L2
section
namespace L2
open PySem PySem.Spec PyProof.Rows
open PySem.W (WData Codec OpenSpec Well WellAll ReadsW ReadsAllW)
/-! ### an answer as data -/
mutual
/-- x stands for the datum d, lists and tuples all the way -/
inductive Dw (K : PySem.W.Frag) (H : Hp) : V → WData → Prop
  | non : Dw K H .non .none
  | bl (b : Bool) : Dw K H (.bl b) (.bool b)
  | int (i : Int) : Dw K H (.int i) (.int i)
  | str (x : Str) : Dw K H (.str x) (.str x)
  | byt (b : Array UInt8) : Dw K H (.byt b) (.bytes b.toList)
  | lst {a : Addr} {xs : List V} {ds : List WData} : SqL K H a xs → DwAll K H xs ds → Dw K H (.ref a) (.list ds)
  | tup {a : Addr} {xs : List V} {ds : List WData} : SqT K H a xs → DwAll K H xs ds → Dw K H (.ref a) (.tuple ds)
inductive DwAll (K : PySem.W.Frag) (H : Hp) : List V → List WData → Prop
  | nil : DwAll K H [] []
  | cons {v : V} {vs : List V} {d : WData} {ds : List WData} : Dw K H v d → DwAll K H vs ds → DwAll K H (v :: vs) (d :: ds)
end
theorem dw_ints {K : PySem.W.Frag} {H : Hp} : ∀ ns : List Int, DwAll K H (ns.map V.int) (ns.map WData.int)
  | [] => .nil
  | n :: r => .cons (.int n) (dw_ints r)
theorem ints_dw {K : PySem.W.Frag} {H : Hp} : ∀ (ns : List Int) (xs : List V), DwAll K H xs (ns.map WData.int) → xs = ns.map V.int
  | [], xs, h => by
    cases h
    rfl
  | n :: r, xs, h => by
    cases h with
    | cons h1 h2 =>
      cases h1
      rw [ints_dw r _ h2] <;> rfl
section
variable {P : Program} {w : World} {K : PySem.W.Frag} {H : Hp} {h : Heap} {R : PySem.W.WRecords} {cl : Str → Option Addr}
theorem sqL_at {a : Addr} {xs : List V} (hok : HOk P w H h) (KX : K.In h) (q : SqL K H a xs) : ∃ (its : List Value) (o : Obj) (n : Nat), Vals xs its ∧ h.get? a = some o ∧ o.cls = .type "list" ∧ o.data = .seq its.toArray n := by
  rcases q with q | ⟨o, its, n, e, hc, _, hd, _, hv⟩
  · obtain ⟨_, its, n, hv, e⟩ := (show ObjOk P w H h a (.lst xs) from q.ok hok)
    exact ⟨its, _, n, hv, e, rfl, rfl⟩
  · exact ⟨its.toList, o, n, hv, KX _ _ e, hc, by simp [hd]⟩
theorem sqT_at {a : Addr} {xs : List V} (hok : HOk P w H h) (KX : K.In h) (q : SqT K H a xs) : ∃ (its : List Value) (o : Obj) (n : Nat), Vals xs its ∧ h.get? a = some o ∧ o.cls = .type "tuple" ∧ o.data = .seq its.toArray n := by
  rcases q with q | ⟨o, its, n, e, hc, hd, _, hv⟩
  · obtain ⟨_, its, hv, o, e, hc, n, hd⟩ := (show ObjOk P w H h a (.tup xs) from q.ok hok)
    exact ⟨its, o, n, hv, e, hc, hd⟩
  · exact ⟨its.toList, o, n, hv, KX _ _ e, hc, by simp [hd]⟩
mutual
theorem Dw.reads (hok : HOk P w H h) (KX : K.In h) : ∀ (d : WData) (v : V) (u : Value), Dw K H v d → RelV v u → ∃ as, ReadsW R cl h u d as
  | .none, _, _, x, r => by
    cases x
    cases r
    exact ⟨_, ReadsW.none⟩
  | .bool b, _, _, x, r => by
    cases x
    cases r
    exact ⟨_, ReadsW.bool b⟩
  | .int i, _, _, x, r => by
    cases x
    obtain ⟨t, rfl⟩ := r
    exact ⟨_, ReadsW.int i t⟩
  | .str s, _, _, x, r => by
    cases x
    obtain ⟨t, rfl⟩ := r
    exact ⟨_, ReadsW.str s t⟩
  | .bytes b, _, _, x, r => by
    cases x
    obtain ⟨t, rfl⟩ := r
    exact ⟨_, ReadsW.bytes _ t⟩
  | .list ds, _, _, x, r => by
    cases x with
    | lst hs ha =>
      cases r
      obtain ⟨its, o, n, rv, ho, hc, hd⟩ := sqL_at hok KX hs
      obtain ⟨as, hr⟩ := Dw.readsAll hok KX ds _ its ha rv
      exact ⟨_, ReadsW.list ho hc hd hr⟩
  | .tuple ds, _, _, x, r => by
    cases x with
    | tup hs ha =>
      cases r
      obtain ⟨its, o, n, rv, ho, hc, hd⟩ := sqT_at hok KX hs
      obtain ⟨as, hr⟩ := Dw.readsAll hok KX ds _ its ha rv
      exact ⟨_, ReadsW.tuple ho hc hd hr⟩
  | .float _, _, _, x, _ => by cases x
  | .dict _, _, _, x, _ => by cases x
  | .bytearray _, _, _, x, _ => by cases x
  | .set _, _, _, x, _ => by cases x
  | .frozenset _, _, _, x, _ => by cases x
  | .obj _ _, _, _, x, _ => by cases x
theorem Dw.readsAll (hok : HOk P w H h) (KX : K.In h) : ∀ (ds : List WData) (vs : List V) (us : List Value), DwAll K H vs ds → Vals vs us → ∃ as, ReadsAllW R cl h us ds as
  | [], _, _, x, r => by
    cases x
    cases r
    exact ⟨_, ReadsAllW.nil⟩
  | d :: ds, _, _, x, r => by
    cases x with
    | cons h1 h2 =>
      cases r with
      | cons r1 r2 =>
        obtain ⟨as, q1⟩ := Dw.reads hok KX d _ _ h1 r1
        obtain ⟨bs, q2⟩ := Dw.readsAll hok KX ds _ _ h2 r2
        exact ⟨_, ReadsAllW.cons q1 q2⟩
end
end
/-! ### the arguments -/
mutual
/-- data that a codec tells -/
def plW : WData → Bool
  | .none => true
  | .bool _ => true
  | .int _ => true
  | .str _ => true
  | .bytes _ => true
  | .list xs => plWs xs
  | .tuple xs => plWs xs
  | _ => false
def plWs : List WData → Bool
  | [] => true
  | x :: r => plW x && plWs r
end
theorem plWs_map {α : Type} {f : α → WData} (h : ∀ a, plW (f a) = true) : ∀ l : List α, plWs (l.map f) = true
  | [] => rfl
  | x :: r => by
    show (plW (f x) && plWs (r.map f)) = true
    rw [h x, plWs_map h r] <;> rfl
theorem pl_enc : ∀ (c : Codec) (a : c.denote), plW (c.enc a) = true
  | .unit, _ => rfl
  | .bool, _ => rfl
  | .int _ _, _ => rfl
  | .nat _ _, _ => rfl
  | .u8, _ => rfl
  | .bytes _ _, _ => rfl
  | .text _ _ _ _, _ => rfl
  | .list _ _ c, a => plWs_map (fun x => pl_enc c x) a
  | .pair c d, a => by
    show (plW (c.enc a.1) && (plW (d.enc a.2) && true)) = true
    rw [pl_enc c a.1, pl_enc d a.2] <;> rfl
  | .triple c d e, a => by
    show (plW (c.enc a.1) && (plW (d.enc a.2.1) && (plW (e.enc a.2.2) && true))) = true
    rw [pl_enc c a.1, pl_enc d a.2.1, pl_enc e a.2.2] <;> rfl
  | .option c, none => rfl
  | .option c, some x => pl_enc c x
theorem pl_encAll : ∀ (cs : List Codec) (a : Codec.denoteAll cs), plWs (Codec.encAll cs a) = true
  | [], _ => rfl
  | c :: cs, a => by
    show (plW (c.enc a.1) && plWs (Codec.encAll cs a.2)) = true
    rw [pl_enc c a.1, pl_encAll cs a.2] <;> rfl
theorem weight_mem : ∀ {xs : List WData} {d : WData}, d ∈ xs → d.weight ≤ WData.weightAll xs
  | [], d, h => absurd h (by simp)
  | x :: r, d, h => by
    show d.weight ≤ x.weight + 1 + WData.weightAll r
    rcases List.mem_cons.mp h with e | m
    · rw [e]
      omega
    · have z := weight_mem m
      omega
def toV : Value → V
  | .none => .non
  | .bool b => .bl b
  | .int i _ => .int i
  | .str x _ => .str x
  | .bytes b _ => .byt b
  | .ref a => .ref a
  | _ => .non
/-- a value of the arguments, its objects among A -/
def OkU (A : List Addr) : Value → Prop
  | .none => True
  | .bool _ => True
  | .int _ _ => True
  | .str _ _ => True
  | .bytes _ _ => True
  | .ref a => a ∈ A
  | _ => False
theorem OkU.mono {A B : List Addr} (h : ∀ a ∈ A, a ∈ B) : ∀ {u : Value}, OkU A u → OkU B u := fun {u} x => by
  cases u with
  | ref a => exact h a x
  | none => trivial
  | bool b => trivial
  | int i t => trivial
  | str s t => trivial
  | bytes b t => trivial
  | _ => exact False.elim x
theorem relV_toV {A : List Addr} {u : Value} (x : OkU A u) : RelV (toV u) u := by
  cases u with
  | ref a => rfl
  | none => rfl
  | bool b => rfl
  | int i t => exact ⟨t, rfl⟩
  | str s t => exact ⟨t, rfl⟩
  | bytes b t => exact ⟨t, rfl⟩
  | _ => exact False.elim x
theorem vals_toV {A : List Addr} : ∀ {vs : List Value}, (∀ u ∈ vs, OkU A u) → Vals (vs.map toV) vs
  | [], _ => .nil
  | u :: r, h => .cons (relV_toV (h u (List.mem_cons_self ..))) (vals_toV fun x hx => h x (List.mem_cons_of_mem _ hx))
/-- an object of the arguments -/
def ArgOb (h : Heap) (A : List Addr) (a : Addr) : Prop := ∃ vs : List Value, vs.length ≤ sizeLine ∧ (∀ u ∈ vs, OkU A u) ∧
  (h.get? a = some { cls := .type "list", data := .seq vs.toArray } ∨ h.get? a = some { cls := .type "tuple", data := .seq vs.toArray })
theorem ArgOb.mono {h : Heap} {A B : List Addr} {a : Addr} (k : ∀ a ∈ A, a ∈ B) (x : ArgOb h A a) : ArgOb h B a := by
  obtain ⟨vs, h1, h2, h3⟩ := x
  exact ⟨vs, h1, fun u hu => (h2 u hu).mono k, h3⟩
theorem wellAll_len {P : Params} {h : Heap} : ∀ {vs : List Value} {ds : List WData}, WellAll P h vs ds → vs.length = ds.length
  | _, _, .nil => rfl
  | _, _, .cons _ b => by
    show _ + 1 = _ + 1
    rw [wellAll_len b]
theorem well_list {P : Params} {h : Heap} {v : Value} {ds : List WData} (x : Well P h v (.list ds)) : ∃ (a : Addr) (vs : List Value), v = .ref a ∧ h.get? a = some { cls := .type "list", data := .seq vs.toArray } ∧ WellAll P h vs ds := by
  cases x with
  | list ho hall => exact ⟨_, _, rfl, ho, hall⟩
theorem well_tuple {P : Params} {h : Heap} {v : Value} {ds : List WData} (x : Well P h v (.tuple ds)) : ∃ (a : Addr) (vs : List Value), v = .ref a ∧ h.get? a = some { cls := .type "tuple", data := .seq vs.toArray } ∧ WellAll P h vs ds := by
  cases x with
  | tuple ho hall => exact ⟨_, _, rfl, ho, hall⟩
theorem well_cons {P : Params} {h : Heap} {us : List Value} {d : WData} {ds : List WData} (x : WellAll P h us (d :: ds)) : ∃ (v : Value) (vs : List Value), us = v :: vs ∧ Well P h v d ∧ WellAll P h vs ds := by
  cases x with
  | cons a b => exact ⟨_, _, rfl, a, b⟩
theorem line_of {n : Nat} (h : n ≤ 1048576) : n ≤ sizeLine := Nat.le_trans h (by decide)
section
variable {P : Params} {h : Heap}
mutual
theorem area_one : ∀ (d : WData) (v : Value), Well P h v d → plW d = true → d.weight ≤ 1048576 → ∃ A : List Addr, OkU A v ∧ ∀ a ∈ A, ArgOb h A a
  | .none, _, x, _, _ => by
    cases x
    exact ⟨[], trivial, fun a m => absurd m (by simp)⟩
  | .bool b, _, x, _, _ => by
    cases x
    exact ⟨[], trivial, fun a m => absurd m (by simp)⟩
  | .int i, _, x, _, _ => by
    cases x
    exact ⟨[], trivial, fun a m => absurd m (by simp)⟩
  | .str s, _, x, _, _ => by
    cases x
    exact ⟨[], trivial, fun a m => absurd m (by simp)⟩
  | .bytes b, _, x, _, _ => by
    cases x
    exact ⟨[], trivial, fun a m => absurd m (by simp)⟩
  | .list ds, _, x, p, z => by
    obtain ⟨a, vs, rfl, ho, hall⟩ := well_list x
    have z2 : WData.weightAll ds ≤ 1048576 := z
    obtain ⟨A, h1, h2⟩ := area_all ds _ hall p fun d hd => Nat.le_trans (weight_mem hd) z2
    have k : ∀ b ∈ A, b ∈ a :: A := fun b hb => List.mem_cons_of_mem _ hb
    refine ⟨a :: A, List.mem_cons_self .., fun b hb => ?_⟩
    rcases List.mem_cons.mp hb with e | m
    · rw [e]
      exact ⟨vs, line_of (by rw [wellAll_len hall]; exact Nat.le_trans (PySem.W.length_le_weightAllW ds) z2), fun u hu => (h1 u hu).mono k, .inl ho⟩
    · exact (h2 b m).mono k
  | .tuple ds, _, x, p, z => by
    obtain ⟨a, vs, rfl, ho, hall⟩ := well_tuple x
    have z2 : WData.weightAll ds ≤ 1048576 := z
    obtain ⟨A, h1, h2⟩ := area_all ds _ hall p fun d hd => Nat.le_trans (weight_mem hd) z2
    have k : ∀ b ∈ A, b ∈ a :: A := fun b hb => List.mem_cons_of_mem _ hb
    refine ⟨a :: A, List.mem_cons_self .., fun b hb => ?_⟩
    rcases List.mem_cons.mp hb with e | m
    · rw [e]
      exact ⟨vs, line_of (by rw [wellAll_len hall]; exact Nat.le_trans (PySem.W.length_le_weightAllW ds) z2), fun u hu => (h1 u hu).mono k, .inr ho⟩
    · exact (h2 b m).mono k
  | .float _, _, _, p, _ => Bool.noConfusion (show false = true from p)
  | .dict _, _, _, p, _ => Bool.noConfusion (show false = true from p)
  | .bytearray _, _, _, p, _ => Bool.noConfusion (show false = true from p)
  | .set _, _, _, p, _ => Bool.noConfusion (show false = true from p)
  | .frozenset _, _, _, p, _ => Bool.noConfusion (show false = true from p)
  | .obj _ _, _, _, p, _ => Bool.noConfusion (show false = true from p)
theorem area_all : ∀ (ds : List WData) (vs : List Value), WellAll P h vs ds → plWs ds = true → (∀ d ∈ ds, d.weight ≤ 1048576) → ∃ A : List Addr, (∀ u ∈ vs, OkU A u) ∧ ∀ a ∈ A, ArgOb h A a
  | [], _, x, _, _ => by
    cases x
    exact ⟨[], fun u m => absurd m (by simp), fun a m => absurd m (by simp)⟩
  | d :: ds, _, x, p, z => by
    obtain ⟨v, vs, rfl, x1, x2⟩ := well_cons x
    have q : plW d = true ∧ plWs ds = true := Bool.and_eq_true_iff.mp p
    obtain ⟨A, a1, a2⟩ := area_one d v x1 q.1 (z d (List.mem_cons_self ..))
    obtain ⟨B, b1, b2⟩ := area_all ds vs x2 q.2 fun e he => z e (List.mem_cons_of_mem _ he)
    have kA : ∀ b ∈ A, b ∈ A ++ B := fun b hb => List.mem_append.mpr (.inl hb)
    have kB : ∀ b ∈ B, b ∈ A ++ B := fun b hb => List.mem_append.mpr (.inr hb)
    refine ⟨A ++ B, fun u hu => ?_, fun b hb => ?_⟩
    · rcases List.mem_cons.mp hu with e | m
      · rw [e]
        exact a1.mono kA
      · exact (b1 u m).mono kB
    · rcases List.mem_append.mp hb with m | m
      · exact (a2 b m).mono kA
      · exact (b2 b m).mono kB
end
end
/-- what is tracked of an argument's object -/
def hoOf (o : Obj) : Option HO := match o.data with
  | .seq vs _ => if (o.cls == Value.type "list") = true then some (.frz o (.lst (vs.toList.map toV))) else some (.frz o (.tup (vs.toList.map toV)))
  | _ => none
def argH (K : PySem.W.Frag) (h : Heap) (A : List Addr) : Hp := fun b => if b ∈ A then (if (K.lookup b).isNone = true then (h.get? b).bind hoOf else none) else none
/-- nothing is tracked but what is known to the object -/
def OnlyF (H : Hp) : Prop := ∀ b, H b = none ∨ ∃ o u, H b = some (.frz o u)
theorem hoOf_lst (vs : List Value) : hoOf { cls := .type "list", data := .seq vs.toArray } = some (.frz { cls := .type "list", data := .seq vs.toArray } (.lst (vs.map toV))) := by
  show (if (Value.type "list" == Value.type "list") = true then some (HO.frz { cls := .type "list", data := .seq vs.toArray } (.lst (vs.toArray.toList.map toV))) else some (HO.frz { cls := .type "list", data := .seq vs.toArray } (.tup (vs.toArray.toList.map toV)))) = _
  rw [if_pos (beq_self_eq_true _)]
theorem hoOf_tup (vs : List Value) : hoOf { cls := .type "tuple", data := .seq vs.toArray } = some (.frz { cls := .type "tuple", data := .seq vs.toArray } (.tup (vs.map toV))) := by
  show (if (Value.type "tuple" == Value.type "list") = true then some (HO.frz { cls := .type "tuple", data := .seq vs.toArray } (.lst (vs.toArray.toList.map toV))) else some (HO.frz { cls := .type "tuple", data := .seq vs.toArray } (.tup (vs.toArray.toList.map toV)))) = _
  rw [if_neg (by decide)]
section
variable {P : Program} {w : World} {K : PySem.W.Frag} {h : Heap} {A : List Addr}
theorem argH_at {b : Addr} {o : Obj} (hb : b ∈ A) (hk : K.lookup b = none) (e : h.get? b = some o) : argH K h A b = hoOf o := by
  unfold argH
  rw [if_pos hb, hk, if_pos (show (none : Option Obj).isNone = true from rfl), e] <;> rfl
theorem of_argH {b : Addr} {u : HO} (q : argH K h A b = some u) : b ∈ A ∧ K.lookup b = none := by
  unfold argH at q
  by_cases hb : b ∈ A
  · rw [if_pos hb] at q
    cases hk : K.lookup b with
    | none => exact ⟨hb, rfl⟩
    | some o =>
      rw [hk, if_neg (by simp)] at q
      cases q
  · rw [if_neg hb] at q
    cases q
/-- what stands tracked -/
theorem argH_is (ar : ∀ a ∈ A, ArgOb h A a) {b : Addr} {u : HO} (q : argH K h A b = some u) : K.lookup b = none ∧ ∃ vs : List Value, vs.length ≤ sizeLine ∧ (∀ u ∈ vs, OkU A u) ∧
    ((h.get? b = some { cls := .type "list", data := .seq vs.toArray } ∧ u = .frz { cls := .type "list", data := .seq vs.toArray } (.lst (vs.map toV))) ∨
     (h.get? b = some { cls := .type "tuple", data := .seq vs.toArray } ∧ u = .frz { cls := .type "tuple", data := .seq vs.toArray } (.tup (vs.map toV)))) := by
  obtain ⟨hb, hk⟩ := of_argH q
  obtain ⟨vs, h1, h2, h3⟩ := ar b hb
  refine ⟨hk, vs, h1, h2, ?_⟩
  rcases h3 with e | e
  · rw [argH_at hb hk e, hoOf_lst] at q
    exact .inl ⟨e, (Option.some.inj q).symm⟩
  · rw [argH_at hb hk e, hoOf_tup] at q
    exact .inr ⟨e, (Option.some.inj q).symm⟩
theorem argH_only (ar : ∀ a ∈ A, ArgOb h A a) : OnlyF (argH K h A) := fun b => by
  cases q : argH K h A b with
  | none => exact .inl rfl
  | some u =>
    obtain ⟨_, vs, _, _, ⟨_, e⟩ | ⟨_, e⟩⟩ := argH_is ar q
    · exact .inr ⟨_, _, by rw [e]⟩
    · exact .inr ⟨_, _, by rw [e]⟩
theorem argH_ok (ar : ∀ a ∈ A, ArgOb h A a) : HOk P w (argH K h A) h := fun b u q => by
  obtain ⟨_, vs, h1, h2, ⟨e, rfl⟩ | ⟨e, rfl⟩⟩ := argH_is ar q
  · exact ⟨e, by rw [List.length_map]; exact h1, vs, _, vals_toV h2, e⟩
  · exact ⟨e, by rw [List.length_map]; exact h1, vs, vals_toV h2, _, e, rfl, _, rfl⟩
theorem seq_inj {c c' : Value} {vs us : List Value} (e : (some { cls := c, data := .seq vs.toArray } : Option Obj) = some { cls := c', data := .seq us.toArray }) : c = c' ∧ vs = us := by
  have e1 := Option.some.inj e
  have e2 : c = c' := congrArg Obj.cls e1
  have e3 : Data.seq vs.toArray = Data.seq us.toArray := congrArg Obj.data e1
  injection e3 with e4
  refine ⟨e2, ?_⟩
  have e5 := congrArg Array.toList e4
  simpa using e5
/-- a list argument -/
theorem argL (KX : K.In h) (ar : ∀ a ∈ A, ArgOb h A a) {a : Addr} {vs : List Value} (ha : a ∈ A) (e : h.get? a = some { cls := .type "list", data := .seq vs.toArray }) : (∀ u ∈ vs, OkU A u) ∧ SqL K (argH K h A) a (vs.map toV) := by
  obtain ⟨us, h1, h2, h3⟩ := ar a ha
  have hu : us = vs := by
    rcases h3 with q | q
    · rw [e] at q
      exact (seq_inj q).2.symm
    · rw [e] at q
      exact absurd (Value.type.inj (seq_inj q).1) (by decide)
  subst hu
  refine ⟨h2, ?_⟩
  cases hk : K.lookup a with
  | none => exact .inl (.inr ⟨_, by rw [argH_at ha hk e, hoOf_lst]⟩)
  | some o =>
    have e2 := KX a o hk
    rw [e] at e2
    obtain rfl := Option.some.inj e2
    exact .inr ⟨_, us.toArray, _, hk, rfl, rfl, rfl, by rw [List.size_toArray]; exact h1, by simpa using vals_toV h2⟩
theorem argT (KX : K.In h) (ar : ∀ a ∈ A, ArgOb h A a) {a : Addr} {vs : List Value} (ha : a ∈ A) (e : h.get? a = some { cls := .type "tuple", data := .seq vs.toArray }) : (∀ u ∈ vs, OkU A u) ∧ SqT K (argH K h A) a (vs.map toV) := by
  obtain ⟨us, h1, h2, h3⟩ := ar a ha
  have hu : us = vs := by
    rcases h3 with q | q
    · rw [e] at q
      exact absurd (Value.type.inj (seq_inj q).1) (by decide)
    · rw [e] at q
      exact (seq_inj q).2.symm
  subst hu
  refine ⟨h2, ?_⟩
  cases hk : K.lookup a with
  | none => exact .inl (.inr ⟨_, by rw [argH_at ha hk e, hoOf_tup]⟩)
  | some o =>
    have e2 := KX a o hk
    rw [e] at e2
    obtain rfl := Option.some.inj e2
    exact .inr ⟨_, us.toArray, _, hk, rfl, rfl, by rw [List.size_toArray]; exact h1, by simpa using vals_toV h2⟩
mutual
theorem dw_one {Pm : Params} (KX : K.In h) (ar : ∀ a ∈ A, ArgOb h A a) : ∀ (d : WData) (v : Value), Well Pm h v d → plW d = true → OkU A v → Dw K (argH K h A) (toV v) d
  | .none, _, x, _, _ => by
    cases x
    exact .non
  | .bool b, _, x, _, _ => by
    cases x
    exact .bl b
  | .int i, _, x, _, _ => by
    cases x
    exact .int i
  | .str s, _, x, _, _ => by
    cases x
    exact .str s
  | .bytes b, _, x, _, _ => by
    cases x
    have z := Dw.byt (K := K) (H := argH K h A) b.toArray
    exact z
  | .list ds, _, x, p, hu => by
    obtain ⟨a, vs, rfl, ho, hall⟩ := well_list x
    obtain ⟨h2, hs⟩ := argL KX ar hu ho
    exact .lst hs (dw_all KX ar ds _ hall p h2)
  | .tuple ds, _, x, p, hu => by
    obtain ⟨a, vs, rfl, ho, hall⟩ := well_tuple x
    obtain ⟨h2, hs⟩ := argT KX ar hu ho
    exact .tup hs (dw_all KX ar ds _ hall p h2)
  | .float _, _, _, p, _ => Bool.noConfusion (show false = true from p)
  | .dict _, _, _, p, _ => Bool.noConfusion (show false = true from p)
  | .bytearray _, _, _, p, _ => Bool.noConfusion (show false = true from p)
  | .set _, _, _, p, _ => Bool.noConfusion (show false = true from p)
  | .frozenset _, _, _, p, _ => Bool.noConfusion (show false = true from p)
  | .obj _ _, _, _, p, _ => Bool.noConfusion (show false = true from p)
theorem dw_all {Pm : Params} (KX : K.In h) (ar : ∀ a ∈ A, ArgOb h A a) : ∀ (ds : List WData) (vs : List Value), WellAll Pm h vs ds → plWs ds = true → (∀ u ∈ vs, OkU A u) → DwAll K (argH K h A) (vs.map toV) ds
  | [], _, x, _, _ => by
    cases x
    exact .nil
  | d :: ds, _, x, p, hu => by
    obtain ⟨v, vs, rfl, x1, x2⟩ := well_cons x
    have q : plW d = true ∧ plWs ds = true := Bool.and_eq_true_iff.mp p
    exact .cons (dw_one KX ar d v x1 q.1 (hu _ (List.mem_cons_self ..))) (dw_all KX ar ds vs x2 q.2 fun u m => hu u (List.mem_cons_of_mem _ m))
end
end
/-! ### the call -/
theorem spec_call {P : Program} {w : World} {K : PySem.W.Frag} {mg mb : Str → Option Value} {CX : CXT} {k : Nat} {fa : Addr} {fd : FuncData} {ps : List Str} {sp : Sp} {s₁ : Shared} {vals : List Value} {ds : List WData} {R : PySem.W.WRecords} {cl : Str → Option Addr} {d0 : WData}
    (KX : K.In s₁.heap) (hns : s₁.heap.Ns mainGlobals mg) (hb : s₁.heap.Ns builtinsNs mb) (hbb : ∀ x : Str, x ≠ "__name__" → mb x = bootBuiltins x) (hlim : s₁.heap.NoLimit) (hg : s₁.gens = #[])
    (hwl : WellAll w.params s₁.heap vals ds) (hpl : plWs ds = true) (hwt : ∀ d ∈ ds, d.weight ≤ 1048576) (hr : Room k callerA)
    (F : ∀ base : Heap, K.In base → base.Ns mainGlobals mg → FnOk P w K mg base CX k fa fd ps sp) (hbind : ∀ (s : Shared) (us : List Value), us.length = ps.length → BindsTo s fd ⟨us, []⟩ (ps.zip us)) (hlen : ds.length = ps.length)
    (hsp : ∀ (H : Hp) (xs : List V), OnlyF H → DwAll K H xs ds → sp xs H (fun v H' => Dw K H' v d0) fun _ _ _ => False)
    (hCX : ∀ H e s', CX [] H s₁ (fun _ _ _ => False) e s' → False) :
    codeAny (model P w) callerA (.call (.ref fa) ⟨vals, []⟩) (fun r s' => ∃ u as, r = .ok (.ret u) ∧ ReadsW R cl s'.heap u d0 as ∧ OldK s₁.heap s'.heap ∧ s'.os = s₁.os ∧ AllBare s'.gens) s₁ := by
  obtain ⟨A, ho, ar⟩ := area_all ds vals hwl hpl hwt
  have hO : OnlyF (argH K s₁.heap A) := argH_only ar
  have hok : HOk P w (argH K s₁.heap A) s₁.heap := argH_ok ar
  have hS := dw_all KX ar ds vals hwl hpl ho
  have hV := vals_toV ho
  have hK : ∀ b u, argH K s₁.heap A b = some u → K.lookup b = none := fun b u q => (argH_is ar q).1
  have noA : ∀ {b : Addr} {o : Obj} {es : Array DictEntry} {ep : Nat}, s₁.heap.get? b = some o → o.data = .dict es ep → argH K s₁.heap A b = none := fun {b o es ep} e d => by
    cases q : argH K s₁.heap A b with
    | none => rfl
    | some u =>
      obtain ⟨_, vs, _, _, ⟨e2, _⟩ | ⟨e2, _⟩⟩ := argH_is ar q
      · rw [e2] at e
        cases e
        have d' : Data.seq vs.toArray _ = Data.dict es ep := d
        cases d'
      · rw [e2] at e
        cases e
        have d' : Data.seq vs.toArray _ = Data.dict es ep := d
        cases d'
  generalize argH K s₁.heap A = H at hO hok hS hK noA
  have base_of : ∀ {b : Addr} {o : Obj}, s₁.heap.get? b = some o → H b = none → (hidT s₁.heap H).get? b = some o := fun e n => hidT_get e n
  have nsK : ∀ {b : Addr} {m : Str → Option Value}, s₁.heap.Ns b m → (hidT s₁.heap H).Ns b m := fun {b m} ⟨o, es, ep, e, d, r⟩ => ⟨o, es, ep, base_of e (noA e d), d, r⟩
  have nK : ∀ b o, K.lookup b = some o → H b = none := fun b o e => by
    cases q : H b with
    | none => rfl
    | some u =>
      rw [hK b u q] at e
      cases e
  have hKb : K.In (hidT s₁.heap H) := fun b o e => base_of (KX b o e) (nK b o e)
  have hM : Mod K mg (hidT s₁.heap H) := ⟨hKb, nsK hns, ⟨mb, nsK hb, hbb⟩, let ⟨mc, h1, h2⟩ := hlim; ⟨mc, nsK h1, h2⟩⟩
  have e0 : Env0 P w K mg (hidT s₁.heap H) callerA [] s₁ H := ⟨rfl, hM, fun b o e => of_hidT e, Nat.le_of_eq (hidT_size _ _), trivial, fun b hb => absurd (show b ∈ ([] : List Addr) from hb) (by simp), hok, .of_eq hg⟩
  have hl : vals.length = ps.length := by rw [wellAll_len hwl]; exact hlen
  refine codeAny_mono ((F _ hKb (nsK hns)).run callerA [] s₁ H ⟨vals, []⟩ vals (vals.map toV) _ _ hr e0 (hbind s₁ vals hl) hV (hsp H _ hO hS)) fun r s' x => ?_
  cases r with
  | error e => exact (hCX H e s' x).elim
  | ok fl =>
    cases fl with
    | next => exact False.elim x
    | brk => exact False.elim x
    | cont => exact False.elim x
    | ret u =>
      obtain ⟨v, H', os, bare, un, hok', r', q⟩ := x
      have kept : ∀ b o, s₁.heap.get? b = some o → s'.heap.get? b = some o := fun b o e => by
        cases q2 : H b with
        | none => exact un.keep b o e q2 (by intro z; exact absurd (show b ∈ ([] : List Addr) from z) (by simp)) (by simp)
        | some u2 =>
          rcases hO b with z | ⟨ob, u3, z⟩
          · rw [q2] at z
            cases z
          · have z2 := un.frzs b ob _ z
            obtain ⟨e1, _⟩ := hok b _ z
            obtain ⟨e2, _⟩ := hok' b _ z2
            rw [e] at e1
            cases e1
            exact e2
      have KX' : K.In s'.heap := fun b o e => kept b o (KX b o e)
      obtain ⟨as, hrd⟩ := Dw.reads (R := R) (cl := cl) hok' KX' d0 v u q r'
      exact ⟨u, as, rfl, hrd, OldK.of_keep kept, os, bare⟩
/-! ### the row -/
theorem layable_weight {ds : List WData} (h : WData.layableAll ds = true) : ∀ d ∈ ds, d.weight ≤ 1048576 := fun d hd =>
  (PySem.W.layableW_iff.mp (List.all_eq_true.mp h d hd)).2.2
theorem encAll_len : ∀ (cs : List Codec) (a : Codec.denoteAll cs), (Codec.encAll cs a).length = cs.length
  | [], _ => rfl
  | c :: cs, a => by
    show (Codec.encAll cs a.2).length + 1 = cs.length + 1
    rw [encAll_len cs a.2]
/-- the goal that k_headS leaves (case hc), from the promise of the row's def: whatever the arguments that the codecs let and the row asks for, the def gives what stands for enc (f ..) -/
theorem walk_spec {r : OpenSpec} {k : Nat} {q : Program} {loose : List Str} {XP : (Str → Option Value) → Heap → Prop} {YP : World → Heap → Prop} {d : DefRec} {K : Params → PySem.W.Frag} {CX : World → CXT} {ps : List Str} {sp : World → Sp}
    (hwell : r.wellSaid = true) (hdf : d.params.defaults = []) (hlen : r.args.length = ps.length) (hr : Room k callerA)
    (hY : ∀ (w : World) (h : Heap), YP w h → (K w.params).In h)
    (F : ∀ (w : World) (mg : Str → Option Value) (fa : Addr) (h : Heap), YP w h → (K w.params).In h → h.Ns mainGlobals mg → mg d.name = some (.ref fa) →
      ∃ fd : FuncData, (∀ (s : Shared) (us : List Value), us.length = ps.length → BindsTo s fd ⟨us, []⟩ (ps.zip us)) ∧
        ∀ base : Heap, (K w.params).In base → base.Ns mainGlobals mg → FnOk r.prog w (K w.params) mg base (CX w) k fa fd ps (sp w))
    (hsp : ∀ (w : World) (H : Hp) (xs : List V) (a : Codec.denoteAll r.args), OnlyF H → Codec.withinAll r.args a = true → Codec.app r.args r.asked a = true → DwAll (K w.params) H xs (Codec.encAll r.args a) →
      sp w xs H (fun v H' => Dw (K w.params) H' v (r.ret.enc (Codec.app r.args r.f a))) fun _ _ _ => False)
    (hCX : ∀ (w : World) (H : Hp) (s : Shared) (e : Value) (s' : Shared), CX w [] H s (fun _ _ _ => False) e s' → False) :
    PySem.W.WalkOS q loose XP YP r d [] (fun f vs => PySem.call f vs) := by
  intro w s_0 s₁ mg mb G Y fa o pm cd doc dV kV ho hd hcd hD hmg hg args vals as hpre hlay hrd hwl hlo
  obtain ⟨a, e1, e2⟩ := PySem.W.os_pre_some hpre
  obtain ⟨e3, hwi⟩ := Codec.encAll_of_decAll r.args args a e1
  subst e3
  have KX := hY w _ Y
  obtain ⟨fd, hb, hF⟩ := F w mg fa _ Y KX G.T.g hmg
  refine PySem.W.enter_call (codeAny_mono (spec_call (R := []) (cl := classAt s_0.heap) (d0 := r.ret.enc (Codec.app r.args r.f a)) KX G.T.g G.T.b G.T.builtins G.T.nolimit hg hwl (pl_encAll _ _) (layable_weight hlay) hr hF hb (by rw [encAll_len]; exact hlen)
    (fun H xs hO hS => hsp w H xs a hO hwi e2 hS) fun H e s' => hCX w H s₁ e s') fun r' s' hq => ?_)
  obtain ⟨u, as', rfl, h1, h2, h3, h4⟩ := hq
  exact ⟨.inl ⟨u, _, as', rfl, fun _ => rfl, h1, (OpenSpec.post_iff hwell hwi _ _).mpr rfl, fun z => Bool.noConfusion (show false = true from z)⟩, h2, h3, h4⟩
/-- the same where the promise hangs on the written part alone -/
theorem walk_specK {r : OpenSpec} {k : Nat} {q : Program} {loose : List Str} {XP : (Str → Option Value) → Heap → Prop} {YP : World → Heap → Prop} {d : DefRec} {K : Params → PySem.W.Frag} {CX : CXT} {ps : List Str} {sp : PySem.W.Frag → Sp}
    (hwell : r.wellSaid = true) (hdf : d.params.defaults = []) (hlen : r.args.length = ps.length) (hr : Room k callerA)
    (hY : ∀ (w : World) (h : Heap), YP w h → (K w.params).In h)
    (F : ∀ (w : World) (mg : Str → Option Value) (fa : Addr) (h : Heap), YP w h → (K w.params).In h → h.Ns mainGlobals mg → mg d.name = some (.ref fa) →
      ∃ fd : FuncData, (∀ (s : Shared) (us : List Value), us.length = ps.length → BindsTo s fd ⟨us, []⟩ (ps.zip us)) ∧
        ∀ base : Heap, (K w.params).In base → base.Ns mainGlobals mg → FnOk r.prog w (K w.params) mg base CX k fa fd ps (sp (K w.params)))
    (hsp : ∀ (K : PySem.W.Frag) (H : Hp) (xs : List V) (a : Codec.denoteAll r.args), OnlyF H → Codec.withinAll r.args a = true → Codec.app r.args r.asked a = true → DwAll K H xs (Codec.encAll r.args a) →
      sp K xs H (fun v H' => Dw K H' v (r.ret.enc (Codec.app r.args r.f a))) fun _ _ _ => False)
    (hCX : ∀ (H : Hp) (s : Shared) (e : Value) (s' : Shared), CX [] H s (fun _ _ _ => False) e s' → False) :
    PySem.W.WalkOS q loose XP YP r d [] (fun f vs => PySem.call f vs) :=
  walk_spec (K := K) (CX := fun _ => CX) (sp := fun w => sp (K w.params)) hwell hdf hlen hr hY F (fun w H xs a h1 h2 h3 h4 => hsp (K w.params) H xs a h1 h2 h3 h4) fun _ H s e s' => hCX H s e s'
end L2
end
namespace Od
open Km349
/-! Least of a list of (cost, order), the first of like ones. -/
def lst : List (Nat × List Nat) → Nat × List Nat
  | [] => (0, [])
  | x :: r => least r x
theorem best_eq (n : Nat) (l : List Ranks) : best n l = lst ((orders n (List.range n)).map fun o => (against l o, o)) := by
  unfold best lst
  split <;> rename_i h <;> rw [h]
theorem least_append : ∀ (a b : List (Nat × List Nat)) (x : Nat × List Nat), least (a ++ b) x = least b (least a x)
  | [], _, _ => rfl
  | y :: a, b, x => by
    show least (a ++ b) (if y.1 < x.1 then y else x) = _
    rw [least_append a b]
    rfl
theorem least_if : ∀ (l : List (Nat × List Nat)) (y x : Nat × List Nat), least (y :: l) x = if (least l y).1 < x.1 then least l y else x
  | [], y, x => rfl
  | z :: l, y, x => by
    have e1 := least_if l z (if y.1 < x.1 then y else x)
    have e2 := least_if l z y
    show least (z :: l) (if y.1 < x.1 then y else x) = if (least (z :: l) y).1 < x.1 then least (z :: l) y else x
    rw [e1, e2]
    by_cases h1 : y.1 < x.1
    · rw [if_pos h1]
      by_cases h2 : (least l z).1 < y.1
      · rw [if_pos h2, if_pos (by omega)]
      · rw [if_neg h2, if_pos h1]
    · rw [if_neg h1]
      by_cases h2 : (least l z).1 < y.1
      · rw [if_pos h2]
      · rw [if_neg h2]
        rw [if_neg (by omega), if_neg h1]
theorem least_lst {l : List (Nat × List Nat)} (h : l ≠ []) (x : Nat × List Nat) : least l x = if (lst l).1 < x.1 then lst l else x := by
  cases l with
  | nil => exact absurd rfl h
  | cons y l => exact least_if l y x
theorem lst_append {a b : List (Nat × List Nat)} (h : a ≠ []) : lst (a ++ b) = least b (lst a) := by
  cases a with
  | nil => exact absurd rfl h
  | cons y a => exact least_append a b y
theorem least_flat {α : Type} (F : α → List (Nat × List Nat)) : ∀ (S : List α), (∀ a ∈ S, F a ≠ []) → ∀ x, least (S.flatMap F) x = least (S.map fun a => lst (F a)) x
  | [], _, _ => rfl
  | a :: S, h, x => by
    rw [List.flatMap_cons, least_append, List.map_cons]
    rw [least_lst (h a List.mem_cons_self) x]
    rw [least_flat F S (fun b hb => h b (List.mem_cons_of_mem _ hb))]
    rfl
theorem lst_flat {α : Type} (F : α → List (Nat × List Nat)) {S : List α} (h : ∀ a ∈ S, F a ≠ []) : lst (S.flatMap F) = lst (S.map fun a => lst (F a)) := by
  cases S with
  | nil => rfl
  | cons a S =>
    rw [List.flatMap_cons, lst_append (h a List.mem_cons_self), least_flat F S (fun b hb => h b (List.mem_cons_of_mem _ hb))]
    rfl
theorem least_shift (c a : Nat) : ∀ (l : List (Nat × List Nat)) (x : Nat × List Nat), least (l.map fun p => (c + p.1, a :: p.2)) (c + x.1, a :: x.2) = (c + (least l x).1, a :: (least l x).2)
  | [], _ => rfl
  | y :: l, x => by
    show least (l.map fun p => (c + p.1, a :: p.2)) (if c + y.1 < c + x.1 then (c + y.1, a :: y.2) else (c + x.1, a :: x.2)) = (c + (least l (if y.1 < x.1 then y else x)).1, a :: (least l (if y.1 < x.1 then y else x)).2)
    by_cases h : y.1 < x.1
    · rw [if_pos (by omega), if_pos h]; exact least_shift c a l y
    · rw [if_neg (by omega), if_neg h]; exact least_shift c a l x
theorem lst_shift (c a : Nat) {l : List (Nat × List Nat)} (h : l ≠ []) : lst (l.map fun p => (c + p.1, a :: p.2)) = (c + (lst l).1, a :: (lst l).2) := by
  cases l with
  | nil => exact absurd rfl h
  | cons y l => exact least_shift c a l y
/-! Orders of some. -/
def without (S : List Nat) (a : Nat) : List Nat := S.filter fun b => b != a
theorem orders_succ (k : Nat) (S : List Nat) : orders (k + 1) S = S.flatMap fun a => (orders k (without S a)).map fun o => a :: o := rfl
theorem without_nodup {S : List Nat} (h : S.Nodup) (a : Nat) : (without S a).Nodup := h.filter _
theorem without_length : ∀ {S : List Nat} {a : Nat}, S.Nodup → a ∈ S → (without S a).length + 1 = S.length
  | [], a, _, h => nomatch h
  | x :: S, a, hn, h => by
    have hx : x ∉ S := (List.nodup_cons.mp hn).1
    have hS := (List.nodup_cons.mp hn).2
    unfold without
    rw [List.filter_cons]
    by_cases e : x = a
    · subst e
      rw [if_neg (by simp)]
      have : S.filter (fun b => b != x) = S := List.filter_eq_self.mpr fun b hb => by
        have : b ≠ x := fun q => hx (q ▸ hb)
        simpa using this
      rw [this]; rfl
    · rw [if_pos (by simpa using e)]
      have ha : a ∈ S := (List.mem_cons.mp h).resolve_left (fun q => e q.symm)
      have ih := without_length hS ha
      unfold without at ih
      rw [List.length_cons, List.length_cons, ih]
theorem perm_without {S : List Nat} {a : Nat} (hn : S.Nodup) (h : a ∈ S) : List.Perm (a :: without S a) S := by
  refine (List.perm_ext_iff_of_nodup ?_ hn).mpr fun b => ?_
  · refine List.nodup_cons.mpr ⟨?_, without_nodup hn a⟩
    unfold without
    simp
  · unfold without
    by_cases e : b = a
    · subst e; simp [h]
    · simp [e]
theorem orders_perm : ∀ {k : Nat} {S : List Nat}, S.Nodup → S.length = k → ∀ o ∈ orders k S, List.Perm o S
  | 0, S, _, hl, o, ho => by
    have e : S = [] := List.length_eq_zero_iff.mp hl
    subst e
    have : o = [] := by simpa [orders] using ho
    rw [this]
  | k + 1, S, hn, hl, o, ho => by
    rw [orders_succ] at ho
    obtain ⟨a, ha, ho⟩ := List.mem_flatMap.mp ho
    obtain ⟨q, hq, rfl⟩ := List.mem_map.mp ho
    have h1 := without_length hn ha
    have ih := orders_perm (k := k) (without_nodup hn a) (by omega) q hq
    exact (List.Perm.cons a ih).trans (perm_without hn ha)
theorem orders_ne : ∀ {k : Nat} {S : List Nat}, S.Nodup → S.length = k → orders k S ≠ []
  | 0, S, _, _ => by simp [orders]
  | k + 1, S, hn, hl => by
    cases S with
    | nil => cases hl
    | cons a S =>
      have h1 := without_length hn (List.mem_cons_self (a := a) (l := S))
      have ih := orders_ne (k := k) (without_nodup hn a) (by omega)
      rw [orders_succ]
      cases e : orders k (without (a :: S) a) with
      | nil => exact absurd e ih
      | cons q r =>
        rw [List.flatMap_cons, e]
        simp
/-! What goes against an order, by its first. -/
theorem foldl_add (l : List Nat) : ∀ c, l.foldl (· + ·) c = c + l.sum := by
  induction l with
  | nil => intro c; simp
  | cons a l ih => intro c; rw [List.foldl_cons, ih, List.sum_cons]; omega
def row (l : List Ranks) (a : Nat) (T : List Nat) : Nat := (T.map fun b => prefer l b a).sum
theorem against_cons (l : List Ranks) (a : Nat) (o : List Nat) : against l (a :: o) = row l a o + against l o := by
  show (o.map fun b => prefer l b a).foldl (· + ·) 0 + against l o = _
  rw [foldl_add, Nat.zero_add]; rfl
theorem row_perm {l : List Ranks} {a : Nat} {S T : List Nat} (h : List.Perm S T) : row l a S = row l a T := (h.map _).sum_nat
/-- the best of some, by the first candidate -/
def bst (l : List Ranks) : Nat → List Nat → Nat × List Nat
  | 0, _ => (0, [])
  | k + 1, S => lst (S.map fun a => (row l a (without S a) + (bst l k (without S a)).1, a :: (bst l k (without S a)).2))
theorem bst_eq (l : List Ranks) : ∀ (k : Nat) (S : List Nat), S.Nodup → S.length = k → bst l k S = lst ((orders k S).map fun o => (against l o, o))
  | 0, S, _, _ => rfl
  | k + 1, S, hn, hl => by
    have hT : ∀ a ∈ S, (without S a).length = k := fun a ha => by have := without_length hn ha; omega
    have e1 : (orders (k + 1) S).map (fun o => (against l o, o)) = S.flatMap fun a => (orders k (without S a)).map fun o => (against l (a :: o), a :: o) := by
      rw [orders_succ, List.map_flatMap]
      congr 1
      funext a
      rw [List.map_map]; rfl
    rw [e1, lst_flat]
    · show lst (S.map _) = lst (S.map _)
      congr 1
      refine List.map_congr_left fun a ha => ?_
      have ih := bst_eq l k (without S a) (without_nodup hn a) (hT a ha)
      have e2 : (orders k (without S a)).map (fun o => (against l (a :: o), a :: o)) = ((orders k (without S a)).map fun o => (against l o, o)).map fun p => (row l a (without S a) + p.1, a :: p.2) := by
        rw [List.map_map]
        refine List.map_congr_left fun o ho => ?_
        have hp := orders_perm (without_nodup hn a) (hT a ha) o ho
        show (against l (a :: o), a :: o) = (row l a (without S a) + against l o, a :: o)
        rw [against_cons, row_perm hp]
      rw [e2, lst_shift _ _ (by simpa using orders_ne (without_nodup hn a) (hT a ha)), ← ih]
    · intro a ha
      simpa using orders_ne (without_nodup hn a) (hT a ha)
theorem best_bst (n : Nat) (l : List Ranks) : best n l = bst l n (List.range n) := by
  rw [best_eq, bst_eq l n _ List.nodup_range List.length_range]
/-! Ballots in whichever order. -/
theorem prefer_perm {l m : List Ranks} (h : List.Perm l m) (a b : Nat) : prefer l a b = prefer m a b := (h.filter _).length_eq
theorem insert_perm (x : Ballot) : ∀ l, List.Perm (Km349.insert x l) (x :: l)
  | [] => List.Perm.refl _
  | y :: l => by
    unfold Km349.insert
    split
    · exact List.Perm.refl _
    · exact ((insert_perm x l).cons y).trans (List.Perm.swap x y l)
end Od
namespace Ms
open Km349
/-! Bits: x ^^^ y by + and &&&. -/
theorem xor_and : ∀ (x y : Nat), (x ^^^ y) + 2 * (x &&& y) = x + y := by
  intro x
  induction x using Nat.strongRecOn with
  | ind x ih =>
    intro y
    by_cases h0 : x = 0
    · subst h0; simp
    · have hx := ih (x / 2) (by omega) (y / 2)
      have e1 : (x ^^^ y) / 2 = x / 2 ^^^ y / 2 := Nat.xor_div_two
      have e2 : (x &&& y) / 2 = x / 2 &&& y / 2 := Nat.and_div_two
      have e3 : (x ^^^ y) % 2 = (x % 2 + y % 2) % 2 := by
        have := Nat.xor_mod_two_pow (a := x) (b := y) (n := 1)
        simp only [Nat.pow_one] at this
        rw [this]
        rcases Nat.mod_two_eq_zero_or_one x with a | a <;> rcases Nat.mod_two_eq_zero_or_one y with b | b <;> rw [a, b] <;> rfl
      have e4 : (x &&& y) % 2 = (x % 2) * (y % 2) := by
        have := Nat.and_mod_two_pow (a := x) (b := y) (n := 1)
        simp only [Nat.pow_one] at this
        rw [this]
        rcases Nat.mod_two_eq_zero_or_one x with a | a <;> rcases Nat.mod_two_eq_zero_or_one y with b | b <;> rw [a, b] <;> rfl
      have h1 := Nat.div_add_mod (x ^^^ y) 2
      have h2 := Nat.div_add_mod (x &&& y) 2
      have h3 := Nat.div_add_mod x 2
      have h4 := Nat.div_add_mod y 2
      rw [e1, e3] at h1
      rw [e2, e4] at h2
      rcases Nat.mod_two_eq_zero_or_one x with a | a <;> rcases Nat.mod_two_eq_zero_or_one y with b | b <;> rw [a, b] at h1 h2 <;> simp at h1 h2 <;> omega
/-! The check. -/
def turns (i c : Nat) : Nat := (List.range i).foldl (fun x _ => crcBit x) c
theorem turns_succ (i c : Nat) : turns (i + 1) c = crcBit (turns i c) := by
  unfold turns
  rw [List.range_succ, List.foldl_append]
  rfl
def sofar (l : List Nat) : Nat := l.foldl crcByte 0xFFFFFFFF
theorem sofar_snoc (l : List Nat) (b : Nat) : sofar (l ++ [b]) = turns 8 (sofar l ^^^ b) := by
  unfold sofar
  rw [List.foldl_append]
  rfl
/-! Numbers by bytes. -/
theorem le4 (v : Nat) : le 4 v = [v % 256, v / 256 % 256, v / 65536 % 256, v / 16777216 % 256] := by
  show [v / 256 ^ 0 % 256, v / 256 ^ 1 % 256, v / 256 ^ 2 % 256, v / 256 ^ 3 % 256] = _
  simp
theorem le_length (w v : Nat) : (le w v).length = w := by unfold le; simp
def num4v (a b c d : Nat) : Nat := a + 256 * (b + 256 * (c + 256 * d))
/-! A list of twenty by its parts. -/
theorem twenty {l : List Nat} (h : l.length = 20) : ∃ a0 a1 a2 a3 a4 a5 a6 a7 a8 a9 a10 a11 a12 a13 a14 a15 a16 a17 a18 a19, l = [a0, a1, a2, a3, a4, a5, a6, a7, a8, a9, a10, a11, a12, a13, a14, a15, a16, a17, a18, a19] := by
  match l, h with
  | [a0, a1, a2, a3, a4, a5, a6, a7, a8, a9, a10, a11, a12, a13, a14, a15, a16, a17, a18, a19], _ => exact ⟨a0, a1, a2, a3, a4, a5, a6, a7, a8, a9, a10, a11, a12, a13, a14, a15, a16, a17, a18, a19, rfl⟩
end Ms
namespace Fl
open Km349 Km349Neutral
/-- a call by its shape, or none that is asked -/
theorem shapes (P : List (List Int) → Prop) (h0 : ∀ k x y, P [[0, k, x, y]]) (h1 : ∀ k r, P [[1, k], r]) (h2 : ∀ k, P [[2, k]]) (h3 : ∀ k x, P [[3, k, x]]) (h4 : ∀ k x y, P [[4, k, x, y]]) (h5 : ∀ k r, P [[5, k], r])
    (h6 : ∀ k x, P [[6, k, x]]) (h7 : ∀ k x y, P [[7, k, x, y]]) (h8 : ∀ k, P [[8, k]]) (h9 : ∀ k r, P [[9, k], r]) (hN : ∀ c, asked1 c = false → PyKm349.whole c = c → P c) : ∀ c, P c := by
  intro c
  cases c with
  | nil => exact hN _ rfl rfl
  | cons h t =>
    cases h with
    | nil => exact hN _ rfl rfl
    | cons p r =>
      cases p with
      | negSucc n => exact hN _ rfl rfl
      | ofNat n =>
        rcases n with _ | _ | _ | _ | _ | _ | _ | _ | _ | _ | n
        all_goals rcases r with _ | ⟨a, _ | ⟨b, _ | ⟨d, _ | ⟨e, r⟩⟩⟩⟩
        all_goals rcases t with _ | ⟨u, _ | ⟨v, t⟩⟩
        all_goals first | exact hN _ rfl rfl | exact h0 _ _ _ | exact h1 _ _ | exact h2 _ | exact h3 _ _ | exact h4 _ _ _ | exact h5 _ _ | exact h6 _ _ | exact h7 _ _ _ | exact h8 _ | exact h9 _ _
theorem whole_id (c : List (List Int)) : PyKm349.whole c = c :=
  shapes (fun c => PyKm349.whole c = c) (fun _ _ _ => rfl) (fun _ _ => rfl) (fun _ => rfl) (fun _ _ => rfl) (fun _ _ _ => rfl) (fun _ _ => rfl) (fun _ _ => rfl) (fun _ _ _ => rfl) (fun _ => rfl) (fun _ _ => rfl) (fun _ _ h => h) c
theorem calls_some {l : List Int} {cs : List (List (List Int))} (h : PyFlat.calls PyKm349.shape l.length l = some cs) : PyKm349.calls l = some cs := by
  unfold PyKm349.calls
  rw [h]
  show some (cs.map PyKm349.whole) = some cs
  congr 1
  exact List.map_id'' whole_id cs
/-- what is asked of a list of calls, and what is due -/
theorem asked_of {l : List Int} (h : PyKm349.answers_asked l = true) : ∃ cs, PyFlat.calls PyKm349.shape l.length l = some cs ∧ PyKm349.answers l = PyFlat.told (PyFlat.played step start cs) ∧ cs.length ≤ 5000 ∧ cs.all asked1 = true ∧ may start cs = true := by
  cases e : PyFlat.calls PyKm349.shape l.length l with
  | none =>
    unfold PyKm349.answers_asked PyKm349.calls at h
    rw [e] at h
    cases h
  | some cs =>
    have e2 := calls_some e
    unfold PyKm349.answers_asked at h
    rw [e2] at h
    have h' : (decide (cs.length ≤ 5000) && (decide (1 ≤ cs.length) && (decide (cs.length ≤ 5000) && (cs.all asked1 && may start cs)))) = true := h
    simp only [Bool.and_eq_true, decide_eq_true_eq] at h'
    refine ⟨cs, rfl, ?_, h'.1, h'.2.2.2.1, h'.2.2.2.2⟩
    unfold PyKm349.answers
    rw [e2]
/-- the next call of a list -/
theorem calls_cons {f : Nat} {l : List Int} {cs : List (List (List Int))} (hl : l ≠ []) (h : PyFlat.calls PyKm349.shape f l = some cs) :
    ∃ g c t ds, PyFlat.call PyKm349.shape l = some (c, t) ∧ PyFlat.calls PyKm349.shape g t = some ds ∧ cs = c :: ds := by
  cases l with
  | nil => exact absurd rfl hl
  | cons p r =>
    cases f with
    | zero => cases h
    | succ f =>
      have h' : (match PyFlat.call PyKm349.shape (p :: r) with
        | none => none
        | some (c, t) => match PyFlat.calls PyKm349.shape f t with
          | none => none
          | some cs => some (c :: cs)) = some cs := h
      cases e : PyFlat.call PyKm349.shape (p :: r) with
      | none => rw [e] at h'; cases h'
      | some q =>
        obtain ⟨c, t⟩ := q
        rw [e] at h'
        have h2 : (match PyFlat.calls PyKm349.shape f t with
          | none => none
          | some cs => some (c :: cs)) = some cs := h'
        cases e2 : PyFlat.calls PyKm349.shape f t with
        | none => rw [e2] at h2; cases h2
        | some ds =>
          rw [e2] at h2
          exact ⟨f, c, t, ds, rfl, e2, (Option.some.inj h2).symm⟩
theorem calls_nil {f : Nat} {cs : List (List (List Int))} (h : PyFlat.calls PyKm349.shape f [] = some cs) : cs = [] := by
  cases f <;> exact (Option.some.inj h).symm
theorem nat_of {z : Int} {b : Nat} (h : natural z b = true) : 0 ≤ z ∧ z < 2 ^ b := by
  unfold natural at h
  simpa using h
theorem row_of {r : List Int} {n : Nat} (h : (decide (r.length = n) && r.all fun z => natural z 8) = true) : r.length = n ∧ ∀ z ∈ r, 0 ≤ z ∧ z < 256 := by
  simp only [Bool.and_eq_true, decide_eq_true_eq, List.all_eq_true] at h
  exact ⟨h.1, fun z hz => nat_of (h.2 z hz)⟩
/-- a call, by its kind -/
inductive Is : List (List Int) → Prop
  | c0 {k x y : Int} : 0 ≤ k → 0 ≤ x → x < 2 ^ 32 → 0 ≤ y → y < 2 ^ 32 → Is [[0, k, x, y]]
  | c1 {k : Int} {r : List Int} : 0 ≤ k → r.length = 8 → (∀ z ∈ r, 0 ≤ z ∧ z < 256) → Is [[1, k], r]
  | c2 {k : Int} : 0 ≤ k → Is [[2, k]]
  | c3 {k x : Int} : 0 ≤ k → 0 ≤ x → x < 2 ^ 32 → Is [[3, k, x]]
  | c4 {k x y : Int} : 0 ≤ k → 0 ≤ x → x < 2 ^ 32 → 0 ≤ y → y < 2 ^ 32 → Is [[4, k, x, y]]
  | c5 {k : Int} {r : List Int} : 0 ≤ k → r.length = 20 → (∀ z ∈ r, 0 ≤ z ∧ z < 256) → Is [[5, k], r]
  | c6 {k x : Int} : 0 ≤ k → 0 ≤ x → x < 2 ^ 32 → Is [[6, k, x]]
  | c7 {k x y : Int} : 0 ≤ k → 0 ≤ x → x < 2 ^ 32 → 0 ≤ y → y < 2 ^ 32 → Is [[7, k, x, y]]
  | c8 {k : Int} : 0 ≤ k → Is [[8, k]]
  | c9 {k : Int} {r : List Int} : 0 ≤ k → r.length = 8 → (∀ z ∈ r, 0 ≤ z ∧ z < 256) → Is [[9, k], r]
theorem and3 {a b c : Bool} (h : (a && b && c) = true) : a = true ∧ b = true ∧ c = true := by
  rw [Bool.and_eq_true, Bool.and_eq_true] at h
  exact ⟨h.1.1, h.1.2, h.2⟩
theorem and2 {a b : Bool} (h : (a && b) = true) : a = true ∧ b = true := by
  rw [Bool.and_eq_true] at h
  exact h
theorem is_of {c : List (List Int)} (h : asked1 c = true) : Is c :=
  shapes (fun c => asked1 c = true → Is c) (fun _ _ _ h => have q := and3 h; .c0 (nat_of q.1).1 (nat_of q.2.1).1 (nat_of q.2.1).2 (nat_of q.2.2).1 (nat_of q.2.2).2) (fun _ _ h => have q := and2 h; .c1 (nat_of q.1).1 (row_of q.2).1 (row_of q.2).2) (fun _ h => .c2 (nat_of h).1)
    (fun _ _ h => have q := and2 h; .c3 (nat_of q.1).1 (nat_of q.2).1 (nat_of q.2).2) (fun _ _ _ h => have q := and3 h; .c4 (nat_of q.1).1 (nat_of q.2.1).1 (nat_of q.2.1).2 (nat_of q.2.2).1 (nat_of q.2.2).2) (fun _ _ h => have q := and2 h; .c5 (nat_of q.1).1 (row_of q.2).1 (row_of q.2).2)
    (fun _ _ h => have q := and2 h; .c6 (nat_of q.1).1 (nat_of q.2).1 (nat_of q.2).2) (fun _ _ _ h => have q := and3 h; .c7 (nat_of q.1).1 (nat_of q.2.1).1 (nat_of q.2.1).2 (nat_of q.2.2).1 (nat_of q.2.2).2) (fun _ h => .c8 (nat_of h).1) (fun _ _ h => have q := and2 h; .c9 (nat_of q.1).1 (row_of q.2).1 (row_of q.2).2)
    (fun _ h0 _ h => absurd (h0.symm.trans h) (by decide)) c h
/-- the numbers of a call in the flat list -/
def flat : List (List Int) → List Int
  | [h] => h
  | [h, r] => h ++ (r.length : Int) :: r
  | _ => []
theorem rows0 {r : List Int} {xs : List (List Int)} {t : List Int} (h : PyFlat.rows 0 r = some (xs, t)) : xs = [] ∧ t = r := by
  have e : (([] : List (List Int)), r) = (xs, t) := Option.some.inj h
  exact ⟨(Prod.mk.inj e).1.symm, (Prod.mk.inj e).2.symm⟩
theorem rows1 {r : List Int} {xs : List (List Int)} {t : List Int} (h : PyFlat.rows 1 r = some (xs, t)) : ∃ x, xs = [x] ∧ r = (x.length : Int) :: (x ++ t) := by
  have h' : (match PyFlat.row r with
    | none => none
    | some (x, s) => match PyFlat.rows 0 s with
      | none => none
      | some (xs, t) => some (x :: xs, t)) = some (xs, t) := h
  cases r with
  | nil => cases h'
  | cons n r =>
    have er : PyFlat.row (n :: r) = if 0 ≤ n ∧ n.toNat ≤ r.length then some (r.take n.toNat, r.drop n.toNat) else none := rfl
    rw [er] at h'
    by_cases c : 0 ≤ n ∧ n.toNat ≤ r.length
    · rw [if_pos c] at h'
      have e : ([r.take n.toNat], r.drop n.toNat) = (xs, t) := Option.some.inj h'
      obtain ⟨e1, e2⟩ := Prod.mk.inj e
      refine ⟨r.take n.toNat, e1.symm, ?_⟩
      rw [← e2, List.take_append_drop, List.length_take]
      congr 1
      omega
    · rw [if_neg c] at h'
      cases h'
theorem call_of {shape : Int → Option (Nat × Nat)} {l : List Int} {c : List (List Int)} {t : List Int} (h : PyFlat.call shape l = some (c, t)) :
    ∃ p r n k xs, l = p :: r ∧ shape p = some (n, k) ∧ n ≤ r.length ∧ PyFlat.rows k (r.drop n) = some (xs, t) ∧ c = (p :: r.take n) :: xs := by
  cases l with
  | nil => cases h
  | cons p r =>
    have h' : (match shape p with
      | none => none
      | some (n, k) => if r.length < n then none else match PyFlat.rows k (r.drop n) with
        | none => none
        | some (xs, t) => some ((p :: r.take n) :: xs, t)) = some (c, t) := h
    cases e : shape p with
    | none => rw [e] at h'; cases h'
    | some q =>
      obtain ⟨n, k⟩ := q
      rw [e] at h'
      have h2 : (if r.length < n then none else match PyFlat.rows k (r.drop n) with
        | none => none
        | some (xs, t) => some ((p :: r.take n) :: xs, t)) = some (c, t) := h'
      by_cases hn : r.length < n
      · rw [if_pos hn] at h2; cases h2
      · rw [if_neg hn] at h2
        cases e3 : PyFlat.rows k (r.drop n) with
        | none => rw [e3] at h2; cases h2
        | some q =>
          obtain ⟨xs, t'⟩ := q
          rw [e3] at h2
          obtain ⟨e4, e5⟩ := Prod.mk.inj (Option.some.inj h2)
          subst e5
          exact ⟨p, r, n, k, xs, rfl, e, by omega, e3, e4.symm⟩
theorem shape_rows {p : Int} {n k : Nat} (h : PyKm349.shape p = some (n, k)) : k = 0 ∨ k = 1 := by
  unfold PyKm349.shape at h
  repeat (split at h; · (have e := Prod.mk.inj (Option.some.inj h); omega))
  cases h
theorem call_flat {l : List Int} {c : List (List Int)} {t : List Int} (h : PyFlat.call PyKm349.shape l = some (c, t)) : l = flat c ++ t := by
  obtain ⟨p, r, n, k, xs, rfl, hs, hn, hr, rfl⟩ := call_of h
  rcases shape_rows hs with rfl | rfl
  · obtain ⟨rfl, ht⟩ := rows0 hr
    show p :: r = p :: (r.take n ++ t)
    rw [ht, List.take_append_drop]
  · obtain ⟨x, rfl, ht⟩ := rows1 hr
    show p :: r = ((p :: r.take n) ++ (x.length : Int) :: x) ++ t
    rw [List.append_assoc]
    show p :: r = p :: (r.take n ++ (x.length : Int) :: (x ++ t))
    rw [← ht, List.take_append_drop]
theorem may_cons {s : S} {c : Km349Neutral.Call} {l : List Km349Neutral.Call} (h : may s (c :: l) = true) : (step s c).2 ≠ [] ∧ may (step s c).1 l = true := by
  have h' : (!((step s c).2.isEmpty) && may (step s c).1 l) = true := h
  rw [Bool.and_eq_true] at h'
  refine ⟨fun e => ?_, h'.2⟩
  have := h'.1
  rw [e] at this
  cases this
/-! What a step is, call by call. -/
theorem step_c1 (s : S) (k : Int) (r : List Int) : step s [[1, k], r] = step0 s k.toNat (.bVote (nats r)) := rfl
theorem step_c5 (s : S) (k : Int) (r : List Int) : step s [[5, k], r] = step1 s k.toNat (.oHeard (nats r)) := rfl
theorem step_c9 (s : S) (k : Int) (r : List Int) : step s [[9, k], r] = step1 s k.toNat (.oAgainst (nats r)) := rfl
theorem set_getD {α : Type} : ∀ {l : List (Option α)} {k : Nat} {a : α}, l.getD k none = some a → l.set k (some a) = l
  | [], k, a, h => by cases h
  | x :: l, 0, a, h => by
    have e : x = some a := h
    rw [e]; rfl
  | x :: l, k + 1, a, h => by
    show x :: l.set k (some a) = x :: l
    rw [set_getD (l := l) (k := k) (a := a) h]
/-- a booth's start -/
theorem step_bStart (s : S) {k : Nat} (hk : k < 4) (me n : Nat) : step0 s k (.bStart me n) = if BOOTHS ≤ me ∨ okCandidates n = false then (s, [-22]) else ((s.1.set k (some ⟨me, n, [], false⟩), s.2), [0]) := by
  unfold step0
  rw [if_neg (by omega)]
  cases e : s.1.getD k none with
  | none =>
    show (if isStart (.bStart me n) = true then _ else _) = _
    rw [if_pos (show isStart (.bStart me n) = true from rfl)]
    unfold bDoes
    by_cases c : BOOTHS ≤ me ∨ okCandidates n = false
    · rw [if_pos c]; simp only [if_pos c]; rfl
    · rw [if_neg c]; simp only [if_neg c]; rfl
  | some a =>
    show ((s.1.set k (some (bDoes a (.bStart me n)).1), s.2), told (bDoes a (.bStart me n)).2) = _
    unfold bDoes
    by_cases c : BOOTHS ≤ me ∨ okCandidates n = false
    · simp only [if_pos c]
      rw [set_getD e]; rfl
    · simp only [if_neg c]; rfl
/-- the office's start -/
theorem step_oStart (s : S) {k : Nat} (hk : k < 1) (n m : Nat) : step1 s k (.oStart n m) = if okCandidates n = false ∨ m = 0 ∨ BOOTHS < m then (s, [-22]) else ((s.1, s.2.set k (some (office0 n m))), [0]) := by
  unfold step1
  rw [if_neg (by omega)]
  cases e : s.2.getD k none with
  | none =>
    show (if isStart (.oStart n m) = true then _ else _) = _
    rw [if_pos (show isStart (.oStart n m) = true from rfl)]
    unfold oDoes
    by_cases c : okCandidates n = false ∨ m = 0 ∨ BOOTHS < m
    · rw [if_pos c]; simp only [if_pos c]; rfl
    · rw [if_neg c]; simp only [if_neg c]; rfl
  | some a =>
    show ((s.1, s.2.set k (some (oDoes a (.oStart n m)).1)), told (oDoes a (.oStart n m)).2) = _
    unfold oDoes
    by_cases c : okCandidates n = false ∨ m = 0 ∨ BOOTHS < m
    · simp only [if_pos c]
      rw [set_getD e]; rfl
    · simp only [if_neg c]; rfl
/-- any other call of a booth, where it is allowed -/
theorem step0_some {s : S} {k : Nat} {c : Km349.Call} (h : (step0 s k c).2 ≠ []) (hs : isStart c = false) : k < 4 ∧ ∃ a, s.1.getD k none = some a ∧ step0 s k c = ((s.1.set k (some (bDoes a c).1), s.2), told (bDoes a c).2) := by
  unfold step0 at h ⊢
  by_cases hk : 4 ≤ k
  · rw [if_pos hk] at h; exact absurd rfl h
  · rw [if_neg hk] at h ⊢
    refine ⟨by omega, ?_⟩
    cases e : s.1.getD k none with
    | none =>
      rw [e] at h
      have h' : (if isStart c = true then _ else (s, ([] : List Int))).2 ≠ [] := h
      rw [if_neg (by rw [hs]; decide)] at h'
      exact absurd rfl h'
    | some a => exact ⟨a, rfl, rfl⟩
theorem step1_some {s : S} {k : Nat} {c : Km349.Call} (h : (step1 s k c).2 ≠ []) (hs : isStart c = false) : k = 0 ∧ ∃ a, s.2.getD k none = some a ∧ step1 s k c = ((s.1, s.2.set k (some (oDoes a c).1)), told (oDoes a c).2) := by
  unfold step1 at h ⊢
  by_cases hk : 1 ≤ k
  · rw [if_pos hk] at h; exact absurd rfl h
  · rw [if_neg hk] at h ⊢
    refine ⟨by omega, ?_⟩
    cases e : s.2.getD k none with
    | none =>
      rw [e] at h
      have h' : (if isStart c = true then _ else (s, ([] : List Int))).2 ≠ [] := h
      rw [if_neg (by rw [hs]; decide)] at h'
      exact absurd rfl h'
    | some a => exact ⟨a, rfl, rfl⟩
theorem step0_lt {s : S} {k : Nat} {c : Km349.Call} (h : (step0 s k c).2 ≠ []) : k < 4 := by
  unfold step0 at h
  by_cases hk : 4 ≤ k
  · rw [if_pos hk] at h; exact absurd rfl h
  · omega
theorem step1_lt {s : S} {k : Nat} {c : Km349.Call} (h : (step1 s k c).2 ≠ []) : k < 1 := by
  unfold step1 at h
  by_cases hk : 1 ≤ k
  · rw [if_pos hk] at h; exact absurd rfl h
  · omega
/-! Ranks, by their places. -/
def fits (i : Nat) (r n : Int) : Bool := if (i : Int) < n then decide (1 ≤ r) && decide (r ≤ n) else decide (r = 0)
def allFit : Nat → Int → List Int → Bool
  | _, _, [] => true
  | i, n, r :: l => fits i r n && allFit (i + 1) n l
theorem allFit_iff (n : Int) : ∀ (l : List Int) (i : Nat), allFit i n l = true ↔ ∀ (j : Nat) (r : Int), l[j]? = some r → fits (i + j) r n = true
  | [], i => by simp [allFit]
  | r :: l, i => by
    have ih := allFit_iff n l (i + 1)
    rw [allFit, Bool.and_eq_true, ih]
    constructor
    · rintro ⟨h1, h2⟩ j x hx
      cases j with
      | zero =>
        have e : r = x := Option.some.inj hx
        subst e; exact h1
      | succ j =>
        have := h2 j x hx
        rw [show i + (j + 1) = i + 1 + j by omega]; exact this
    · intro h
      refine ⟨h 0 r rfl, fun j x hx => ?_⟩
      have := h (j + 1) x hx
      rw [show i + 1 + j = i + (j + 1) by omega]; exact this
theorem getD_nats (l : List Int) (i : Nat) : (nats l).getD i 0 = (l.getD i 0).toNat := by
  unfold nats
  rw [List.getD_eq_getElem?_getD, List.getElem?_map, List.getD_eq_getElem?_getD]
  cases l[i]? <;> rfl
theorem okRanks_fit {n : Nat} {l : List Int} (hn : n ≤ 8) (hl : l.length = 8) (hb : ∀ z ∈ l, 0 ≤ z ∧ z < 256) : okRanks n (nats l) = allFit 0 n l := by
  have hlen : (nats l).length = 8 := by unfold nats; rw [List.length_map, hl]
  rw [Bool.eq_iff_iff, allFit_iff]
  unfold okRanks PLACES
  simp only [Bool.and_eq_true, beq_iff_eq, List.all_eq_true, decide_eq_true_eq, List.mem_range]
  constructor
  · rintro ⟨_, h1, h2⟩ j r hr
    have hj : j < 8 := by have := (List.getElem?_eq_some_iff.mp hr).1; omega
    have hz := hb r (List.mem_of_getElem? hr)
    have eg : (nats l).getD j 0 = r.toNat := by rw [getD_nats, List.getD_eq_getElem?_getD, hr]; rfl
    unfold fits
    rw [Nat.zero_add]
    by_cases c : (j : Int) < n
    · rw [if_pos c]
      have := h1 j (by omega)
      rw [eg] at this
      simp only [Bool.and_eq_true, decide_eq_true_eq]
      omega
    · rw [if_neg c]
      have hm : (nats l)[j]? = some r.toNat := by unfold nats; rw [List.getElem?_map, hr]; rfl
      have hd : ((nats l).drop n)[j - n]? = some r.toNat := by rw [List.getElem?_drop, show n + (j - n) = j by omega]; exact hm
      have := h2 _ (List.mem_of_getElem? hd)
      simp only [decide_eq_true_eq]
      omega
  · intro h
    refine ⟨hlen, fun i hi => ?_, fun x hx => ?_⟩
    · have hi8 : i < l.length := by omega
      have hr : l[i]? = some l[i] := List.getElem?_eq_getElem hi8
      have := h i _ hr
      unfold fits at this
      rw [Nat.zero_add, if_pos (by omega)] at this
      simp only [Bool.and_eq_true, decide_eq_true_eq] at this
      rw [getD_nats, List.getD_eq_getElem?_getD, hr]
      show 1 ≤ (l[i]).toNat ∧ (l[i]).toNat ≤ n
      omega
    · obtain ⟨j, hj⟩ := List.mem_iff_getElem?.mp hx
      rw [List.getElem?_drop] at hj
      unfold nats at hj
      rw [List.getElem?_map] at hj
      obtain ⟨r, hr, rfl⟩ := Option.map_eq_some_iff.mp hj
      have := h (n + j) r hr
      unfold fits at this
      rw [Nat.zero_add, if_neg (by omega)] at this
      simp only [decide_eq_true_eq] at this
      omega
end Fl
namespace Dp
open Km349 Od
/-! Sets of candidates as numbers. -/
def has (m c : Nat) : Bool := m / 2 ^ c % 2 == 1
def mem (n m : Nat) : List Nat := (List.range n).filter fun c => has m c
theorem mem_nodup (n m : Nat) : (mem n m).Nodup := List.nodup_range.filter _
theorem mem_mem {n m c : Nat} : c ∈ mem n m ↔ c < n ∧ has m c = true := by
  unfold mem
  rw [List.mem_filter, List.mem_range]
theorem mem_sorted (n m : Nat) : (mem n m).Pairwise (· < ·) := List.Pairwise.filter _ List.pairwise_lt_range
theorem pow_split (a c : Nat) (h : c < a) : 2 ^ a = 2 ^ c * (2 * 2 ^ (a - c - 1)) := by
  rw [← Nat.mul_assoc, ← Nat.pow_succ, ← Nat.pow_add]
  congr 1
  omega
theorem odd_less {y : Nat} (h : y % 2 = 1) : (y - 1) % 2 = 0 := by omega
theorem odd_half {y : Nat} (h : y % 2 = 1) : (y - 1) / 2 = y / 2 := by omega
theorem has_sub {m a : Nat} (h : has m a = true) (c : Nat) : has (m - 2 ^ a) c = (has m c && c != a) := by
  unfold has at h ⊢
  have hp : 0 < 2 ^ a := Nat.two_pow_pos a
  have hc : 0 < 2 ^ c := Nat.two_pow_pos c
  have h1 : m / 2 ^ a % 2 = 1 := by simpa using h
  have hge : 2 ^ a ≤ m := by
    refine Nat.le_of_not_lt fun lt => ?_
    rw [Nat.div_eq_of_lt lt] at h1
    cases h1
  rcases Nat.lt_trichotomy c a with lt | e | gt
  · have hs := pow_split a c lt
    have e1 : (m - 2 ^ a) / 2 ^ c = m / 2 ^ c - 2 * 2 ^ (a - c - 1) := by
      rw [hs, Nat.sub_mul_div]
    have hle : 2 * 2 ^ (a - c - 1) ≤ m / 2 ^ c := by
      rw [Nat.le_div_iff_mul_le hc, Nat.mul_comm, ← hs]
      exact hge
    rw [e1]
    have ne : (c != a) = true := by simp; omega
    rw [ne, Bool.and_true]
    congr 1
    omega
  · subst e
    have e1 : (m - 2 ^ c) / 2 ^ c = m / 2 ^ c - 1 := by
      have := Nat.sub_mul_div m (2 ^ c) 1
      rw [Nat.mul_one] at this
      exact this
    have e2 : (m / 2 ^ c - 1) % 2 = 0 := odd_less h1
    rw [e1, e2]
    simp
  · have hs := pow_split c a gt
    have ne : (c != a) = true := by simp; omega
    rw [ne, Bool.and_true]
    have e1 : (m - 2 ^ a) / 2 ^ c = m / 2 ^ c := by
      rw [hs, ← Nat.div_div_eq_div_mul, ← Nat.div_div_eq_div_mul]
      have e2 : (m - 2 ^ a) / 2 ^ a = m / 2 ^ a - 1 := by
        have := Nat.sub_mul_div m (2 ^ a) 1
        rw [Nat.mul_one] at this
        exact this
      rw [e2, ← Nat.div_div_eq_div_mul, ← Nat.div_div_eq_div_mul, odd_half h1]
    rw [e1]
theorem mem_sub {n m a : Nat} (h : has m a = true) : mem n (m - 2 ^ a) = without (mem n m) a := by
  unfold mem without
  rw [List.filter_filter]
  refine List.filter_congr fun c _ => ?_
  rw [has_sub h, Bool.and_comm]
theorem has_ge {m a : Nat} (h : has m a = true) : 2 ^ a ≤ m := by
  unfold has at h
  have h1 : m / 2 ^ a % 2 = 1 := by simpa using h
  refine Nat.le_of_not_lt fun lt => ?_
  rw [Nat.div_eq_of_lt lt] at h1
  cases h1
theorem mem_full (n : Nat) : mem n (2 ^ n - 1) = List.range n := by
  unfold mem
  refine List.filter_eq_self.mpr fun c hc => ?_
  have hc := List.mem_range.mp hc
  unfold has
  have hs := pow_split n c hc
  have hp : 0 < 2 ^ c := Nat.two_pow_pos c
  have h2 : 0 < 2 ^ (n - c - 1) := Nat.two_pow_pos _
  have e : (2 ^ n - 1) / 2 ^ c = 2 * 2 ^ (n - c - 1) - 1 := by
    rw [Nat.div_eq_iff hp]
    rw [hs]
    generalize 2 ^ (n - c - 1) = y at *
    generalize 2 ^ c = x at *
    obtain ⟨y, rfl⟩ : ∃ z, y = z + 1 := ⟨y - 1, by omega⟩
    have e1 : x * (2 * (y + 1)) = x * (2 * y) + 2 * x := by rw [Nat.mul_add, Nat.mul_add]; omega
    have e2 : (2 * (y + 1) - 1) * x = x * (2 * y) + x := by
      rw [show 2 * (y + 1) - 1 = 2 * y + 1 by omega, Nat.add_mul, Nat.mul_comm (2 * y)]; omega
    rw [e1, e2]
    omega
  rw [e]
  simp
  omega
theorem mem_ne {n m : Nat} (h : m < 2 ^ n) (h0 : m ≠ 0) : mem n m ≠ [] := by
  induction n generalizing m with
  | zero =>
    have : m = 0 := by simpa using h
    exact absurd this h0
  | succ n ih =>
    intro e
    have hn : ∀ c, c < n + 1 → has m c = false := fun c hc => by
      cases q : has m c with
      | false => rfl
      | true =>
        have : c ∈ mem (n + 1) m := mem_mem.mpr ⟨hc, q⟩
        rw [e] at this
        cases this
    have hm : m < 2 ^ n := by
      have q := hn n (by omega)
      unfold has at q
      have q1 : ¬ m / 2 ^ n % 2 = 1 := by simpa using q
      refine Nat.lt_of_not_le fun le => q1 ?_
      have : m / 2 ^ n = 1 := by
        rw [Nat.div_eq_iff (Nat.two_pow_pos n)]
        rw [Nat.pow_succ] at h
        omega
      rw [this]
    refine ih hm h0 ?_
    unfold mem
    refine List.filter_eq_nil_iff.mpr fun c hc => ?_
    rw [hn c (by have := List.mem_range.mp hc; omega)]
    decide
/-! What the best order of a set costs, and who is its first. -/
def cost (l : List Ranks) (n m : Nat) : Nat := (bst l (mem n m).length (mem n m)).1
def way (l : List Ranks) (n m a : Nat) : Nat := row l a (without (mem n m) a) + cost l n (m - 2 ^ a)
theorem cost_zero (l : List Ranks) (n : Nat) : cost l n 0 = 0 := by
  have e : mem n 0 = [] := by
    unfold mem
    refine List.filter_eq_nil_iff.mpr fun c _ => ?_
    unfold has
    rw [Nat.zero_div]
    decide
  unfold cost
  rw [e]
  rfl
theorem bst_ways (l : List Ranks) {n m : Nat} (h : mem n m ≠ []) : bst l (mem n m).length (mem n m) = lst ((mem n m).map fun a => (way l n m a, a :: (bst l (mem n (m - 2 ^ a)).length (mem n (m - 2 ^ a))).2)) := by
  obtain ⟨k, hk⟩ : ∃ k, (mem n m).length = k + 1 := ⟨(mem n m).length - 1, by have := List.length_pos_iff.mpr h; omega⟩
  rw [hk]
  show lst ((mem n m).map _) = _
  congr 1
  refine List.map_congr_left fun a ha => ?_
  have hh := (mem_mem.mp ha).2
  have hl : (mem n (m - 2 ^ a)).length = k := by
    rw [mem_sub hh]
    have := without_length (mem_nodup n m) ha
    omega
  unfold way cost
  rw [hl, ← mem_sub hh]
/-- the least of some, the first of them -/
theorem lst_first : ∀ (S : List Nat) (f : Nat → Nat) (g : Nat → List Nat), S.Pairwise (· < ·) → ∀ a ∈ S, (∀ b ∈ S, f a < f b ∨ (f a = f b ∧ a ≤ b)) → lst (S.map fun b => (f b, g b)) = (f a, g a) := by
  have go : ∀ (S : List Nat) (f : Nat → Nat) (g : Nat → List Nat) (x : Nat), (∀ b ∈ S, x < b) → S.Pairwise (· < ·) → ∀ a ∈ x :: S, (∀ b ∈ x :: S, f a < f b ∨ (f a = f b ∧ a ≤ b)) →
      least (S.map fun b => (f b, g b)) (f x, g x) = (f a, g a) := by
    intro S f g
    induction S with
    | nil =>
      intro x _ _ a ha _
      have : a = x := by simpa using ha
      rw [this]
      rfl
    | cons y S ih =>
      intro x hx hs a ha hb
      have hs' := List.pairwise_cons.mp hs
      show least (S.map fun b => (f b, g b)) (if f y < f x then (f y, g y) else (f x, g x)) = _
      have hbx := hb x (by simp)
      have hby := hb y (by simp)
      have hxy := hx y (by simp)
      by_cases c : f y < f x
      · rw [if_pos c]
        refine ih y hs'.1 hs'.2 a ?_ fun b hb' => hb b (List.mem_cons_of_mem _ hb')
        rcases List.mem_cons.mp ha with rfl | ha
        · omega
        · exact ha
      · rw [if_neg c]
        refine ih x (fun b hb' => hx b (List.mem_cons_of_mem _ hb')) hs'.2 a ?_ fun b hb' => ?_
        · rcases List.mem_cons.mp ha with rfl | ha
          · simp
          · rcases List.mem_cons.mp ha with rfl | ha
            · omega
            · exact List.mem_cons_of_mem _ ha
        · rcases List.mem_cons.mp hb' with rfl | hb'
          · exact hbx
          · exact hb b (by simp [hb'])
  intro S f g hs a ha hb
  cases S with
  | nil => cases ha
  | cons x S =>
    have hs' := List.pairwise_cons.mp hs
    exact go S f g x hs'.1 hs'.2 a ha hb
/-- what the first is -/
theorem best_first {l : List Ranks} {n m a : Nat} (ha : a ∈ mem n m) (h : ∀ b ∈ mem n m, way l n m a < way l n m b ∨ (way l n m a = way l n m b ∧ a ≤ b)) :
    bst l (mem n m).length (mem n m) = (way l n m a, a :: (bst l (mem n (m - 2 ^ a)).length (mem n (m - 2 ^ a))).2) := by
  rw [bst_ways l (List.ne_nil_of_mem ha)]
  exact lst_first (mem n m) (way l n m) (fun a => a :: (bst l (mem n (m - 2 ^ a)).length (mem n (m - 2 ^ a))).2) (mem_sorted n m) a ha h
theorem exists_first (S : List Nat) (f : Nat → Nat) (hne : S ≠ []) : ∃ a ∈ S, ∀ b ∈ S, f a < f b ∨ (f a = f b ∧ a ≤ b) := by
  induction S with
  | nil => exact absurd rfl hne
  | cons x S ih =>
    by_cases e : S = []
    · subst e
      exact ⟨x, by simp, fun b hb => by
        have : b = x := by simpa using hb
        subst this
        exact .inr ⟨rfl, Nat.le_refl _⟩⟩
    · obtain ⟨a, ha, hb⟩ := ih e
      by_cases c : f x < f a ∨ (f x = f a ∧ x ≤ a)
      · refine ⟨x, by simp, fun b hb' => ?_⟩
        rcases List.mem_cons.mp hb' with rfl | hb'
        · exact .inr ⟨rfl, Nat.le_refl _⟩
        · have := hb b hb'
          omega
      · refine ⟨a, List.mem_cons_of_mem _ ha, fun b hb' => ?_⟩
        rcases List.mem_cons.mp hb' with rfl | hb'
        · omega
        · exact hb b hb'
theorem cost_is {l : List Ranks} {n m a : Nat} (ha : a ∈ mem n m) (h : ∀ b ∈ mem n m, way l n m a ≤ way l n m b) : cost l n m = way l n m a := by
  obtain ⟨c, hc, hb⟩ := exists_first (mem n m) (way l n m) (List.ne_nil_of_mem ha)
  have e : cost l n m = way l n m c := by
    show (bst l (mem n m).length (mem n m)).1 = _
    rw [best_first hc hb]
  rw [e]
  have h1 := h c hc
  have h2 := hb a ha
  omega
/-! The order, from the whole set down. -/
def down (l : List Ranks) (n m : Nat) : List Nat := (bst l (mem n m).length (mem n m)).2
theorem down_first {l : List Ranks} {n m a : Nat} (ha : a ∈ mem n m) (h : ∀ b ∈ mem n m, way l n m a < way l n m b ∨ (way l n m a = way l n m b ∧ a ≤ b)) : down l n m = a :: down l n (m - 2 ^ a) := by
  show (bst l (mem n m).length (mem n m)).2 = _
  rw [best_first ha h]
  rfl
theorem down_zero (l : List Ranks) (n : Nat) : down l n 0 = [] := by
  have e : mem n 0 = [] := by
    unfold mem
    refine List.filter_eq_nil_iff.mpr fun c _ => ?_
    unfold has
    rw [Nat.zero_div]
    decide
  unfold down
  rw [e]
  rfl
theorem down_full (l : List Ranks) (n : Nat) : down l n (2 ^ n - 1) = (best n l).2 := by
  unfold down
  rw [mem_full, List.length_range, best_bst]
/-! The sums by sets. -/
def sumAt (ns : List Nat) (m : Nat) : Nat := ((mem ns.length m).map fun i => ns.getD i 0).sum
theorem row_without {l : List Ranks} {n m a : Nat} (h0 : prefer l a a = 0) : row l a (without (mem n m) a) = row l a (mem n m) := by
  unfold row without
  induction mem n m with
  | nil => rfl
  | cons b S ih =>
    rw [List.filter_cons]
    by_cases e : b = a
    · subst e
      simp only [bne_self_eq_false, Bool.false_eq_true, if_false, List.map_cons, List.sum_cons, h0, Nat.zero_add]
      exact ih
    · have hb : (b != a) = true := by simpa using e
      simp only [hb, if_true, List.map_cons, List.sum_cons, ih]
theorem prefer_self (l : List Ranks) (a : Nat) : prefer l a a = 0 := by
  unfold prefer
  rw [List.length_eq_zero_iff, List.filter_eq_nil_iff]
  intro r _
  simp
theorem sumAt_row {l : List Ranks} {n m a : Nat} {ns : List Nat} (hl : ns.length = n) (h : ∀ b, b < n → ns.getD b 0 = prefer l b a) : sumAt ns m = row l a (mem n m) := by
  unfold sumAt row
  rw [hl]
  congr 1
  exact List.map_congr_left fun b hb => h b (mem_mem.mp hb).1
/-- one place more: the sets with it are those without it, further on -/
theorem sumAt_lo {ns : List Nat} {x m : Nat} (h : m < 2 ^ ns.length) : sumAt (ns ++ [x]) m = sumAt ns m := by
  unfold sumAt mem
  rw [List.length_append, List.length_singleton, List.range_succ, List.filter_append, List.map_append, List.sum_append]
  have e : has m ns.length = false := by
    unfold has
    rw [Nat.div_eq_of_lt h]
    rfl
  rw [List.filter_cons, e]
  simp only [Bool.false_eq_true, if_false, List.filter_nil, List.map_nil, List.sum_nil, Nat.add_zero]
  congr 1
  refine List.map_congr_left fun i hi => ?_
  have hi := List.mem_range.mp (List.mem_filter.mp hi).1
  rw [List.getD_eq_getElem?_getD, List.getD_eq_getElem?_getD, List.getElem?_append_left hi]
theorem sumAt_hi {ns : List Nat} {x m : Nat} (h : m < 2 ^ ns.length) : sumAt (ns ++ [x]) (2 ^ ns.length + m) = sumAt ns m + x := by
  unfold sumAt mem
  rw [List.length_append, List.length_singleton, List.range_succ, List.filter_append, List.map_append, List.sum_append]
  have e : has (2 ^ ns.length + m) ns.length = true := by
    unfold has
    rw [Nat.add_div_left _ (Nat.two_pow_pos _), Nat.div_eq_of_lt h]
    rfl
  rw [List.filter_cons, e]
  simp only [if_true, List.filter_nil, List.map_cons, List.map_nil, List.sum_cons, List.sum_nil, Nat.add_zero]
  have e2 : (ns ++ [x]).getD ns.length 0 = x := by
    rw [List.getD_eq_getElem?_getD, List.getElem?_append_right (Nat.le_refl _)]
    simp
  rw [e2]
  congr 2
  have e3 : (List.range ns.length).filter (fun c => has (2 ^ ns.length + m) c) = (List.range ns.length).filter fun c => has m c := by
    refine List.filter_congr fun c hc => ?_
    have hc := List.mem_range.mp hc
    unfold has
    rw [pow_split ns.length c hc, Nat.add_comm, Nat.add_mul_div_left _ _ (Nat.two_pow_pos c)]
    congr 1
    omega
  rw [e3]
  refine List.map_congr_left fun i hi => ?_
  have hi := List.mem_range.mp (List.mem_filter.mp hi).1
  rw [List.getD_eq_getElem?_getD, List.getD_eq_getElem?_getD, List.getElem?_append_left hi]
def sums (ns : List Nat) : List Nat := (List.range (2 ^ ns.length)).map fun m => sumAt ns m
theorem sums_snoc (ns : List Nat) (x : Nat) : sums (ns ++ [x]) = sums ns ++ (sums ns).map fun t => t + x := by
  unfold sums
  rw [List.length_append, List.length_singleton, Nat.pow_succ, Nat.mul_comm, Nat.two_mul, List.range_add, List.map_append, List.map_map, List.map_map]
  congr 1
  · exact List.map_congr_left fun m hm => sumAt_lo (List.mem_range.mp hm)
  · exact List.map_congr_left fun m hm => sumAt_hi (List.mem_range.mp hm)
end Dp
namespace Of
open Km349 Od
/-! The office, by itself. -/
theorem insert_mem {x y : Ballot} {l : List Ballot} : y ∈ Km349.insert x l ↔ y = x ∨ y ∈ l := by
  rw [(insert_perm x l).mem_iff, List.mem_cons]
theorem knows_iff {o : Office} {b n : Nat} : o.knows b n = true ↔ ∃ x ∈ o.ballots, x.booth = b ∧ x.number = n := by
  unfold Office.knows
  rw [List.any_eq_true]
  constructor
  · rintro ⟨x, hx, h⟩
    rw [Bool.and_eq_true, beq_iff_eq, beq_iff_eq] at h
    exact ⟨x, hx, h⟩
  · rintro ⟨x, hx, h⟩
    refine ⟨x, hx, ?_⟩
    rw [Bool.and_eq_true, beq_iff_eq, beq_iff_eq]
    exact h
theorem knows_insert {o : Office} {x : Ballot} {b n : Nat} : ({ o with ballots := Km349.insert x o.ballots } : Office).knows b n = ((decide (b = x.booth) && decide (n = x.number)) || o.knows b n) := by
  rw [Bool.eq_iff_iff, Bool.or_eq_true, Bool.and_eq_true, decide_eq_true_eq, decide_eq_true_eq, knows_iff, knows_iff]
  constructor
  · rintro ⟨y, hy, e1, e2⟩
    rcases insert_mem.mp hy with rfl | hy
    · exact .inl ⟨e1.symm, e2.symm⟩
    · exact .inr ⟨y, hy, e1, e2⟩
  · rintro (⟨e1, e2⟩ | ⟨y, hy, e⟩)
    · exact ⟨x, insert_mem.mpr (.inl rfl), e1.symm, e2.symm⟩
    · exact ⟨y, insert_mem.mpr (.inr hy), e⟩
def one (r : Ranks) (x y : Nat) : Nat := if r.getD x 0 < r.getD y 0 then 1 else 0
theorem prefer_cons (r : Ranks) (l : List Ranks) (x y : Nat) : prefer (r :: l) x y = prefer l x y + one r x y := by
  unfold prefer one
  rw [List.filter_cons]
  by_cases c : r.getD x 0 < r.getD y 0
  · rw [decide_eq_true c, if_pos rfl, if_pos c]
    rfl
  · rw [decide_eq_false c, if_neg (by decide), if_neg c]
    rfl
theorem ranks_insert {o : Office} {b : Ballot} : (({ o with ballots := Km349.insert b o.ballots } : Office).ranks).Perm (b.ranks :: o.ranks) := (insert_perm b o.ballots).map Ballot.ranks
theorem prefer_insert {o : Office} {b : Ballot} {x y : Nat} : prefer ({ o with ballots := Km349.insert b o.ballots } : Office).ranks x y = prefer o.ranks x y + one b.ranks x y := by
  rw [prefer_perm ranks_insert, prefer_cons]
theorem least_mem : ∀ (l : List (Nat × List Nat)) (x : Nat × List Nat), least l x = x ∨ least l x ∈ l
  | [], x => .inl rfl
  | y :: l, x => by
    show least l (if y.1 < x.1 then y else x) = x ∨ least l (if y.1 < x.1 then y else x) ∈ y :: l
    rcases least_mem l (if y.1 < x.1 then y else x) with e | e
    · rw [e]
      split
      · exact .inr List.mem_cons_self
      · exact .inl rfl
    · exact .inr (List.mem_cons_of_mem _ e)
theorem lst_mem {l : List (Nat × List Nat)} (h : l ≠ []) : lst l ∈ l := by
  cases l with
  | nil => exact absurd rfl h
  | cons x l =>
    rcases least_mem l x with e | e
    · show least l x ∈ _
      rw [e]
      exact List.mem_cons_self
    · exact List.mem_cons_of_mem _ e
theorem best_perm' (n : Nat) (l : List Ranks) : List.Perm (best n l).2 (List.range n) := by
  rw [best_eq]
  have hne : ((orders n (List.range n)).map fun o => (against l o, o)) ≠ [] := by
    have := orders_ne (k := n) (S := List.range n) List.nodup_range List.length_range
    simpa using this
  obtain ⟨o, ho, e⟩ := List.mem_map.mp (lst_mem hne)
  rw [← e]
  exact orders_perm List.nodup_range List.length_range o ho
theorem best_length (n : Nat) (l : List Ranks) : (best n l).2.length = n := by
  rw [(best_perm' n l).length_eq, List.length_range]
/-! What is lacking. -/
theorem lacks_none {o : Office} {b n : Nat} (hc : o.close b = some n) (h : ∀ i, i < n → o.knows b i = true) : o.lacks b = none := by
  unfold Office.lacks
  rw [hc, List.find?_eq_none]
  intro i hi
  have := h i (List.mem_range.mp hi)
  rw [this]
  decide
theorem find_range (f : Nat → Bool) : ∀ (n k : Nat), k < n → (∀ i, i < k → f i = false) → f k = true → (List.range n).find? f = some k := by
  intro n
  induction n with
  | zero => intro k h; cases h
  | succ n ih =>
    intro k hk h1 h2
    rw [List.range_succ, List.find?_append]
    by_cases c : k < n
    · rw [ih k c h1 h2]
      rfl
    · have e : k = n := by omega
      subst e
      have : (List.range k).find? f = none := List.find?_eq_none.mpr fun i hi => by rw [h1 i (List.mem_range.mp hi)]; decide
      rw [this, List.find?_cons, h2]
      rfl
theorem lacks_some {o : Office} {b n k : Nat} (hc : o.close b = some n) (hk : k < n) (h : ∀ i, i < k → o.knows b i = true) (hn : o.knows b k = false) : o.lacks b = some k := by
  unfold Office.lacks
  rw [hc]
  refine find_range _ n k hk (fun i hi => ?_) ?_
  · rw [h i hi]
    rfl
  · rw [hn]
    rfl
/-! A list without doubles, of few. -/
theorem len_of_sub {α : Type} [DecidableEq α] : ∀ {S T : List α}, S.Nodup → (∀ x ∈ S, x ∈ T) → S.length ≤ T.length
  | [], T, _, _ => Nat.zero_le _
  | a :: S, T, hn, hs => by
    have ha := hs a List.mem_cons_self
    have hn' := List.nodup_cons.mp hn
    have := len_of_sub (T := T.erase a) hn'.2 fun x hx => by
      refine (List.mem_erase_of_ne ?_).mpr (hs x (List.mem_cons_of_mem _ hx))
      intro e
      rw [e] at hx
      exact hn'.1 hx
    have hl := List.length_erase_of_mem ha
    have hp := List.length_pos_of_mem ha
    rw [List.length_cons]
    omega
/-- as it is behind a start -/
structure Good (o : Office) : Prop where
  lo : 2 ≤ o.candidates
  hi : o.candidates ≤ 8
  bo : o.booths ≤ 8
  cl : o.closed.length = 8
theorem good0 {n m : Nat} (h1 : 2 ≤ n) (h2 : n ≤ 8) (h3 : m ≤ 8) : Good (office0 n m) := ⟨h1, h2, h3, List.length_replicate⟩
theorem close_set {o : Office} (g : Good o) {b : Nat} (hb : b < 8) (n c : Nat) : ({ o with closed := o.closed.set b (some n) } : Office).close c = if c = b then some n else o.close c := by
  unfold Office.close
  show (o.closed.set b (some n)).getD c none = _
  rw [List.getD_eq_getElem?_getD, List.getElem?_set]
  by_cases e : c = b
  · subst e
    rw [if_pos rfl, if_pos rfl, if_pos (by rw [g.cl]; exact hb)]
    rfl
  · rw [if_neg fun z => e z.symm, if_neg e, List.getD_eq_getElem?_getD]
theorem good_does {o : Office} (g : Good o) (c : Call) : Good (oDoes o c).1 := by
  cases c with
  | oStart n m =>
    unfold oDoes
    dsimp only
    split
    · exact g
    · rename_i h
      have h1 : okCandidates n = true := by
        cases q : okCandidates n with
        | true => rfl
        | false => exact absurd (.inl q) h
      unfold okCandidates at h1
      rw [Bool.and_eq_true, decide_eq_true_eq, decide_eq_true_eq] at h1
      exact good0 h1.1 h1.2 (Nat.le_of_not_lt fun z => h (.inr (.inr z)))
  | oHeard l =>
    unfold oDoes
    dsimp only
    split
    · exact g
    · rename_i x hx
      unfold Office.hears at hx
      split at hx
      · split at hx
        · cases hx
        · have := Option.some.inj hx
          rw [← this]
          split
          · exact g
          · exact ⟨g.lo, g.hi, g.bo, g.cl⟩
      · split at hx
        · split at hx
          · cases hx
          · have := Option.some.inj hx
            rw [← this]
            split
            · exact g
            · exact ⟨g.lo, g.hi, g.bo, by rw [List.length_set]; exact g.cl⟩
        · cases hx
  | _ => exact g
end Of
namespace Fm
open Km349 Km349Neutral Fl
/-! A call by its kind, its numbers natural. -/
inductive IsB : List (List Int) → Nat → Km349.Call → Prop
  | c0 (k x y : Nat) : IsB [[0, (k : Int), (x : Int), (y : Int)]] k (.bStart x y)
  | c1 (k : Nat) (l : List Nat) : l.length = 8 → (∀ z ∈ l, z < 256) → IsB [[1, (k : Int)], nums l] k (.bVote l)
  | c2 (k : Nat) : IsB [[2, (k : Int)]] k .bClose
  | c3 (k x : Nat) : IsB [[3, (k : Int), (x : Int)]] k (.bAgain x)
inductive IsO : List (List Int) → Nat → Km349.Call → Prop
  | c4 (k x y : Nat) : IsO [[4, (k : Int), (x : Int), (y : Int)]] k (.oStart x y)
  | c5 (k : Nat) (l : List Nat) : l.length = 20 → (∀ z ∈ l, z < 256) → IsO [[5, (k : Int)], nums l] k (.oHeard l)
  | c6 (k x : Nat) : IsO [[6, (k : Int), (x : Int)]] k (.oLacks x)
  | c7 (k x y : Nat) : IsO [[7, (k : Int), (x : Int), (y : Int)]] k (.oPrefer x y)
  | c8 (k : Nat) : IsO [[8, (k : Int)]] k .oOrder
  | c9 (k : Nat) (l : List Nat) : l.length = 8 → IsO [[9, (k : Int)], nums l] k (.oAgainst l)
theorem nat_is {x : Int} (h : 0 ≤ x) : ∃ n : Nat, x = (n : Int) := ⟨x.toNat, by omega⟩
theorem row_is {r : List Int} (h : ∀ z ∈ r, 0 ≤ z ∧ z < 256) : ∃ l : List Nat, r = nums l ∧ l.length = r.length ∧ ∀ z ∈ l, z < 256 := by
  induction r with
  | nil => exact ⟨[], rfl, rfl, fun z hz => nomatch hz⟩
  | cons x r ih =>
    obtain ⟨l, e, hl, hb⟩ := ih fun z hz => h z (List.mem_cons_of_mem _ hz)
    have hx := h x List.mem_cons_self
    obtain ⟨n, rfl⟩ := nat_is hx.1
    refine ⟨n :: l, by rw [e]; rfl, by rw [List.length_cons, List.length_cons, hl], fun z hz => ?_⟩
    rcases List.mem_cons.mp hz with rfl | hz
    · omega
    · exact hb z hz
theorem nats_nums (l : List Nat) : nats (nums l) = l := by
  unfold nats nums
  rw [List.map_map]
  have e : (Int.toNat ∘ fun (x : Nat) => (x : Int)) = id := by funext x; rfl
  rw [e, List.map_id]
theorem kind_of {c : List (List Int)} (h : asked1 c = true) : (∃ k x, IsB c k x ∧ ∀ s, step s c = step0 s k x) ∨ ∃ k x, IsO c k x ∧ ∀ s, step s c = step1 s k x := by
  cases is_of h with
  | c0 h1 h2 _ h3 _ =>
    obtain ⟨k, rfl⟩ := nat_is h1
    obtain ⟨x, rfl⟩ := nat_is h2
    obtain ⟨y, rfl⟩ := nat_is h3
    exact .inl ⟨k, _, .c0 k x y, fun s => rfl⟩
  | c1 h1 h2 h3 =>
    obtain ⟨k, rfl⟩ := nat_is h1
    obtain ⟨l, rfl, hl, hb⟩ := row_is h3
    refine .inl ⟨k, _, .c1 k l (hl.trans h2) hb, fun s => ?_⟩
    rw [step_c1, nats_nums]
    rfl
  | c2 h1 =>
    obtain ⟨k, rfl⟩ := nat_is h1
    exact .inl ⟨k, _, .c2 k, fun s => rfl⟩
  | c3 h1 h2 _ =>
    obtain ⟨k, rfl⟩ := nat_is h1
    obtain ⟨x, rfl⟩ := nat_is h2
    exact .inl ⟨k, _, .c3 k x, fun s => rfl⟩
  | c4 h1 h2 _ h3 _ =>
    obtain ⟨k, rfl⟩ := nat_is h1
    obtain ⟨x, rfl⟩ := nat_is h2
    obtain ⟨y, rfl⟩ := nat_is h3
    exact .inr ⟨k, _, .c4 k x y, fun s => rfl⟩
  | c5 h1 h2 h3 =>
    obtain ⟨k, rfl⟩ := nat_is h1
    obtain ⟨l, rfl, hl, hb⟩ := row_is h3
    refine .inr ⟨k, _, .c5 k l (hl.trans h2) hb, fun s => ?_⟩
    rw [step_c5, nats_nums]
    rfl
  | c6 h1 h2 _ =>
    obtain ⟨k, rfl⟩ := nat_is h1
    obtain ⟨x, rfl⟩ := nat_is h2
    exact .inr ⟨k, _, .c6 k x, fun s => rfl⟩
  | c7 h1 h2 _ h3 _ =>
    obtain ⟨k, rfl⟩ := nat_is h1
    obtain ⟨x, rfl⟩ := nat_is h2
    obtain ⟨y, rfl⟩ := nat_is h3
    exact .inr ⟨k, _, .c7 k x y, fun s => rfl⟩
  | c8 h1 =>
    obtain ⟨k, rfl⟩ := nat_is h1
    exact .inr ⟨k, _, .c8 k, fun s => rfl⟩
  | c9 h1 h2 h3 =>
    obtain ⟨k, rfl⟩ := nat_is h1
    obtain ⟨l, rfl, hl, hb⟩ := row_is h3
    refine .inr ⟨k, _, .c9 k l (hl.trans h2), fun s => ?_⟩
    rw [step_c9, nats_nums]
    rfl
/-- how long a call is -/
def lens : List Nat := [4, 3, 2, 3, 4, 3, 3, 4, 2, 3]
def Len (p : List Int) : Prop := ∃ z : Nat, p[0]? = some (z : Int) ∧ ((∃ n, (z = 0 ∨ z = 2 ∨ z = 3 ∨ z = 4 ∨ z = 6 ∨ z = 7 ∨ z = 8) ∧ lens[z]? = some n ∧ p.length = n) ∨ ((z = 1 ∨ z = 5 ∨ z = 9) ∧ ∃ n : Nat, p[2]? = some (n : Int) ∧ p.length = 3 + n))
theorem lenB {c : List (List Int)} {k : Nat} {x : Km349.Call} (h : IsB c k x) : Len (flat c) ∧ (flat c)[1]? = some (k : Int) ∧ ∃ z : Nat, z ≤ 3 ∧ (flat c)[0]? = some (z : Int) := by
  cases h with
  | c0 k x y => exact ⟨⟨0, rfl, .inl ⟨4, by omega, rfl, rfl⟩⟩, rfl, 0, by omega, rfl⟩
  | c1 k l hl hb => exact ⟨⟨1, rfl, .inr ⟨by omega, (nums l).length, rfl, by show (nums l).length + 1 + 1 + 1 = _; omega⟩⟩, rfl, 1, by omega, rfl⟩
  | c2 k => exact ⟨⟨2, rfl, .inl ⟨2, by omega, rfl, rfl⟩⟩, rfl, 2, by omega, rfl⟩
  | c3 k x => exact ⟨⟨3, rfl, .inl ⟨3, by omega, rfl, rfl⟩⟩, rfl, 3, by omega, rfl⟩
theorem lenO {c : List (List Int)} {k : Nat} {x : Km349.Call} (h : IsO c k x) : Len (flat c) ∧ ∃ z : Nat, 4 ≤ z ∧ (flat c)[0]? = some (z : Int) := by
  cases h with
  | c4 k x y => exact ⟨⟨4, rfl, .inl ⟨4, by omega, rfl, rfl⟩⟩, 4, by omega, rfl⟩
  | c5 k l hl hb => exact ⟨⟨5, rfl, .inr ⟨by omega, (nums l).length, rfl, by show (nums l).length + 1 + 1 + 1 = _; omega⟩⟩, 5, by omega, rfl⟩
  | c6 k x => exact ⟨⟨6, rfl, .inl ⟨3, by omega, rfl, rfl⟩⟩, 6, by omega, rfl⟩
  | c7 k x y => exact ⟨⟨7, rfl, .inl ⟨4, by omega, rfl, rfl⟩⟩, 7, by omega, rfl⟩
  | c8 k => exact ⟨⟨8, rfl, .inl ⟨2, by omega, rfl, rfl⟩⟩, 8, by omega, rfl⟩
  | c9 k l hl => exact ⟨⟨9, rfl, .inr ⟨by omega, (nums l).length, rfl, by show (nums l).length + 1 + 1 + 1 = _; omega⟩⟩, 9, by omega, rfl⟩
theorem Len.pos {p : List Int} (h : Len p) : 0 < p.length := by
  obtain ⟨z, h0, _⟩ := h
  exact (List.getElem?_eq_some_iff.mp h0).1
end Fm
/-! Helpers over the hand layer: written numbers of the top, a table of the top, enumerate, new lists. -/
namespace L2
open PySem PySem.Spec PyProof.Rows
/-! ### fields -/
theorem lk_eq {f : Str} {v : V} {r : List (Str × V)} : List.lookup f ((f, v) :: r) = some v := by
  simp only [List.lookup, beq_self_eq_true]
theorem lk_ne {f g : Str} {v : V} {r : List (Str × V)} (h : ¬ f = g) : List.lookup f ((g, v) :: r) = List.lookup f r := by
  have hb : (f == g) = false := beq_eq_false_iff_ne.mpr h
  simp only [List.lookup, hb]
theorem put_nil {f : Str} {v : V} : putF f v [] = [(f, v)] := rfl
theorem put_eq {f : Str} {v u : V} {r : List (Str × V)} : putF f v ((f, u) :: r) = (f, v) :: r := by
  show (if f = f then _ else _) = _
  rw [if_pos rfl]
theorem put_ne {f g : Str} {v u : V} {r : List (Str × V)} (h : ¬ g = f) : putF f v ((g, u) :: r) = (g, u) :: putF f v r := by
  show (if g = f then _ else _) = _
  rw [if_neg h]
theorem put_len (f : Str) (v : V) : ∀ r : List (Str × V), (putF f v r).length ≤ r.length + 1
  | [] => Nat.le_refl _
  | (g, u) :: r => by
    show (if g = f then (g, v) :: r else (g, u) :: putF f v r).length ≤ _
    split
    · show r.length + 1 ≤ r.length + 1 + 1
      omega
    · have := put_len f v r
      show (putF f v r).length + 1 ≤ r.length + 1 + 1
      omega
/-! ### lists of whole numbers -/
def iv (l : List Int) : List V := l.map V.int
def nums (l : List Nat) : List Int := Km349Neutral.nums l
theorem iv_length (l : List Int) : (iv l).length = l.length := List.length_map _
theorem nums_length (l : List Nat) : (nums l).length = l.length := List.length_map _
theorem iv_append (a b : List Int) : iv (a ++ b) = iv a ++ iv b := List.map_append
theorem nums_append (a b : List Nat) : nums (a ++ b) = nums a ++ nums b := List.map_append
theorem iv_get {l : List Int} {i : Nat} {y : V} (h : (iv l)[i]? = some y) : ∃ z, l[i]? = some z ∧ y = V.int z := by
  unfold iv at h
  rw [List.getElem?_map] at h
  cases e : l[i]? with
  | none =>
    rw [e] at h
    cases h
  | some z =>
    rw [e] at h
    exact ⟨z, rfl, (Option.some.inj h).symm⟩
theorem nums_get {l : List Nat} {i : Nat} {z : Int} (h : (nums l)[i]? = some z) : ∃ n : Nat, l[i]? = some n ∧ z = (n : Int) := by
  unfold nums Km349Neutral.nums at h
  rw [List.getElem?_map] at h
  cases e : l[i]? with
  | none =>
    rw [e] at h
    cases h
  | some n =>
    rw [e] at h
    exact ⟨n, rfl, (Option.some.inj h).symm⟩
theorem iv_at {l : List Int} {i : Nat} {z : Int} (h : l[i]? = some z) : (iv l)[i]? = some (V.int z) := by
  unfold iv
  rw [List.getElem?_map, h]
  rfl
theorem nats_nums (l : List Nat) : Km349Neutral.nats (nums l) = l := by
  unfold Km349Neutral.nats nums Km349Neutral.nums
  rw [List.map_map]
  have e : (Int.toNat ∘ fun (x : Nat) => (x : Int)) = id := by funext x; rfl
  rw [e, List.map_id]
theorem take_snoc {α : Type} : ∀ {l : List α} {i : Nat} {x : α}, l[i]? = some x → l.take (i + 1) = l.take i ++ [x]
  | [], i, x, h => by simp at h
  | a :: l, 0, x, h => by
    have e : a = x := Option.some.inj h
    subst e
    rfl
  | a :: l, i + 1, x, h => by
    have ih := take_snoc (l := l) (i := i) (x := x) h
    show a :: l.take (i + 1) = a :: l.take i ++ [x]
    rw [ih]
    rfl
theorem small {n : Nat} (h : n ≤ 1000000) : n ≤ sizeLine := Nat.le_trans h (by decide)
theorem smallL {n : Nat} (h : n ≤ 1000000) : n < sizeLine := Nat.lt_of_le_of_lt h (by decide)
/-- a new list comes out, all else stands -/
def Fresh (H : Hp) (Q : VK) (xs : List Int) : Prop := ∀ (p : Addr) (H' : Hp), H p = none → Same H H' → H' p = some (.lst (iv xs)) → Q (.ref p) H'
theorem Same.new {H : Hp} {p : Addr} {o : HO} (h : H p = none) : Same H (upd H p o) := fun b u e => by
  rw [upd_ne (ne_of_none e h)]
  exact e
theorem Same.rfl' {H : Hp} : Same H H := fun _ _ e => e
/-! ### rules -/
section
variable {X : Cx}
theorem pgi {x : Str} {i : Int} {pos : Pos} (hg : Gl X x) (h : ∃ t, X.mg x = some (.int i t)) (hd : (x == ("__debug__" : Str)) = false := by decide) : PE X (.Name x pos) (tC (.int i)) := by
  obtain ⟨t, e⟩ := h
  exact pe_glob hg e ⟨t, rfl⟩ hd
/-- a written list of whole numbers -/
def intsOf : List Expr → Option (List Int)
  | [] => some []
  | .Constant (.int i) _ _ :: r => (intsOf r).map (i :: ·)
  | _ => none
theorem pa_ints : ∀ {es : List Expr} {ns : List Int}, intsOf es = some ns → PA X es (fun _ H Q => Q (iv ns) H)
  | [], ns, h => by
    have e : ([] : List Int) = ns := Option.some.inj h
    subst e
    exact pa_nil
  | e :: es, ns, h => by
    unfold intsOf at h
    split at h
    · rename_i heq
      cases heq
    · rename_i i j p r heq
      cases heq
      cases q : intsOf es with
      | none =>
        rw [q] at h
        cases h
      | some ms =>
        rw [q] at h
        have e2 : i :: ms = ns := Option.some.inj h
        subst e2
        have t := pa_cons (X := X) (pe_int (i := i) (j := j) (pos := p)) (pa_ints q) (by rfl)
        exact t
    · cases h
theorem boot_listX : bootBuiltins "list" = some (.type "list") := by decide +kernel
/-! ### a table of the top: whole numbers by whole numbers -/
end
/-! ### for over enumerate(list) -/
theorem for_enum {K : PySem.W.Frag} {a : Addr} {xs : List V} {g : TG} {tb : TS} {D : Ends} {σ : St} {H : Hp} (Pv : Nat → St → Hp → Prop) (h0 : Pv 0 σ H) (hl : ∀ i σ H, i ≤ xs.length → Pv i σ H → SqL K H a xs)
    (hs : ∀ i x σ H T, xs[i]? = some x → Pv i σ H → H T = none → g (.ref T) σ (upd H T (.tup [.int (i : Nat), x])) fun σ2 H2 => tb { D with nx := Pv (i + 1), ct := Pv (i + 1), bk := D.nx } σ2 H2) (hd : ∀ σ H, Pv xs.length σ H → D.nx σ H) :
    ∃ W : Nat → Nat → St → Hp → Prop, (∃ m, W 0 m σ H) ∧ ∀ i m σ H, W i m σ H →
      ((Ite K a).stop i H ∧ D.nx σ H) ∨ ((Ite K a).go i H ∧ ∃ N : St → Hp → Prop, (∀ σ' H', N σ' H' → ∃ m', m' < m ∧ W (i + 1) m' σ' H') ∧ ∀ x H', (Ite K a).yld i H x H' → g x σ H' fun σ2 H2 => tb { D with nx := N, ct := N, bk := D.nx } σ2 H2) := by
  refine ⟨fun i m σ H => m = xs.length - i ∧ i ≤ xs.length ∧ Pv i σ H, ⟨xs.length, by simp, Nat.zero_le _, h0⟩, ?_⟩
  rintro i m σ H ⟨rfl, hi, p⟩
  have q := hl i σ H hi p
  by_cases hlt : i < xs.length
  · refine .inr ⟨⟨xs, xs[i], q, by simp [hlt]⟩, Pv (i + 1), fun σ' H' p' => ⟨xs.length - (i + 1), by omega, rfl, hlt, p'⟩, fun x H' y => ?_⟩
    obtain ⟨T, z, e1, e2, e3, y⟩ := y
    subst e1 e3
    exact hs i z σ _ T (y xs q) p e2
  · have e : i = xs.length := by omega
    subst e
    exact .inl ⟨⟨xs, q, Nat.le_refl _⟩, hd σ H p⟩
/-! ### bits -/
theorem bitXor_nat (x y : Nat) : Builtin.bitXor (x : Int) (y : Int) = ((x ^^^ y : Nat) : Int) := by
  rw [bitXor_and, bitAnd_pp (Int.natCast_nonneg x) (Int.natCast_nonneg y), Int.toNat_natCast, Int.toNat_natCast]
  have := Ms.xor_and x y
  omega
theorem bit1 {c : Nat} (h : decide (V.int (Builtin.bitAnd (c : Int) 1) = V.int 1) = true) : Builtin.bitXor ((c : Int) / 2 ^ (1 : Int).toNat) 2197175160 = ((Km349.crcBit c : Nat) : Int) := by
  have h1 : Builtin.bitAnd (c : Int) 1 = 1 := by
    have := of_decide_eq_true h
    injection this
  rw [bitAnd_m1] at h1
  have e : ((c : Int) / 2 ^ (1 : Int).toNat) = ((c / 2 : Nat) : Int) := by
    show (c : Int) / 2 ^ 1 = _
    omega
  have e2 : (2197175160 : Int) = ((2197175160 : Nat) : Int) := rfl
  rw [e, e2, bitXor_nat]
  unfold Km349.crcBit
  rw [if_pos (by omega)]
theorem bit0 {c : Nat} (h : ¬ decide (V.int (Builtin.bitAnd (c : Int) 1) = V.int 1) = true) : (c : Int) / 2 ^ (1 : Int).toNat = ((Km349.crcBit c : Nat) : Int) := by
  have h1 : ¬ Builtin.bitAnd (c : Int) 1 = 1 := fun q => h (decide_eq_true (by rw [q]))
  rw [bitAnd_m1] at h1
  unfold Km349.crcBit
  rw [if_neg (by omega)]
  show (c : Int) / 2 ^ 1 = _
  omega
theorem byte0 (n : Nat) : Builtin.bitAnd (n : Int) 255 = ((n % 256 : Nat) : Int) := by
  rw [bitAnd_m8]
  omega
theorem byte1 (n : Nat) : Builtin.bitAnd ((n : Int) / 2 ^ (8 : Int).toNat) 255 = ((n / 256 % 256 : Nat) : Int) := by
  rw [bitAnd_m8]
  show (n : Int) / 2 ^ 8 % 256 = _
  omega
theorem byte2 (n : Nat) : Builtin.bitAnd ((n : Int) / 2 ^ (16 : Int).toNat) 255 = ((n / 65536 % 256 : Nat) : Int) := by
  rw [bitAnd_m8]
  show (n : Int) / 2 ^ 16 % 256 = _
  omega
theorem byte3 (n : Nat) : Builtin.bitAnd ((n : Int) / 2 ^ (24 : Int).toNat) 255 = ((n / 16777216 % 256 : Nat) : Int) := by
  rw [bitAnd_m8]
  show (n : Int) / 2 ^ 24 % 256 = _
  omega
end L2
/-! ### who owns what: n owners, no address with two -/
namespace L2
open PySem PySem.Spec PyProof.Rows
structure Sys (H : Hp) (n : Nat) (own : Nat → List Addr) : Prop where
  trk : ∀ i, i < n → ∀ x ∈ own i, ∃ o, H x = some o
  dis : ∀ i j, i < n → j < n → i ≠ j → ∀ x ∈ own i, x ∉ own j
def sysSet (own : Nat → List Addr) (i : Nat) (o : List Addr) : Nat → List Addr := fun j => if j = i then o else own j
theorem sysSet_same {own : Nat → List Addr} {i : Nat} {o : List Addr} : sysSet own i o i = o := by unfold sysSet; rw [if_pos rfl]
theorem sysSet_ne {own : Nat → List Addr} {i j : Nat} {o : List Addr} (h : j ≠ i) : sysSet own i o j = own j := by unfold sysSet; rw [if_neg h]
/-- the other owners' things stand -/
theorem Sys.other {H H' : Hp} {n : Nat} {own : Nat → List Addr} {i j : Nat} (S : Sys H n own) (hi : i < n) (hj : j < n) (hij : j ≠ i) (k : ∀ x o, H x = some o → x ∉ own i → H' x = some o) : ∀ x ∈ own j, ∀ o, H x = some o → H' x = some o :=
  fun x hx o e => k x o e (S.dis j i hj hi hij x hx)
theorem Sys.step {H H' : Hp} {n : Nat} {own : Nat → List Addr} {i : Nat} {o' : List Addr} (S : Sys H n own) (hi : i < n) (h1 : ∀ x ∈ o', x ∈ own i ∨ H x = none) (h2 : ∀ x ∈ o', ∃ o, H' x = some o) (k : ∀ x o, H x = some o → x ∉ own i → H' x = some o) :
    Sys H' n (sysSet own i o') := by
  refine ⟨fun j hj x hx => ?_, fun j m hj hm hjm x hx hx2 => ?_⟩
  · by_cases e : j = i
    · subst e
      rw [sysSet_same] at hx
      exact h2 x hx
    · rw [sysSet_ne e] at hx
      obtain ⟨o, ho⟩ := S.trk j hj x hx
      exact ⟨o, k x o ho (S.dis j i hj hi e x hx)⟩
  · by_cases e : j = i
    · subst e
      rw [sysSet_same] at hx
      rw [sysSet_ne (Ne.symm hjm)] at hx2
      rcases h1 x hx with z | z
      · exact S.dis j m hi hm hjm x z hx2
      · obtain ⟨o, ho⟩ := S.trk m hm x hx2
        rw [z] at ho
        cases ho
    · rw [sysSet_ne e] at hx
      by_cases e2 : m = i
      · subst e2
        rw [sysSet_same] at hx2
        rcases h1 x hx2 with z | z
        · exact S.dis j m hj hm hjm x hx z
        · obtain ⟨o, ho⟩ := S.trk j hj x hx
          rw [z] at ho
          cases ho
      · rw [sysSet_ne e2] at hx2
        exact S.dis j m hj hm hjm x hx hx2
end L2
/-! More helpers: places in a text, a tuple of the top, o[i] by values, list(range(n)), min of a list of pairs. -/
namespace L2
open PySem PySem.Spec PyProof.Rows
/-! ### places in a text -/
def stN (l : List Stmt) (i : Nat) : Stmt := l.getD i (.Pass ⟨0, 0, 0, 0⟩)
def exNo : Expr := .Constant .none 0 ⟨0, 0, 0, 0⟩
def stVal : Stmt → Expr
  | .Assign _ v _ => v
  | .Return (some v) _ => v
  | .Expr v _ => v
  | _ => exNo
def stBody : Stmt → List Stmt
  | .For _ _ b _ _ => b
  | _ => []
def exL : Expr → Expr
  | .BinOp a _ _ _ => a
  | _ => exNo
def exR : Expr → Expr
  | .BinOp _ _ b _ => b
  | _ => exNo
def exArg (e : Expr) (i : Nat) : Expr := match e with
  | .Call _ as _ _ => as.getD i exNo
  | _ => exNo
def exElt : Expr → Expr
  | .ListComp e _ _ _ => e
  | _ => exNo
def exSc : Expr → Scope
  | .ListComp _ _ sc _ => sc
  | _ => { kind := .function, names := [], isGenerator := false, isCoroutine := false }
theorem boot_minX : bootBuiltins "min" = some (.builtin "min") := by decide +kernel
theorem boot_allX : bootBuiltins "all" = some (.builtin "all") := by decide +kernel
theorem boot_sortedX : bootBuiltins "sorted" = some (.builtin "sorted") := by decide +kernel
/-! ### a tuple of the top: whole numbers -/
def tupIs : List Value → List Int → Bool
  | [], [] => true
  | .int k _ :: r, k' :: s => k == k' && tupIs r s
  | _, _ => false
def tupObj (o : Obj) (ns : List Int) : Bool := match o with
  | ⟨.type "tuple", _, .seq es _, _⟩ => tupIs es.toList ns && decide (es.size ≤ 100)
  | _ => false
def TupK (K : PySem.W.Frag) (a : Addr) (ns : List Int) : Prop := ∃ o, K.lookup a = some o ∧ tupObj o ns = true
theorem tup_vals : ∀ {es : List Value} {ns : List Int}, tupIs es ns = true → Vals (iv ns) es
  | [], [], _ => Paired.nil
  | .int k t :: r, k' :: s, h => by
    have h' : (k == k' && tupIs r s) = true := h
    rw [Bool.and_eq_true, beq_iff_eq] at h'
    obtain ⟨rfl, h2⟩ := h'
    exact Paired.cons (show RelV (V.int k) (Value.int k t) from ⟨t, rfl⟩) (tup_vals h2)
theorem TupK.sq {K : PySem.W.Frag} {a : Addr} {ns : List Int} (h : TupK K a ns) (H : Hp) : SqT K H a (iv ns) := by
  obtain ⟨o, hk, ho⟩ := h
  unfold tupObj at ho
  split at ho
  · rename_i dd es n sl
    rw [Bool.and_eq_true] at ho
    refine .inr ⟨_, es, n, hk, rfl, rfl, Nat.le_trans (of_decide_eq_true ho.2) (by decide), tup_vals ho.1⟩
  · cases ho
section
variable {X : Cx}
/-! ### o[i] of a list, by values -/
theorem get_list : PGet X (rIxL X.K) := by
  intro pins s σ H o i ov w' Q I ro ri h
  obtain ⟨p, xs, k, z, rfl, rfl, hq, he, q⟩ := h
  cases ro
  obtain ⟨t, rfl⟩ := ri
  obtain ⟨its, r, pl, hz⟩ := I.list hq
  obtain ⟨j, h1, h2, h3, h4, h5⟩ := atI_get he
  obtain ⟨u, eu, ru⟩ := r.get h2
  have hl := r.length
  have hn := line63
  have fin : EP X pins σ Q u s := ⟨z, H, I, ru, q⟩
  by_cases h0 : 0 ≤ k
  · have hj : k.toNat = j := by
      rw [seqIndex_of h0 h5] at h1
      exact Option.some.inj h1
    exact wpAny_getItem_list pl.isList h0 (by omega) (by rw [hj]; simpa using eu) fin
  · have hj : (k + (its.toArray.size : Int)).toNat = j := by
      rw [seqIndex_neg (by omega) h4] at h1
      rw [List.size_toArray, ← hl]
      exact Option.some.inj h1
    exact wpAny_getItem_list_neg pl.isList (by omega) (by rw [List.size_toArray]; omega) (by omega) (by rw [hj]; simpa using eu) fin
/-! ### list(range(n)) -/
def ramp (n : Nat) : List Int := nums (List.range n)
def tLR (t : TA) : TE := fun σ H Q => t σ H fun vs H1 => ∃ n : Nat, vs = [.int n] ∧ n ≤ 1000000 ∧ ∀ l, H1 l = none → Q (.ref l) (upd H1 l (.lst (iv (ramp n))))
theorem ramp_vals {n : Nat} {acc : List Value} (hl : acc.length = n) (h : ∀ (j : Nat) v, acc[j]? = some v → ∃ t, v = Value.int (0 + (j : Int) * 1) t) : Vals (iv (ramp n)) acc := by
  subst hl
  have go : ∀ (l : List Value) (k : Nat), (∀ (j : Nat) v, l[j]? = some v → ∃ t, v = Value.int (((k + j : Nat) : Int)) t) → Vals ((List.range' k l.length).map fun i => V.int (i : Nat)) l := by
    intro l
    induction l with
    | nil => intro k _; exact Paired.nil
    | cons a l ih =>
      intro k hk
      rw [List.length_cons, List.range'_succ, List.map_cons]
      obtain ⟨t, e⟩ := hk 0 a rfl
      refine Paired.cons ?_ (ih (k + 1) fun j v hj => ?_)
      · subst e
        exact ⟨t, rfl⟩
      · obtain ⟨t2, e2⟩ := hk (j + 1) v hj
        exact ⟨t2, by rw [e2, show k + (j + 1) = k + 1 + j by omega]⟩
  have e : iv (ramp acc.length) = (List.range' 0 acc.length).map fun i => V.int (i : Nat) := by
    unfold iv ramp nums Km349Neutral.nums
    rw [List.map_map, List.range_eq_range']
    rfl
  rw [e]
  refine go acc 0 fun j v hj => ?_
  obtain ⟨t, e2⟩ := h j v hj
  exact ⟨t, by rw [e2]; congr 1; omega⟩
theorem pe_listRange {e : Expr} {t : TA} {p p2 pos pos2 : Pos} (hc : X.calm = true) (hg : Gl X "list") (hm : X.mg "list" = none) (hg2 : Gl X "range") (hm2 : X.mg "range" = none) (ha : PA X [e] t)
    (hs : starEach [e] X.env = [(false, eval e X.env)] := by rfl)
    (hs2 : starEach [.Call (.Name "range" p2) [e] [] pos2] X.env = [(false, eval (.Call (.Name "range" p2) [e] [] pos2) X.env)] := by rfl) :
    PE X (.Call (.Name "list" p) [.Call (.Name "range" p2) [e] [] pos2] [] pos) (tLR t) := by
  intro pins s σ H Q I h
  refine wpAny_Call_Name_kw (ld_blt I hg hm boot_listX ?_)
  refine PyProof.Rows.callWith_type1 ?_ hs2 rfl
  rw [hs2]
  refine Calls.spliced_cons ?_
  refine Call_ (ld_blt I hg2 hm2 boot_range (PyProof.Rows.callWith_type1 (thn (ha pos2 pins s σ H _ I h) fun us s1 ⟨vs, H1, I1, r1, q1⟩ => ?_) hs rfl))
  obtain ⟨n, rfl, hn, q⟩ := q1
  obtain ⟨u, rfl, k, rfl⟩ := vals1 r1
  refine call_range_1 (Calls.spliced_nil ?_)
  refine call_list_range (I1.ok.hd hc) (IsRange.new ..) (small_one (by omega) (by omega) (by omega) (by omega)) (n := n) ?_ (by omega) fun h' tk acc' c' hk hS' hacc => ?_
  · rw [rangeSize_one]
    split <;> omega
  · have hz : (iv (ramp n)).length ≤ sizeLine := small (by rw [iv_length]; unfold ramp; rw [nums_length, List.length_range]; exact hn)
    refine ⟨.ref _, _, I1.laid (o := .lst (iv (ramp n))) (fun b o e => hk b o (Heap.get?_push_of_some _ e)) (by rw [Heap.size_push]; exact Nat.le_succ _) ⟨hz, acc'.toList, c', ramp_vals (by rw [Array.length_toList]; exact hacc.1) (fun j v hj => hacc.2 j v (by simpa using hj)), by simpa using hS'⟩, rfl, q _ (I1.hok.fresh (by rw [Heap.size_push]; exact Nat.le_succ _))⟩
end
/-! ### min of a list of pairs -/
theorem ad_lt {a z n : Nat} (h : a < n) (e : z = n + 1) : z ≠ a := by omega
theorem ad_ne {a n : Nat} (h : a < n) : a ≠ n := by omega
theorem best_of {bt : Nat → Nat → Bool} (irr : ∀ i, bt i i = false) (tr : ∀ i j k, bt i j = true → bt j k = true → bt i k = true) : ∀ k, argBest bt k ≤ k ∧ ∀ j, j ≤ k → bt j (argBest bt k) = false
  | 0 => ⟨Nat.le_refl _, fun j hj => by
    have e : j = 0 := by omega
    subst e
    exact irr 0⟩
  | k + 1 => by
    obtain ⟨h1, h2⟩ := best_of irr tr k
    show (if bt (k + 1) (argBest bt k) then k + 1 else argBest bt k) ≤ k + 1 ∧ ∀ j, j ≤ k + 1 → bt j (if bt (k + 1) (argBest bt k) then k + 1 else argBest bt k) = false
    cases hb : bt (k + 1) (argBest bt k) with
    | true =>
      refine ⟨Nat.le_refl _, fun j hj => ?_⟩
      show bt j (k + 1) = false
      by_cases e : j = k + 1
      · rw [e]
        exact irr _
      · cases q : bt j (k + 1) with
        | false => rfl
        | true =>
          have z := tr _ _ _ q hb
          rw [h2 j (by omega)] at z
          cases z
    | false =>
      refine ⟨Nat.le_succ_of_le h1, fun j hj => ?_⟩
      show bt j (argBest bt k) = false
      by_cases e : j = k + 1
      · rw [e]
        exact hb
      · exact h2 j (by omega)
section
variable {prog : Program} {w : World} {A : Around} {R : Result → Shared → Prop} {it : Addr} {fp wr : List Addr} {n : Nat} {P : Nat → Value → Prop} {St : Nat → Heap → Prop}
/-- one comes before the other, as the heap stands -/
def CmpIn (prog : Program) (w : World) (A : Around) (P : Nat → Value → Prop) (bt : Nat → Nat → Bool) (G : Heap → Prop) : Prop :=
  ∀ i j x y (s : Shared) (Q : Value → Shared → Prop) (E : Value → Shared → Prop), G s.heap → P i x → P j y → Q (.bool (bt i j)) s → wpAny (model prog w) A (richCompare .Lt x y) Q E s
theorem min_turns (W : Walks prog w A.in1 it fp wr n P St) (bt : Nat → Nat → Bool) (G : Heap → Prop) (cm : CmpIn prog w A.in1 P bt G) (z : Addr) (hz : z ∉ fp)
    (hG : ∀ h h', G h → (∀ b o, b ∉ wr → b ≠ z → h.get? b = some o → h'.get? b = some o) → G h') :
    ∀ (m j : Nat) (s : Shared) (best : Value) (c : Nat), n - (j + 1) = m → j + 1 ≤ n → St (j + 1) s.heap → G s.heap → P (argBest bt j) best → s.heap.get? z = some { cls := .type "list", dict := none, data := .seq #[best, best] c, slots := #[] } →
    (∀ v h' tk, P (argBest bt (n - 1)) v → (∀ b o, b ∉ wr → b ≠ z → s.heap.get? b = some o → h'.get? b = some o) → R (.ok (.ret v)) { s with heap := h', toks := tk }) → codeAny (model prog w) A (.builtin "min.loop" ⟨[.ref it, .none, .ref z], []⟩) R s := by
  have hzw : z ∉ wr := fun q => hz (W.sub _ q)
  have nm : (toString "min" ++ toString ".loop" : String) = "min.loop" := by decide
  intro m
  induction m with
  | zero =>
    intro j s best c e1 e2 st gg pb ez ok
    have e3 : j + 1 = n := by omega
    refine codeAny_builtin F.entry_min_loop ?_
    rw [Around.under_plainId F.plain_min_loop _]
    refine wpAny_bind (m := seqItems? (.ref z)) (wpAny_seqItems ez rfl ?_)
    refine wpAny_bind (m := tryCatch (pyNext (.ref it)) _) (wpAny_tryCatch (W.done s _ _ (e3 ▸ st) fun h' tk kp => ?_))
    have ez' := kp z _ hzw ez
    refine wpAny_bind (m := updateSeq z fun _ => #[]) (wpAny_updateSeq ez' rfl (wpAny_bind (wpAny_letGo (wpAny_pure ?_))))
    exact ok best _ tk (by rw [← e3]; exact pb) fun b o hb hb' q => (Heap.get?_update_other _ _ (Ne.symm hb')).trans (kp b o hb q)
  | succ m ih =>
    intro j s best c e1 e2 st gg pb ez ok
    have lt : j + 1 < n := by omega
    refine codeAny_builtin F.entry_min_loop ?_
    rw [Around.under_plainId F.plain_min_loop _]
    refine wpAny_bind (m := seqItems? (.ref z)) (wpAny_seqItems ez rfl ?_)
    refine wpAny_bind (m := tryCatch (pyNext (.ref it)) _) (wpAny_tryCatch (W.item (j + 1) s _ _ lt st fun v h' tk pv' st' kp => ?_))
    have ez' := kp z _ hzw ez
    have gg' : G h' := hG _ _ gg fun b o hb _ q => kp b o hb q
    show wpAny _ A.in1 (tryCatch (holding [v, v] (richCompare .Lt v best >>= _)) _ >>= _) _ _ _
    refine wpAny_bind (wpAny_tryCatch (wpAny_holding (wpAny_bind (cm (j + 1) (argBest bt j) v best _ _ _ gg' pv' pb ?_))))
    refine wpAny_bind (wpAny_holding (wpAny_truthy_bool (wpAny_bind (wpAny_letGo (wpAny_pure ?_)))))
    cases q0 : bt (j + 1) (argBest bt j) with
    | true =>
      simp only [if_true]
      refine wpAny_bind (wpAny_updateSeq ez' rfl (wpAny_bind (wpAny_letGo ?_)))
      rw [nm]
      have up : ∀ b o, b ≠ z → h'.get? b = some o → (h'.update z (Obj.mapSeq fun _ => #[v, v])).get? b = some o := fun b o hb q => (Heap.get?_update_other _ _ (Ne.symm hb)).trans q
      refine wpAny_pure ⟨plainId_quiet F.plain_min_loop _, ih (j + 1) _ v _ (by omega) lt (W.frame _ _ _ st' fun b hb o q => up b o (fun t => hz (t ▸ hb)) q) (hG _ _ gg' fun b o _ hb q => up b o hb q) (by simp only [argBest, q0, if_true]; exact pv') (Heap.get?_update_self _ ez' rfl) fun v' h2 tk2 p2 k2 => ?_⟩
      exact ok v' h2 tk2 p2 fun b o hb hb' q => k2 b o hb hb' (up b o hb' (kp b o hb q))
    | false =>
      simp only [Bool.false_eq_true, if_false]
      refine wpAny_bind (wpAny_letGo ?_)
      rw [nm]
      refine wpAny_pure ⟨plainId_quiet F.plain_min_loop _, ih (j + 1) _ best c (by omega) lt st' gg' (by simp only [argBest, q0, Bool.false_eq_true, if_false]; exact pb) ez' fun v' h2 tk2 p2 k2 => ?_⟩
      exact ok v' h2 tk2 p2 fun b o hb hb' q => k2 b o hb hb' (kp b o hb q)
end
section
variable {X : Cx}
def rMinT (K : PySem.W.Frag) : List V → Hp → VK → Prop := fun vs H Q => ∃ (a : Addr) (ps : List (Addr × Int × Int)), vs = [V.ref a] ∧ SqL K H a (ps.map fun p => V.ref p.1) ∧ (∀ p ∈ ps, SqT K H p.1 [.int p.2.1, .int p.2.2]) ∧ 0 < ps.length ∧
  ∀ p ∈ ps, (∀ q ∈ ps, p.2.1 < q.2.1 ∨ (p.2.1 = q.2.1 ∧ p.2.2 ≤ q.2.2)) → Q (.ref p.1) H
def lt2 (a b : Int × Int) : Bool := if a.1 = b.1 then decide (a.2 < b.2) else decide (a.1 < b.1)
theorem lt2_lex (a b : Int × Int) : HT.lexLt [a.1, a.2] [b.1, b.2] = lt2 a b := by
  unfold lt2
  rw [HT.lexLt_cons]
  split
  · rw [HT.lexLt_cons, HT.lexLt_nil_nil]
    split
    · exact (decide_eq_false (by omega)).symm
    · rfl
  · rfl
theorem lt2_irr (a : Int × Int) : lt2 a a = false := by
  unfold lt2
  rw [if_pos rfl]
  exact decide_eq_false (by omega)
theorem lt2_iff {a b : Int × Int} : lt2 a b = true ↔ a.1 < b.1 ∨ (a.1 = b.1 ∧ a.2 < b.2) := by
  unfold lt2
  split
  · rw [decide_eq_true_eq]; omega
  · rw [decide_eq_true_eq]; omega
theorem lt2_tr {a b c : Int × Int} (h : lt2 a b = true) (g : lt2 b c = true) : lt2 a c = true := by
  rw [lt2_iff] at h g ⊢
  omega
theorem refs_vals {α : Type} {f : α → Addr} : ∀ {ps : List α} {its : List Value}, Vals (ps.map fun p => V.ref (f p)) its → its = ps.map fun p => Value.ref (f p)
  | [], its, h => by
    rw [List.map_nil] at h
    cases h
    rfl
  | p :: ps, its, h => by
    rw [List.map_cons] at h
    cases h with
    | cons r t =>
      cases r
      rw [refs_vals t, List.map_cons]
theorem cr_minT (hc : X.calm = true) (hu : X.A.units + 1 < cLine) : CallR X (.builtin "min") (rMinT X.K) := by
  intro pins s σ H vs us Q I r h
  obtain ⟨a, ps, rfl, hs, ht, hne, q⟩ := h
  obtain ⟨its, rv, hl, _⟩ := I.list hs
  rw [Vals.ref1 r]
  have ei := refs_vals rv
  have hlen : its.length = ps.length := by rw [ei, List.length_map]
  have tup : ∀ p ∈ ps, ∃ items : Array Value, IsTup s.heap p.1 items ∧ IntsAre items.toList [p.2.1, p.2.2] := fun p hp => by
    obtain ⟨js, r1, p1, _⟩ := I.tuple (ht p hp)
    exact ⟨js.toArray, p1, intsAre_of (ns := [p.2.1, p.2.2]) r1⟩
  have nm : (toString "min" ++ toString ".loop" : String) = "min.loop" := by decide
  refine call_function_tree F.kind_min F.plain_min F.entry_min (F.args_min1 _) ?_
  refine wpAny_bind (m := Builtin.Builtins.bindParams "min" ["key", "default"] 0 ⟨[], []⟩) (wpAny_of_eq (show Builtin.Builtins.bindParams "min" ["key", "default"] 0 ⟨[], []⟩ = pure [none, none] from rfl) ?_)
  refine wpAny_bind (wpAny_pure (wpAny_bind (iter_any hl.isList fun s2 e2 st0 hne0 => ?_)))
  have hW := Walks.list (prog := X.prog) (w := X.w) (A := X.A.in1) (I.ok.hd hc) s.heap.objs.size a hne0 its.toArray
  refine wpAny_bind (wpAny_newObj_type ?_)
  rw [nm]
  have keep2 : ∀ b o, s.heap.get? b = some o → s2.heap.get? b = some o := fun b o e => by rw [e2]; exact Heap.get?_push_of_some _ e
  have sz2 : s2.heap.objs.size = s.heap.objs.size + 1 := by rw [e2]; exact Heap.size_push ..
  have key : ∀ (i : Nat) (v : Value), its.toArray[i]? = some v → ∃ p : Addr × Int × Int, ps[i]? = some p ∧ v = Value.ref p.1 := fun i v e => by
    have e' : its[i]? = some v := by simpa using e
    rw [ei, List.getElem?_map] at e'
    obtain ⟨p, hp, rfl⟩ := Option.map_eq_some_iff.mp e'
    exact ⟨p, hp, rfl⟩
  let at' : Nat → Int × Int := fun i => (ps.getD i (0, 0, 0)).2
  have at_of' : ∀ {i : Nat} {p : Addr × Int × Int}, ps[i]? = some p → at' i = p.2 := fun {i p} e => by
    show (ps.getD i (0, 0, 0)).2 = p.2
    rw [List.getD_eq_getElem?_getD, e]
    rfl
  let bt : Nat → Nat → Bool := fun i j => lt2 (at' i) (at' j)
  let G : Heap → Prop := fun h => ∀ p ∈ ps, ∃ items : Array Value, p.1 < s.heap.objs.size ∧ IsTup h p.1 items ∧ IntsAre items.toList [p.2.1, p.2.2]
  have cm : CmpIn X.prog X.w X.A.in1 (fun i v => its.toArray[i]? = some v) bt G := by
    intro i j x y t Q' E' g hi hj hq
    obtain ⟨p, hp, rfl⟩ := key i x hi
    obtain ⟨p', hp', rfl⟩ := key j y hj
    obtain ⟨m1, _, t1, i1⟩ := g p (List.mem_of_getElem? hp)
    obtain ⟨m2, _, t2, i2⟩ := g p' (List.mem_of_getElem? hp')
    refine HT.lt_tupInts t1 t2 i1 i2 hu ?_
    rw [lt2_lex, ← at_of' hp, ← at_of' hp']
    exact hq
  have g0 : G (s2.heap.push { cls := .type "list", data := .seq ([] : List Value).toArray }) := fun p hp => by
    obtain ⟨items, ⟨o, ho, hc', n', hd⟩, hi⟩ := tup p hp
    exact ⟨items, Heap.lt_size ho, ⟨o, Heap.get?_push_of_some _ (keep2 _ _ ho), hc', n', hd⟩, hi⟩
  generalize hz : s2.heap.objs.size = z
  have hzs : z = s.heap.objs.size + 1 := hz.symm.trans sz2
  have hal : a < s.heap.objs.size := by
    obtain ⟨_, e, _⟩ := hl.isList
    exact Heap.lt_size e
  have zf : z ∉ [s.heap.objs.size, a] := fun m => by
    rcases List.mem_cons.mp m with m | m
    · omega
    · have : z = a := by simpa using m
      exact ad_lt hal hzs this
  have ez : (s2.heap.push { cls := .type "list", data := .seq ([] : List Value).toArray }).get? z = some { cls := .type "list", dict := none, data := .seq #[] 0, slots := #[] } := by
    rw [← hz]
    exact Heap.get?_push_size _ rfl
  have hG : ∀ h h', G h → (∀ b o, b ∉ [s.heap.objs.size] → b ≠ z → h.get? b = some o → h'.get? b = some o) → G h' := fun h h' g kp p hp => by
    obtain ⟨items, lt, ⟨o, ho, hc', n', hd⟩, hi⟩ := g p hp
    refine ⟨items, lt, ⟨o, kp _ _ (fun m => ?_) (fun m => ?_) ho, hc', n', hd⟩, hi⟩
    · have : p.1 = s.heap.objs.size := by simpa using m
      exact ad_ne lt this
    · exact ad_lt lt hzs m.symm
  have st1 : (s2.heap.push { cls := .type "list", data := .seq ([] : List Value).toArray }).IsListIter s.heap.objs.size a 0 ∧ (s2.heap.push { cls := .type "list", data := .seq ([] : List Value).toArray }).IsList a its.toArray :=
    hW.frame 0 s2.heap _ st0 fun b _ o e => Heap.get?_push_of_some _ e
  have n0 : 0 < its.toArray.size := by
    rw [List.size_toArray, hlen]
    exact hne
  generalize hs3 : ({ s2 with heap := s2.heap.push { cls := .type "list", data := .seq ([] : List Value).toArray } } : Shared) = s3
  have e3 : s3.heap = s2.heap.push { cls := .type "list", data := .seq ([] : List Value).toArray } := by rw [← hs3]
  have keep3 : ∀ b o, s.heap.get? b = some o → s3.heap.get? b = some o := fun b o e => by rw [e3]; exact Heap.get?_push_of_some _ (keep2 b o e)
  rw [← e3] at g0 ez st1
  refine wpAny_pure ⟨plainId_quiet F.plain_min_loop _, ?_⟩
  refine codeAny_builtin F.entry_min_loop ?_
  rw [Around.under_plainId F.plain_min_loop _]
  refine wpAny_bind (m := seqItems? (.ref z)) (wpAny_seqItems ez rfl ?_)
  refine wpAny_bind (m := tryCatch (pyNext (.ref s.heap.objs.size)) _) (wpAny_tryCatch (hW.item 0 s3 _ _ n0 st1 fun v h' tk pv' st' kp => ?_))
  have nz : z ∉ [s.heap.objs.size] := fun m => by
    have : z = s.heap.objs.size := by simpa using m
    omega
  have ez' := kp z _ nz ez
  refine wpAny_bind (m := updateSeq z fun _ => #[v, v]) (wpAny_updateSeq ez' rfl ?_)
  rw [nm]
  have up : ∀ b o, b ≠ z → h'.get? b = some o → (h'.update z (Obj.mapSeq fun _ => #[v, v])).get? b = some o := fun b o hb e => (Heap.get?_update_other _ _ (Ne.symm hb)).trans e
  refine wpAny_pure ⟨plainId_quiet F.plain_min_loop _, min_turns hW bt G cm z zf hG _ 0 _ v _ rfl n0 (hW.frame _ _ _ st' fun b hb o e => up b o (fun t => zf (t ▸ hb)) e) (hG _ _ g0 fun b o hb hb' e => up b o hb' (kp b o hb e)) pv' (Heap.get?_update_self _ ez' rfl) fun v' h2 tk2 p2 k2 => ?_⟩
  have hb := best_of (bt := bt) (fun i => lt2_irr _) (fun i j k h g => lt2_tr h g) (its.toArray.size - 1)
  obtain ⟨p, hp, rfl⟩ := key _ _ p2
  have kk : ∀ b o, s.heap.get? b = some o → h2.get? b = some o := fun b o e => by
    have lt := Heap.lt_size e
    have b1 : b ∉ [s.heap.objs.size] := fun m => by
      have : b = s.heap.objs.size := by simpa using m
      exact ad_ne lt this
    have b2 : b ≠ z := (ad_lt lt hzs).symm
    exact k2 b o b1 b2 (up b o b2 (kp b o b1 (keep3 b o e)))
  have J : Inv X pins σ H { s with heap := h2, toks := tk2 } := I.kept kk
  have es : ({ s3 with heap := h2, toks := tk2 } : Shared) = { s with heap := h2, toks := tk2 } := by rw [← hs3, e2]
  refine ⟨.ref p.1, H, ?_, rfl, q p (List.mem_of_getElem? hp) fun p' hp' => ?_⟩
  · exact es ▸ J
  · obtain ⟨j, hj⟩ := List.mem_iff_getElem?.mp hp'
    have lj : j < ps.length := (List.getElem?_eq_some_iff.mp hj).1
    have := hb.2 j (by rw [List.size_toArray, hlen]; omega)
    have this : lt2 (at' j) (at' _) = false := this
    rw [at_of' hj, at_of' hp] at this
    have nt : ¬ lt2 p'.2 p.2 = true := by rw [this]; decide
    rw [lt2_iff] at nt
    omega
end
end L2
/-! Helpers for stage 2: a number by its bytes, slices, == of lists of whole numbers. -/
namespace L2
open PySem PySem.Spec PyProof.Rows
/-! ### bits -/
theorem and_shift {x y k : Nat} (h : x < 2 ^ k) : x &&& (y * 2 ^ k) = 0 := by
  refine Nat.eq_of_testBit_eq fun i => ?_
  rw [Nat.testBit_and, Nat.zero_testBit, Nat.testBit_mul_two_pow]
  by_cases c : k ≤ i
  · rw [Nat.testBit_lt_two_pow (Nat.lt_of_lt_of_le h (Nat.pow_le_pow_right (by decide) c)), Bool.false_and]
  · rw [decide_eq_false c, Bool.false_and, Bool.and_false]
theorem or_shift {x y k : Nat} (h : x < 2 ^ k) : Builtin.bitOr (x : Int) ((y : Int) * 2 ^ k) = ((x + y * 2 ^ k : Nat) : Int) := by
  have e : ((y : Int) * 2 ^ k) = ((y * 2 ^ k : Nat) : Int) := by
    rw [Int.natCast_mul, Int.natCast_pow]
    rfl
  rw [e, bitOr_and, bitAnd_pp (Int.natCast_nonneg _) (Int.natCast_nonneg _), Int.toNat_natCast, Int.toNat_natCast, and_shift h]
  omega
theorem low4 {a b c d : Nat} (ha : a < 256) (hb : b < 256) (hc : c < 256) (hd : d < 256) :
    Builtin.bitOr (Builtin.bitOr (Builtin.bitOr (a : Int) ((b : Int) * 2 ^ (8 : Int).toNat)) ((c : Int) * 2 ^ (16 : Int).toNat)) ((d : Int) * 2 ^ (24 : Int).toNat) = ((Ms.num4v a b c d : Nat) : Int) := by
  show Builtin.bitOr (Builtin.bitOr (Builtin.bitOr (a : Int) ((b : Int) * 2 ^ 8)) ((c : Int) * 2 ^ 16)) ((d : Int) * 2 ^ 24) = _
  rw [or_shift (by omega), or_shift (by omega), or_shift (by omega)]
  unfold Ms.num4v
  congr 1
  omega
theorem has_bit (m c : Nat) : Builtin.bitAnd (m : Int) ((2 ^ c : Nat) : Int) = if Dp.has m c = true then ((2 ^ c : Nat) : Int) else 0 := by
  rw [bitAnd_pp (Int.natCast_nonneg _) (Int.natCast_nonneg _), Int.toNat_natCast, Int.toNat_natCast]
  have e : m &&& 2 ^ c = if Dp.has m c = true then 2 ^ c else 0 := by
    have hb : Dp.has m c = m.testBit c := by
      unfold Dp.has
      rw [Nat.testBit_eq_decide_div_mod_eq]
      rcases Nat.mod_two_eq_zero_or_one (m / 2 ^ c) with q | q <;> rw [q] <;> rfl
    rw [hb]
    refine Nat.eq_of_testBit_eq fun i => ?_
    rw [Nat.testBit_and, Nat.testBit_two_pow]
    by_cases q : c = i
    · subst q
      rw [decide_eq_true rfl, Bool.and_true]
      cases z : m.testBit c
      · rw [if_neg (by decide), Nat.zero_testBit]
      · rw [if_pos rfl, Nat.testBit_two_pow_self]
    · rw [decide_eq_false q, Bool.and_false]
      split
      · rw [Nat.testBit_two_pow, decide_eq_false q]
      · rw [Nat.zero_testBit]
  rw [e]
  split <;> rfl
theorem xor_bit {m c : Nat} (h : Dp.has m c = true) : Builtin.bitXor (m : Int) ((2 ^ c : Nat) : Int) = ((m - 2 ^ c : Nat) : Int) := by
  rw [bitXor_and, has_bit, if_pos h]
  have := Dp.has_ge h
  omega
/-! ### within a comprehension's block -/
theorem pi_listK {X : Cx} {K : PySem.W.Frag} {tg l : Expr} {tl : TE} (hk : X.K = K) (hl : PE X l tl) : PI X tg l (iList K tl) := hk ▸ pi_list hl
/-! ### readings by one lemma -/
/-! ### a def's parameters, bound by their places -/
theorem Fun.b1 {K : PySem.W.Frag} {x qual : Str} {st : Stmt} {f : Addr} {fd : FuncData} {p1 : Str} (F : Fun K x qual st f fd) (h : ∀ (kV doc pm : Value) (an : Option Addr) (cdv ct : Value) (u1 : Value), bindArgs (PySem.W.fnOf x qual (defArgs st) (defBody st) (defScope st) .none kV doc pm an cdv ct) ⟨[u1], []⟩ = pure (([p1] : List Str).zip [u1])) : Binds K fd [p1] [] :=
  F.binds (ps := [p1]) fun kV doc pm an cdv ct us hl => by
    match us, hl with
    | [u1], _ => exact h kV doc pm an cdv ct u1
theorem Fun.b2 {K : PySem.W.Frag} {x qual : Str} {st : Stmt} {f : Addr} {fd : FuncData} {p1 p2 : Str} (F : Fun K x qual st f fd) (h : ∀ (kV doc pm : Value) (an : Option Addr) (cdv ct : Value) (u1 u2 : Value), bindArgs (PySem.W.fnOf x qual (defArgs st) (defBody st) (defScope st) .none kV doc pm an cdv ct) ⟨[u1, u2], []⟩ = pure (([p1, p2] : List Str).zip [u1, u2])) : Binds K fd [p1, p2] [] :=
  F.binds (ps := [p1, p2]) fun kV doc pm an cdv ct us hl => by
    match us, hl with
    | [u1, u2], _ => exact h kV doc pm an cdv ct u1 u2
theorem Fun.b3 {K : PySem.W.Frag} {x qual : Str} {st : Stmt} {f : Addr} {fd : FuncData} {p1 p2 p3 : Str} (F : Fun K x qual st f fd) (h : ∀ (kV doc pm : Value) (an : Option Addr) (cdv ct : Value) (u1 u2 u3 : Value), bindArgs (PySem.W.fnOf x qual (defArgs st) (defBody st) (defScope st) .none kV doc pm an cdv ct) ⟨[u1, u2, u3], []⟩ = pure (([p1, p2, p3] : List Str).zip [u1, u2, u3])) : Binds K fd [p1, p2, p3] [] :=
  F.binds (ps := [p1, p2, p3]) fun kV doc pm an cdv ct us hl => by
    match us, hl with
    | [u1, u2, u3], _ => exact h kV doc pm an cdv ct u1 u2 u3
theorem Fun.b4 {K : PySem.W.Frag} {x qual : Str} {st : Stmt} {f : Addr} {fd : FuncData} {p1 p2 p3 p4 : Str} (F : Fun K x qual st f fd) (h : ∀ (kV doc pm : Value) (an : Option Addr) (cdv ct : Value) (u1 u2 u3 u4 : Value), bindArgs (PySem.W.fnOf x qual (defArgs st) (defBody st) (defScope st) .none kV doc pm an cdv ct) ⟨[u1, u2, u3, u4], []⟩ = pure (([p1, p2, p3, p4] : List Str).zip [u1, u2, u3, u4])) : Binds K fd [p1, p2, p3, p4] [] :=
  F.binds (ps := [p1, p2, p3, p4]) fun kV doc pm an cdv ct us hl => by
    match us, hl with
    | [u1, u2, u3, u4], _ => exact h kV doc pm an cdv ct u1 u2 u3 u4
/-! ### slices -/
theorem cut_mid {l : List Int} {a b : Nat} (h1 : a ≤ b) (h2 : b ≤ l.length) : cutV (iv l) (some (a : Int)) (some (b : Int)) = iv ((l.drop a).take (b - a)) := by
  unfold cutV
  rw [HT.sIx_nat, HT.sIx_nat, iv_length, Nat.min_eq_left h2, Nat.min_eq_left (Nat.le_trans h1 h2)]
  unfold iv
  rw [← List.map_drop, ← List.map_take]
theorem cut_from (l : List Int) (a : Nat) : cutV (iv l) (some (a : Int)) none = iv (l.drop a) := by
  unfold cutV
  rw [HT.sIx_nat, HT.sIx_none, iv_length]
  unfold iv
  rw [← List.map_drop, ← List.map_take]
  congr 1
  by_cases c : a ≤ l.length
  · rw [Nat.min_eq_left c, List.take_of_length_le (by rw [List.length_drop]; exact Nat.le_refl _)]
  · rw [Nat.min_eq_right (by omega), Nat.sub_self, List.take_zero, List.drop_of_length_le (by omega)]
theorem cut_to (l : List Int) (b : Nat) : cutV (iv l) none (some (b : Int)) = iv (l.take b) := by
  unfold cutV
  rw [HT.sIx_nat, HT.sIx_none, iv_length]
  unfold iv
  rw [List.drop_zero, ← List.map_take]
  congr 1
  by_cases c : b ≤ l.length
  · rw [Nat.min_eq_left c, Nat.sub_zero]
  · rw [Nat.min_eq_right (by omega), Nat.sub_zero, List.take_of_length_le (Nat.le_refl _), List.take_of_length_le (by omega)]
/-! ### == of lists of whole numbers -/
def di (ns : List Int) : PyData := .list (ns.map PyData.int)
theorem dp_ints {K : PySem.W.Frag} {H : Hp} {a : Addr} {ns : List Int} (h : SqL K H a (iv ns)) : Dp K H (.ref a) (di ns) := by
  refine .lst h ?_
  clear h
  induction ns with
  | nil => exact .nil
  | cons z ns ih => exact .cons (.int z) ih
theorem eqv_ints : ∀ ns ms : List Int, PyData.eqvAll (ns.map PyData.int) (ms.map PyData.int) = decide (ns = ms)
  | [], [] => by simp [PyData.eqvAll]
  | [], m :: ms => by simp [PyData.eqvAll]
  | n :: ns, [] => by simp [PyData.eqvAll]
  | n :: ns, m :: ms => by
    have ih := eqv_ints ns ms
    simp only [List.map_cons, PyData.eqvAll, PyData.eqv, ih]
    by_cases e : n = m <;> by_cases e2 : ns = ms <;> simp [e, e2]
theorem eqv_di (ns ms : List Int) : PyData.eqv (di ns) (di ms) = decide (ns = ms) := by
  unfold di
  simp only [PyData.eqv]
  exact eqv_ints ns ms
theorem canLay_ints : ∀ ns : List Int, PyData.canLayAll0 (ns.map PyData.int) = true
  | [] => by simp [PyData.canLayAll0]
  | n :: ns => by
    rw [List.map_cons]
    simp [PyData.canLayAll0, PyData.canLay0, canLay_ints ns]
theorem depth_ints : ∀ ns : List Int, PyData.depthAll (ns.map PyData.int) ≤ 1
  | [] => by simp [PyData.depthAll]
  | n :: ns => by
    have := depth_ints ns
    rw [List.map_cons]
    simp only [PyData.depthAll, PyData.depth]
    omega
theorem shaped_di (ns : List Int) : SeqAt.shaped (di ns) = true := by
  unfold SeqAt.shaped di
  have h1 : (PyData.list (ns.map PyData.int)).canLay0 = true := by simp only [PyData.canLay0]; exact canLay_ints ns
  have h2 : (PyData.list (ns.map PyData.int)).depth ≤ 64 := by
    have := depth_ints ns
    simp only [PyData.depth]
    omega
  rw [h1, decide_eq_true h2]
  rfl
theorem iv_at2 {l : List Nat} {i n : Nat} (h : l[i]? = some n) : (iv (nums l))[i]? = some (V.int n) := by
  refine iv_at (z := (n : Int)) ?_
  unfold nums Km349Neutral.nums
  rw [List.getElem?_map, h]
  rfl
theorem nums_inj {a b : List Nat} (h : nums a = nums b) : a = b := by
  have := congrArg Km349Neutral.nats h
  rw [nats_nums, nats_nums] at this
  exact this
end L2
/-! The text by places; what the top has written. -/
namespace My
open PySem PySem.Spec PyProof.Rows L2
def tab_BITS : List Int := [1, 2, 4, 8, 16, 32, 64, 128]
def tab_LENGTHS : List Int := [4, 3, 2, 3, 4, 3, 3, 4, 2, 3]
def top (i : Nat) : Stmt := PySem.Challenge.pw_oneorder_s01_answers.main.body.getD i (.Pass ⟨0, 0, 0, 0⟩)
abbrev s_candidates_fit : Stmt := top 5
abbrev s_rank_fits : Stmt := top 6
abbrev s_ranks_fit : Stmt := top 7
abbrev s_before_without_ballots : Stmt := top 8
abbrev s_count_ballot : Stmt := top 9
abbrev s_padded : Stmt := top 10
abbrev s_order_fits : Stmt := top 11
abbrev s_how_much_against : Stmt := top 12
abbrev s_sums_of_sets : Stmt := top 13
abbrev s_sums_if_ahead : Stmt := top 14
abbrev s_least_if_ahead : Stmt := top 15
abbrev s_members_of : Stmt := top 16
abbrev s_least_of_sets : Stmt := top 17
abbrev s_best_ahead : Stmt := top 18
abbrev s_order_of : Stmt := top 19
abbrev s_shifted_by_a_byte : Stmt := top 27
abbrev s_check_of : Stmt := top 28
abbrev s_low_byte_first : Stmt := top 29
abbrev s_from_low_byte_first : Stmt := top 30
abbrev s_with_check : Stmt := top 31
abbrev s_ballot_message : Stmt := top 32
abbrev s_closing_message : Stmt := top 33
abbrev s_kind_of : Stmt := top 34
abbrev s_booth_of : Stmt := top 35
abbrev s_number_of : Stmt := top 36
abbrev s_ranks_of : Stmt := top 37
abbrev s_is_right : Stmt := top 38
abbrev s_Booth_init : Stmt := inClass (top 47) 0
abbrev s_Booth_start : Stmt := inClass (top 47) 1
abbrev s_Booth_vote : Stmt := inClass (top 47) 2
abbrev s_Booth_close : Stmt := inClass (top 47) 3
abbrev s_Booth_again : Stmt := inClass (top 47) 4
abbrev s_Office_init : Stmt := inClass (top 49) 0
abbrev s_Office_start : Stmt := inClass (top 49) 1
abbrev s_Office_heard : Stmt := inClass (top 49) 2
abbrev s_Office_heard_closing : Stmt := inClass (top 49) 3
abbrev s_Office_heard_ballot : Stmt := inClass (top 49) 4
abbrev s_Office_first_not_heard : Stmt := inClass (top 49) 5
abbrev s_Office_is_whole : Stmt := inClass (top 49) 6
abbrev s_Office_is_final : Stmt := inClass (top 49) 7
abbrev s_Office_lacks : Stmt := inClass (top 49) 8
abbrev s_Office_prefer : Stmt := inClass (top 49) 9
abbrev s_Office_order : Stmt := inClass (top 49) 10
abbrev s_Office_against : Stmt := inClass (top 49) 11
abbrev s_end_of_call : Stmt := top 63
abbrev s_booth_answer : Stmt := top 64
abbrev s_office_answer : Stmt := top 65
abbrev s_answer_of : Stmt := top 66
abbrev s_answers : Stmt := top 67
set_option genInjectivity false in
set_option genSizeOf false in
structure Ad where
  c_Booth : Addr
  c_Office : Addr
  r_BITS : Addr
  r_LENGTHS : Addr
  f_candidates_fit : Addr
  d_candidates_fit : FuncData
  f_rank_fits : Addr
  d_rank_fits : FuncData
  f_ranks_fit : Addr
  d_ranks_fit : FuncData
  f_before_without_ballots : Addr
  d_before_without_ballots : FuncData
  f_count_ballot : Addr
  d_count_ballot : FuncData
  f_padded : Addr
  d_padded : FuncData
  f_order_fits : Addr
  d_order_fits : FuncData
  f_how_much_against : Addr
  d_how_much_against : FuncData
  f_sums_of_sets : Addr
  d_sums_of_sets : FuncData
  f_sums_if_ahead : Addr
  d_sums_if_ahead : FuncData
  f_least_if_ahead : Addr
  d_least_if_ahead : FuncData
  f_members_of : Addr
  d_members_of : FuncData
  f_least_of_sets : Addr
  d_least_of_sets : FuncData
  f_best_ahead : Addr
  d_best_ahead : FuncData
  f_order_of : Addr
  d_order_of : FuncData
  f_shifted_by_a_byte : Addr
  d_shifted_by_a_byte : FuncData
  f_check_of : Addr
  d_check_of : FuncData
  f_low_byte_first : Addr
  d_low_byte_first : FuncData
  f_from_low_byte_first : Addr
  d_from_low_byte_first : FuncData
  f_with_check : Addr
  d_with_check : FuncData
  f_ballot_message : Addr
  d_ballot_message : FuncData
  f_closing_message : Addr
  d_closing_message : FuncData
  f_kind_of : Addr
  d_kind_of : FuncData
  f_booth_of : Addr
  d_booth_of : FuncData
  f_number_of : Addr
  d_number_of : FuncData
  f_ranks_of : Addr
  d_ranks_of : FuncData
  f_is_right : Addr
  d_is_right : FuncData
  f_Booth_init : Addr
  d_Booth_init : FuncData
  f_Booth_start : Addr
  d_Booth_start : FuncData
  f_Booth_vote : Addr
  d_Booth_vote : FuncData
  f_Booth_close : Addr
  d_Booth_close : FuncData
  f_Booth_again : Addr
  d_Booth_again : FuncData
  f_Office_init : Addr
  d_Office_init : FuncData
  f_Office_start : Addr
  d_Office_start : FuncData
  f_Office_heard : Addr
  d_Office_heard : FuncData
  f_Office_heard_closing : Addr
  d_Office_heard_closing : FuncData
  f_Office_heard_ballot : Addr
  d_Office_heard_ballot : FuncData
  f_Office_first_not_heard : Addr
  d_Office_first_not_heard : FuncData
  f_Office_is_whole : Addr
  d_Office_is_whole : FuncData
  f_Office_is_final : Addr
  d_Office_is_final : FuncData
  f_Office_lacks : Addr
  d_Office_lacks : FuncData
  f_Office_prefer : Addr
  d_Office_prefer : FuncData
  f_Office_order : Addr
  d_Office_order : FuncData
  f_Office_against : Addr
  d_Office_against : FuncData
  f_end_of_call : Addr
  d_end_of_call : FuncData
  f_booth_answer : Addr
  d_booth_answer : FuncData
  f_office_answer : Addr
  d_office_answer : FuncData
  f_answer_of : Addr
  d_answer_of : FuncData
  f_answers : Addr
  d_answers : FuncData
structure Txt (K : PySem.W.Frag) (mg : Str → Option Value) (a : Ad) : Prop where
  g_LEAST_CANDIDATES : ∃ t, mg "LEAST_CANDIDATES" = some (.int 2 t)
  g_MOST_CANDIDATES : ∃ t, mg "MOST_CANDIDATES" = some (.int 8 t)
  g_NOBODY : ∃ t, mg "NOBODY" = some (.int 255 t)
  g_BALLOT : ∃ t, mg "BALLOT" = some (.int 1 t)
  g_CLOSING : ∃ t, mg "CLOSING" = some (.int 2 t)
  g_MOST_BOOTHS : ∃ t, mg "MOST_BOOTHS" = some (.int 8 t)
  g_MOST_BALLOTS : ∃ t, mg "MOST_BALLOTS" = some (.int 4096 t)
  g_ONES : ∃ t, mg "ONES" = some (.int 4294967295 t)
  g_POLYNOMIAL : ∃ t, mg "POLYNOMIAL" = some (.int 2197175160 t)
  g_NOT_THERE : ∃ t, mg "NOT_THERE" = some (.int (-2) t)
  g_CLOSED : ∃ t, mg "CLOSED" = some (.int (-11) t)
  g_NOTHING_LACKS : ∃ t, mg "NOTHING_LACKS" = some (.int (-11) t)
  g_NOT_CLOSED : ∃ t, mg "NOT_CLOSED" = some (.int (-16) t)
  g_WRONG : ∃ t, mg "WRONG" = some (.int (-22) t)
  g_FULL : ∃ t, mg "FULL" = some (.int (-28) t)
  g_NOT_RIGHT : ∃ t, mg "NOT_RIGHT" = some (.int (-71) t)
  g_VB_START : ∃ t, mg "VB_START" = some (.int 0 t)
  g_VB_VOTE : ∃ t, mg "VB_VOTE" = some (.int 1 t)
  g_VB_CLOSE : ∃ t, mg "VB_CLOSE" = some (.int 2 t)
  g_VB_AGAIN : ∃ t, mg "VB_AGAIN" = some (.int 3 t)
  g_VO_START : ∃ t, mg "VO_START" = some (.int 4 t)
  g_VO_HEARD : ∃ t, mg "VO_HEARD" = some (.int 5 t)
  g_VO_LACKS : ∃ t, mg "VO_LACKS" = some (.int 6 t)
  g_VO_PREFER : ∃ t, mg "VO_PREFER" = some (.int 7 t)
  g_VO_ORDER : ∃ t, mg "VO_ORDER" = some (.int 8 t)
  g_VO_AGAINST : ∃ t, mg "VO_AGAINST" = some (.int 9 t)
  g_BOOTHS_OF_A_LIST : ∃ t, mg "BOOTHS_OF_A_LIST" = some (.int 4 t)
  g_BITS : mg "BITS" = some (.ref a.r_BITS)
  o_BITS : TupK K a.r_BITS tab_BITS
  g_LENGTHS : mg "LENGTHS" = some (.ref a.r_LENGTHS)
  o_LENGTHS : TupK K a.r_LENGTHS tab_LENGTHS
  z_len : mg "len" = none
  z_range : mg "range" = none
  z_list : mg "list" = none
  z_enumerate : mg "enumerate" = none
  z_sorted : mg "sorted" = none
  z_min : mg "min" = none
  z_all : mg "all" = none
  cl_Booth : Cls K a.c_Booth
  m_Booth : mg "Booth" = some (.ref a.c_Booth)
  mk_Booth : Mk K a.c_Booth a.f_Booth_init
  n_Booth_me : NoAttr K a.c_Booth "me"
  n_Booth_candidates : NoAttr K a.c_Booth "candidates"
  n_Booth_ballots : NoAttr K a.c_Booth "ballots"
  n_Booth_closed : NoAttr K a.c_Booth "closed"
  cl_Office : Cls K a.c_Office
  m_Office : mg "Office" = some (.ref a.c_Office)
  mk_Office : Mk K a.c_Office a.f_Office_init
  n_Office_candidates : NoAttr K a.c_Office "candidates"
  n_Office_booths : NoAttr K a.c_Office "booths"
  n_Office_ballots : NoAttr K a.c_Office "ballots"
  n_Office_closings : NoAttr K a.c_Office "closings"
  n_Office_before : NoAttr K a.c_Office "before"
  n_Office_found : NoAttr K a.c_Office "found"
  F_candidates_fit : Fun K "candidates_fit" "candidates_fit" s_candidates_fit a.f_candidates_fit a.d_candidates_fit
  b_candidates_fit : Binds K a.d_candidates_fit ["candidates"] []
  m_candidates_fit : mg "candidates_fit" = some (.ref a.f_candidates_fit)
  F_rank_fits : Fun K "rank_fits" "rank_fits" s_rank_fits a.f_rank_fits a.d_rank_fits
  b_rank_fits : Binds K a.d_rank_fits ["candidate", "rank", "candidates"] []
  m_rank_fits : mg "rank_fits" = some (.ref a.f_rank_fits)
  F_ranks_fit : Fun K "ranks_fit" "ranks_fit" s_ranks_fit a.f_ranks_fit a.d_ranks_fit
  b_ranks_fit : Binds K a.d_ranks_fit ["ranks", "candidates"] []
  m_ranks_fit : mg "ranks_fit" = some (.ref a.f_ranks_fit)
  F_before_without_ballots : Fun K "before_without_ballots" "before_without_ballots" s_before_without_ballots a.f_before_without_ballots a.d_before_without_ballots
  b_before_without_ballots : Binds K a.d_before_without_ballots ["candidates"] []
  m_before_without_ballots : mg "before_without_ballots" = some (.ref a.f_before_without_ballots)
  F_count_ballot : Fun K "count_ballot" "count_ballot" s_count_ballot a.f_count_ballot a.d_count_ballot
  b_count_ballot : Binds K a.d_count_ballot ["before", "ranks"] []
  m_count_ballot : mg "count_ballot" = some (.ref a.f_count_ballot)
  F_padded : Fun K "padded" "padded" s_padded a.f_padded a.d_padded
  b_padded : Binds K a.d_padded ["order"] []
  m_padded : mg "padded" = some (.ref a.f_padded)
  F_order_fits : Fun K "order_fits" "order_fits" s_order_fits a.f_order_fits a.d_order_fits
  b_order_fits : Binds K a.d_order_fits ["row", "candidates"] []
  m_order_fits : mg "order_fits" = some (.ref a.f_order_fits)
  F_how_much_against : Fun K "how_much_against" "how_much_against" s_how_much_against a.f_how_much_against a.d_how_much_against
  b_how_much_against : Binds K a.d_how_much_against ["before", "order"] []
  m_how_much_against : mg "how_much_against" = some (.ref a.f_how_much_against)
  F_sums_of_sets : Fun K "sums_of_sets" "sums_of_sets" s_sums_of_sets a.f_sums_of_sets a.d_sums_of_sets
  b_sums_of_sets : Binds K a.d_sums_of_sets ["numbers"] []
  m_sums_of_sets : mg "sums_of_sets" = some (.ref a.f_sums_of_sets)
  F_sums_if_ahead : Fun K "sums_if_ahead" "sums_if_ahead" s_sums_if_ahead a.f_sums_if_ahead a.d_sums_if_ahead
  b_sums_if_ahead : Binds K a.d_sums_if_ahead ["before"] []
  m_sums_if_ahead : mg "sums_if_ahead" = some (.ref a.f_sums_if_ahead)
  F_least_if_ahead : Fun K "least_if_ahead" "least_if_ahead" s_least_if_ahead a.f_least_if_ahead a.d_least_if_ahead
  b_least_if_ahead : Binds K a.d_least_if_ahead ["sums", "least", "members", "ahead"] []
  m_least_if_ahead : mg "least_if_ahead" = some (.ref a.f_least_if_ahead)
  F_members_of : Fun K "members_of" "members_of" s_members_of a.f_members_of a.d_members_of
  b_members_of : Binds K a.d_members_of ["members", "candidates"] []
  m_members_of : mg "members_of" = some (.ref a.f_members_of)
  F_least_of_sets : Fun K "least_of_sets" "least_of_sets" s_least_of_sets a.f_least_of_sets a.d_least_of_sets
  b_least_of_sets : Binds K a.d_least_of_sets ["sums"] []
  m_least_of_sets : mg "least_of_sets" = some (.ref a.f_least_of_sets)
  F_best_ahead : Fun K "best_ahead" "best_ahead" s_best_ahead a.f_best_ahead a.d_best_ahead
  b_best_ahead : Binds K a.d_best_ahead ["sums", "least", "members"] []
  m_best_ahead : mg "best_ahead" = some (.ref a.f_best_ahead)
  F_order_of : Fun K "order_of" "order_of" s_order_of a.f_order_of a.d_order_of
  b_order_of : Binds K a.d_order_of ["before"] []
  m_order_of : mg "order_of" = some (.ref a.f_order_of)
  F_shifted_by_a_byte : Fun K "shifted_by_a_byte" "shifted_by_a_byte" s_shifted_by_a_byte a.f_shifted_by_a_byte a.d_shifted_by_a_byte
  b_shifted_by_a_byte : Binds K a.d_shifted_by_a_byte ["rest"] []
  m_shifted_by_a_byte : mg "shifted_by_a_byte" = some (.ref a.f_shifted_by_a_byte)
  F_check_of : Fun K "check_of" "check_of" s_check_of a.f_check_of a.d_check_of
  b_check_of : Binds K a.d_check_of ["numbers"] []
  m_check_of : mg "check_of" = some (.ref a.f_check_of)
  F_low_byte_first : Fun K "low_byte_first" "low_byte_first" s_low_byte_first a.f_low_byte_first a.d_low_byte_first
  b_low_byte_first : Binds K a.d_low_byte_first ["number"] []
  m_low_byte_first : mg "low_byte_first" = some (.ref a.f_low_byte_first)
  F_from_low_byte_first : Fun K "from_low_byte_first" "from_low_byte_first" s_from_low_byte_first a.f_from_low_byte_first a.d_from_low_byte_first
  b_from_low_byte_first : Binds K a.d_from_low_byte_first ["numbers"] []
  m_from_low_byte_first : mg "from_low_byte_first" = some (.ref a.f_from_low_byte_first)
  F_with_check : Fun K "with_check" "with_check" s_with_check a.f_with_check a.d_with_check
  b_with_check : Binds K a.d_with_check ["numbers"] []
  m_with_check : mg "with_check" = some (.ref a.f_with_check)
  F_ballot_message : Fun K "ballot_message" "ballot_message" s_ballot_message a.f_ballot_message a.d_ballot_message
  b_ballot_message : Binds K a.d_ballot_message ["booth", "number", "ranks"] []
  m_ballot_message : mg "ballot_message" = some (.ref a.f_ballot_message)
  F_closing_message : Fun K "closing_message" "closing_message" s_closing_message a.f_closing_message a.d_closing_message
  b_closing_message : Binds K a.d_closing_message ["booth", "ballots"] []
  m_closing_message : mg "closing_message" = some (.ref a.f_closing_message)
  F_kind_of : Fun K "kind_of" "kind_of" s_kind_of a.f_kind_of a.d_kind_of
  b_kind_of : Binds K a.d_kind_of ["message"] []
  m_kind_of : mg "kind_of" = some (.ref a.f_kind_of)
  F_booth_of : Fun K "booth_of" "booth_of" s_booth_of a.f_booth_of a.d_booth_of
  b_booth_of : Binds K a.d_booth_of ["message"] []
  m_booth_of : mg "booth_of" = some (.ref a.f_booth_of)
  F_number_of : Fun K "number_of" "number_of" s_number_of a.f_number_of a.d_number_of
  b_number_of : Binds K a.d_number_of ["message"] []
  m_number_of : mg "number_of" = some (.ref a.f_number_of)
  F_ranks_of : Fun K "ranks_of" "ranks_of" s_ranks_of a.f_ranks_of a.d_ranks_of
  b_ranks_of : Binds K a.d_ranks_of ["message"] []
  m_ranks_of : mg "ranks_of" = some (.ref a.f_ranks_of)
  F_is_right : Fun K "is_right" "is_right" s_is_right a.f_is_right a.d_is_right
  b_is_right : Binds K a.d_is_right ["message", "candidates"] []
  m_is_right : mg "is_right" = some (.ref a.f_is_right)
  F_Booth_init : Fun K "__init__" "Booth.__init__" s_Booth_init a.f_Booth_init a.d_Booth_init
  b_Booth_init : Binds K a.d_Booth_init ["self"] []
  F_Booth_start : Fun K "start" "Booth.start" s_Booth_start a.f_Booth_start a.d_Booth_start
  b_Booth_start : Binds K a.d_Booth_start ["self", "me", "candidates"] []
  M_Booth_start : Meth K a.c_Booth "start" a.f_Booth_start
  F_Booth_vote : Fun K "vote" "Booth.vote" s_Booth_vote a.f_Booth_vote a.d_Booth_vote
  b_Booth_vote : Binds K a.d_Booth_vote ["self", "ranks"] []
  M_Booth_vote : Meth K a.c_Booth "vote" a.f_Booth_vote
  F_Booth_close : Fun K "close" "Booth.close" s_Booth_close a.f_Booth_close a.d_Booth_close
  b_Booth_close : Binds K a.d_Booth_close ["self"] []
  M_Booth_close : Meth K a.c_Booth "close" a.f_Booth_close
  F_Booth_again : Fun K "again" "Booth.again" s_Booth_again a.f_Booth_again a.d_Booth_again
  b_Booth_again : Binds K a.d_Booth_again ["self", "number"] []
  M_Booth_again : Meth K a.c_Booth "again" a.f_Booth_again
  F_Office_init : Fun K "__init__" "Office.__init__" s_Office_init a.f_Office_init a.d_Office_init
  b_Office_init : Binds K a.d_Office_init ["self"] []
  F_Office_start : Fun K "start" "Office.start" s_Office_start a.f_Office_start a.d_Office_start
  b_Office_start : Binds K a.d_Office_start ["self", "candidates", "booths"] []
  M_Office_start : Meth K a.c_Office "start" a.f_Office_start
  F_Office_heard : Fun K "heard" "Office.heard" s_Office_heard a.f_Office_heard a.d_Office_heard
  b_Office_heard : Binds K a.d_Office_heard ["self", "message"] []
  M_Office_heard : Meth K a.c_Office "heard" a.f_Office_heard
  F_Office_heard_closing : Fun K "heard_closing" "Office.heard_closing" s_Office_heard_closing a.f_Office_heard_closing a.d_Office_heard_closing
  b_Office_heard_closing : Binds K a.d_Office_heard_closing ["self", "booth", "ballots"] []
  M_Office_heard_closing : Meth K a.c_Office "heard_closing" a.f_Office_heard_closing
  F_Office_heard_ballot : Fun K "heard_ballot" "Office.heard_ballot" s_Office_heard_ballot a.f_Office_heard_ballot a.d_Office_heard_ballot
  b_Office_heard_ballot : Binds K a.d_Office_heard_ballot ["self", "whose", "ranks"] []
  M_Office_heard_ballot : Meth K a.c_Office "heard_ballot" a.f_Office_heard_ballot
  F_Office_first_not_heard : Fun K "first_not_heard" "Office.first_not_heard" s_Office_first_not_heard a.f_Office_first_not_heard a.d_Office_first_not_heard
  b_Office_first_not_heard : Binds K a.d_Office_first_not_heard ["self", "booth"] []
  M_Office_first_not_heard : Meth K a.c_Office "first_not_heard" a.f_Office_first_not_heard
  F_Office_is_whole : Fun K "is_whole" "Office.is_whole" s_Office_is_whole a.f_Office_is_whole a.d_Office_is_whole
  b_Office_is_whole : Binds K a.d_Office_is_whole ["self", "booth"] []
  M_Office_is_whole : Meth K a.c_Office "is_whole" a.f_Office_is_whole
  F_Office_is_final : Fun K "is_final" "Office.is_final" s_Office_is_final a.f_Office_is_final a.d_Office_is_final
  b_Office_is_final : Binds K a.d_Office_is_final ["self"] []
  M_Office_is_final : Meth K a.c_Office "is_final" a.f_Office_is_final
  F_Office_lacks : Fun K "lacks" "Office.lacks" s_Office_lacks a.f_Office_lacks a.d_Office_lacks
  b_Office_lacks : Binds K a.d_Office_lacks ["self", "booth"] []
  M_Office_lacks : Meth K a.c_Office "lacks" a.f_Office_lacks
  F_Office_prefer : Fun K "prefer" "Office.prefer" s_Office_prefer a.f_Office_prefer a.d_Office_prefer
  b_Office_prefer : Binds K a.d_Office_prefer ["self", "x", "y"] []
  M_Office_prefer : Meth K a.c_Office "prefer" a.f_Office_prefer
  F_Office_order : Fun K "order" "Office.order" s_Office_order a.f_Office_order a.d_Office_order
  b_Office_order : Binds K a.d_Office_order ["self"] []
  M_Office_order : Meth K a.c_Office "order" a.f_Office_order
  F_Office_against : Fun K "against" "Office.against" s_Office_against a.f_Office_against a.d_Office_against
  b_Office_against : Binds K a.d_Office_against ["self", "row"] []
  M_Office_against : Meth K a.c_Office "against" a.f_Office_against
  F_end_of_call : Fun K "end_of_call" "end_of_call" s_end_of_call a.f_end_of_call a.d_end_of_call
  b_end_of_call : Binds K a.d_end_of_call ["calls", "at"] []
  m_end_of_call : mg "end_of_call" = some (.ref a.f_end_of_call)
  F_booth_answer : Fun K "booth_answer" "booth_answer" s_booth_answer a.f_booth_answer a.d_booth_answer
  b_booth_answer : Binds K a.d_booth_answer ["call", "booth"] []
  m_booth_answer : mg "booth_answer" = some (.ref a.f_booth_answer)
  F_office_answer : Fun K "office_answer" "office_answer" s_office_answer a.f_office_answer a.d_office_answer
  b_office_answer : Binds K a.d_office_answer ["call", "office"] []
  m_office_answer : mg "office_answer" = some (.ref a.f_office_answer)
  F_answer_of : Fun K "answer_of" "answer_of" s_answer_of a.f_answer_of a.d_answer_of
  b_answer_of : Binds K a.d_answer_of ["call", "booths", "office"] []
  m_answer_of : mg "answer_of" = some (.ref a.f_answer_of)
  F_answers : Fun K "answers" "answers" s_answers a.f_answers a.d_answers
  b_answers : Binds K a.d_answers ["calls"] []
  m_answers : mg "answers" = some (.ref a.f_answers)
theorem sc_candidates_fit : FnScope ["candidates"] ["candidates"] (defScope s_candidates_fit) := ⟨rfl, rfl, rfl, by decide +kernel, rfl, by decide +kernel, by decide +kernel⟩
theorem sc_rank_fits : FnScope ["candidate", "rank", "candidates"] ["candidate", "rank", "candidates"] (defScope s_rank_fits) := ⟨rfl, rfl, rfl, by decide +kernel, rfl, by decide +kernel, by decide +kernel⟩
theorem sc_ranks_fit : FnScope ["ranks", "candidates", "candidate", "rank"] ["ranks", "candidates"] (defScope s_ranks_fit) := ⟨rfl, rfl, rfl, by decide +kernel, rfl, by decide +kernel, by decide +kernel⟩
theorem sc_before_without_ballots : FnScope ["candidates", "candidate"] ["candidates"] (defScope s_before_without_ballots) := ⟨rfl, rfl, rfl, by decide +kernel, rfl, by decide +kernel, by decide +kernel⟩
theorem sc_count_ballot : FnScope ["before", "ranks", "x", "y"] ["before", "ranks"] (defScope s_count_ballot) := ⟨rfl, rfl, rfl, by decide +kernel, rfl, by decide +kernel, by decide +kernel⟩
theorem sc_padded : FnScope ["order"] ["order"] (defScope s_padded) := ⟨rfl, rfl, rfl, by decide +kernel, rfl, by decide +kernel, by decide +kernel⟩
theorem sc_order_fits : FnScope ["row", "candidates", "order"] ["row", "candidates"] (defScope s_order_fits) := ⟨rfl, rfl, rfl, by decide +kernel, rfl, by decide +kernel, by decide +kernel⟩
theorem sc_how_much_against : FnScope ["before", "order", "total", "place", "ahead", "behind"] ["before", "order"] (defScope s_how_much_against) := ⟨rfl, rfl, rfl, by decide +kernel, rfl, by decide +kernel, by decide +kernel⟩
theorem sc_sums_of_sets : FnScope ["numbers", "sums", "number", "total"] ["numbers"] (defScope s_sums_of_sets) := ⟨rfl, rfl, rfl, by decide +kernel, rfl, by decide +kernel, by decide +kernel⟩
theorem sc_sums_if_ahead : FnScope ["before", "ahead", "row"] ["before"] (defScope s_sums_if_ahead) := ⟨rfl, rfl, rfl, by decide +kernel, rfl, by decide +kernel, by decide +kernel⟩
theorem sc_least_if_ahead : FnScope ["sums", "least", "members", "ahead"] ["sums", "least", "members", "ahead"] (defScope s_least_if_ahead) := ⟨rfl, rfl, rfl, by decide +kernel, rfl, by decide +kernel, by decide +kernel⟩
theorem sc_members_of : FnScope ["members", "candidates", "candidate"] ["members", "candidates"] (defScope s_members_of) := ⟨rfl, rfl, rfl, by decide +kernel, rfl, by decide +kernel, by decide +kernel⟩
theorem sc_least_of_sets : FnScope ["sums", "least", "members", "ahead"] ["sums"] (defScope s_least_of_sets) := ⟨rfl, rfl, rfl, by decide +kernel, rfl, by decide +kernel, by decide +kernel⟩
theorem sc_best_ahead : FnScope ["sums", "least", "members", "ways", "ahead"] ["sums", "least", "members"] (defScope s_best_ahead) := ⟨rfl, rfl, rfl, by decide +kernel, rfl, by decide +kernel, by decide +kernel⟩
theorem sc_order_of : FnScope ["before", "sums", "least", "members", "order", "ahead"] ["before"] (defScope s_order_of) := ⟨rfl, rfl, rfl, by decide +kernel, rfl, by decide +kernel, by decide +kernel⟩
theorem sc_shifted_by_a_byte : FnScope ["rest", "bit"] ["rest"] (defScope s_shifted_by_a_byte) := ⟨rfl, rfl, rfl, by decide +kernel, rfl, by decide +kernel, by decide +kernel⟩
theorem sc_check_of : FnScope ["numbers", "rest", "number"] ["numbers"] (defScope s_check_of) := ⟨rfl, rfl, rfl, by decide +kernel, rfl, by decide +kernel, by decide +kernel⟩
theorem sc_low_byte_first : FnScope ["number"] ["number"] (defScope s_low_byte_first) := ⟨rfl, rfl, rfl, by decide +kernel, rfl, by decide +kernel, by decide +kernel⟩
theorem sc_from_low_byte_first : FnScope ["numbers"] ["numbers"] (defScope s_from_low_byte_first) := ⟨rfl, rfl, rfl, by decide +kernel, rfl, by decide +kernel, by decide +kernel⟩
theorem sc_with_check : FnScope ["numbers"] ["numbers"] (defScope s_with_check) := ⟨rfl, rfl, rfl, by decide +kernel, rfl, by decide +kernel, by decide +kernel⟩
theorem sc_ballot_message : FnScope ["booth", "number", "ranks"] ["booth", "number", "ranks"] (defScope s_ballot_message) := ⟨rfl, rfl, rfl, by decide +kernel, rfl, by decide +kernel, by decide +kernel⟩
theorem sc_closing_message : FnScope ["booth", "ballots"] ["booth", "ballots"] (defScope s_closing_message) := ⟨rfl, rfl, rfl, by decide +kernel, rfl, by decide +kernel, by decide +kernel⟩
theorem sc_kind_of : FnScope ["message"] ["message"] (defScope s_kind_of) := ⟨rfl, rfl, rfl, by decide +kernel, rfl, by decide +kernel, by decide +kernel⟩
theorem sc_booth_of : FnScope ["message"] ["message"] (defScope s_booth_of) := ⟨rfl, rfl, rfl, by decide +kernel, rfl, by decide +kernel, by decide +kernel⟩
theorem sc_number_of : FnScope ["message"] ["message"] (defScope s_number_of) := ⟨rfl, rfl, rfl, by decide +kernel, rfl, by decide +kernel, by decide +kernel⟩
theorem sc_ranks_of : FnScope ["message"] ["message"] (defScope s_ranks_of) := ⟨rfl, rfl, rfl, by decide +kernel, rfl, by decide +kernel, by decide +kernel⟩
theorem sc_is_right : FnScope ["message", "candidates", "booth", "number", "ranks"] ["message", "candidates"] (defScope s_is_right) := ⟨rfl, rfl, rfl, by decide +kernel, rfl, by decide +kernel, by decide +kernel⟩
theorem sc_Booth_init : FnScope ["self"] ["self"] (defScope s_Booth_init) := ⟨rfl, rfl, rfl, by decide +kernel, rfl, by decide +kernel, by decide +kernel⟩
theorem sc_Booth_start : FnScope ["self", "me", "candidates"] ["self", "me", "candidates"] (defScope s_Booth_start) := ⟨rfl, rfl, rfl, by decide +kernel, rfl, by decide +kernel, by decide +kernel⟩
theorem sc_Booth_vote : FnScope ["self", "ranks"] ["self", "ranks"] (defScope s_Booth_vote) := ⟨rfl, rfl, rfl, by decide +kernel, rfl, by decide +kernel, by decide +kernel⟩
theorem sc_Booth_close : FnScope ["self", "ballots"] ["self"] (defScope s_Booth_close) := ⟨rfl, rfl, rfl, by decide +kernel, rfl, by decide +kernel, by decide +kernel⟩
theorem sc_Booth_again : FnScope ["self", "number"] ["self", "number"] (defScope s_Booth_again) := ⟨rfl, rfl, rfl, by decide +kernel, rfl, by decide +kernel, by decide +kernel⟩
theorem sc_Office_init : FnScope ["self"] ["self"] (defScope s_Office_init) := ⟨rfl, rfl, rfl, by decide +kernel, rfl, by decide +kernel, by decide +kernel⟩
theorem sc_Office_start : FnScope ["self", "candidates", "booths"] ["self", "candidates", "booths"] (defScope s_Office_start) := ⟨rfl, rfl, rfl, by decide +kernel, rfl, by decide +kernel, by decide +kernel⟩
theorem sc_Office_heard : FnScope ["self", "message"] ["self", "message"] (defScope s_Office_heard) := ⟨rfl, rfl, rfl, by decide +kernel, rfl, by decide +kernel, by decide +kernel⟩
theorem sc_Office_heard_closing : FnScope ["self", "booth", "ballots"] ["self", "booth", "ballots"] (defScope s_Office_heard_closing) := ⟨rfl, rfl, rfl, by decide +kernel, rfl, by decide +kernel, by decide +kernel⟩
theorem sc_Office_heard_ballot : FnScope ["self", "whose", "ranks"] ["self", "whose", "ranks"] (defScope s_Office_heard_ballot) := ⟨rfl, rfl, rfl, by decide +kernel, rfl, by decide +kernel, by decide +kernel⟩
theorem sc_Office_first_not_heard : FnScope ["self", "booth", "number"] ["self", "booth"] (defScope s_Office_first_not_heard) := ⟨rfl, rfl, rfl, by decide +kernel, rfl, by decide +kernel, by decide +kernel⟩
theorem sc_Office_is_whole : FnScope ["self", "booth"] ["self", "booth"] (defScope s_Office_is_whole) := ⟨rfl, rfl, rfl, by decide +kernel, rfl, by decide +kernel, by decide +kernel⟩
theorem sc_Office_is_final : FnScope ["self", "booth"] ["self"] (defScope s_Office_is_final) := ⟨rfl, rfl, rfl, by decide +kernel, rfl, by decide +kernel, by decide +kernel⟩
theorem sc_Office_lacks : FnScope ["self", "booth", "number"] ["self", "booth"] (defScope s_Office_lacks) := ⟨rfl, rfl, rfl, by decide +kernel, rfl, by decide +kernel, by decide +kernel⟩
theorem sc_Office_prefer : FnScope ["self", "x", "y"] ["self", "x", "y"] (defScope s_Office_prefer) := ⟨rfl, rfl, rfl, by decide +kernel, rfl, by decide +kernel, by decide +kernel⟩
theorem sc_Office_order : FnScope ["self"] ["self"] (defScope s_Office_order) := ⟨rfl, rfl, rfl, by decide +kernel, rfl, by decide +kernel, by decide +kernel⟩
theorem sc_Office_against : FnScope ["self", "row"] ["self", "row"] (defScope s_Office_against) := ⟨rfl, rfl, rfl, by decide +kernel, rfl, by decide +kernel, by decide +kernel⟩
theorem sc_end_of_call : FnScope ["calls", "at", "end"] ["calls", "at"] (defScope s_end_of_call) := ⟨rfl, rfl, rfl, by decide +kernel, rfl, by decide +kernel, by decide +kernel⟩
theorem sc_booth_answer : FnScope ["call", "booth"] ["call", "booth"] (defScope s_booth_answer) := ⟨rfl, rfl, rfl, by decide +kernel, rfl, by decide +kernel, by decide +kernel⟩
theorem sc_office_answer : FnScope ["call", "office"] ["call", "office"] (defScope s_office_answer) := ⟨rfl, rfl, rfl, by decide +kernel, rfl, by decide +kernel, by decide +kernel⟩
theorem sc_answer_of : FnScope ["call", "booths", "office"] ["call", "booths", "office"] (defScope s_answer_of) := ⟨rfl, rfl, rfl, by decide +kernel, rfl, by decide +kernel, by decide +kernel⟩
theorem sc_answers : FnScope ["calls", "booths", "office", "answered", "at", "end", "answer", "number"] ["calls"] (defScope s_answers) := ⟨rfl, rfl, rfl, by decide +kernel, rfl, by decide +kernel, by decide +kernel⟩
def fl_Booth (v_me v_candidates v_ballots v_closed : V) : List (Str × V) := [("me", v_me), ("candidates", v_candidates), ("ballots", v_ballots), ("closed", v_closed)]
theorem lk_Booth_me (v_me v_candidates v_ballots v_closed : V) : (fl_Booth v_me v_candidates v_ballots v_closed).lookup ("me" : Str) = some v_me := by
  unfold fl_Booth
  exact lk_eq
theorem pu_Booth_me (v_me v_candidates v_ballots v_closed y : V) : putF "me" y (fl_Booth v_me v_candidates v_ballots v_closed) = fl_Booth y v_candidates v_ballots v_closed := by
  unfold fl_Booth
  rw [put_eq]
theorem lk_Booth_candidates (v_me v_candidates v_ballots v_closed : V) : (fl_Booth v_me v_candidates v_ballots v_closed).lookup ("candidates" : Str) = some v_candidates := by
  unfold fl_Booth
  rw [lk_ne (f := "candidates") (g := "me") (by decide +kernel)]
  exact lk_eq
theorem pu_Booth_candidates (v_me v_candidates v_ballots v_closed y : V) : putF "candidates" y (fl_Booth v_me v_candidates v_ballots v_closed) = fl_Booth v_me y v_ballots v_closed := by
  unfold fl_Booth
  rw [put_ne (f := "candidates") (g := "me") (by decide +kernel)]
  rw [put_eq]
theorem lk_Booth_ballots (v_me v_candidates v_ballots v_closed : V) : (fl_Booth v_me v_candidates v_ballots v_closed).lookup ("ballots" : Str) = some v_ballots := by
  unfold fl_Booth
  rw [lk_ne (f := "ballots") (g := "me") (by decide +kernel)]
  rw [lk_ne (f := "ballots") (g := "candidates") (by decide +kernel)]
  exact lk_eq
theorem pu_Booth_ballots (v_me v_candidates v_ballots v_closed y : V) : putF "ballots" y (fl_Booth v_me v_candidates v_ballots v_closed) = fl_Booth v_me v_candidates y v_closed := by
  unfold fl_Booth
  rw [put_ne (f := "ballots") (g := "me") (by decide +kernel)]
  rw [put_ne (f := "ballots") (g := "candidates") (by decide +kernel)]
  rw [put_eq]
theorem lk_Booth_closed (v_me v_candidates v_ballots v_closed : V) : (fl_Booth v_me v_candidates v_ballots v_closed).lookup ("closed" : Str) = some v_closed := by
  unfold fl_Booth
  rw [lk_ne (f := "closed") (g := "me") (by decide +kernel)]
  rw [lk_ne (f := "closed") (g := "candidates") (by decide +kernel)]
  rw [lk_ne (f := "closed") (g := "ballots") (by decide +kernel)]
  exact lk_eq
theorem pu_Booth_closed (v_me v_candidates v_ballots v_closed y : V) : putF "closed" y (fl_Booth v_me v_candidates v_ballots v_closed) = fl_Booth v_me v_candidates v_ballots y := by
  unfold fl_Booth
  rw [put_ne (f := "closed") (g := "me") (by decide +kernel)]
  rw [put_ne (f := "closed") (g := "candidates") (by decide +kernel)]
  rw [put_ne (f := "closed") (g := "ballots") (by decide +kernel)]
  rw [put_eq]
theorem no_Booth_start (v_me v_candidates v_ballots v_closed : V) : (fl_Booth v_me v_candidates v_ballots v_closed).lookup ("start" : Str) = none := by
  unfold fl_Booth
  rw [lk_ne (f := "start") (g := "me") (by decide +kernel)]
  rw [lk_ne (f := "start") (g := "candidates") (by decide +kernel)]
  rw [lk_ne (f := "start") (g := "ballots") (by decide +kernel)]
  rw [lk_ne (f := "start") (g := "closed") (by decide +kernel)]
  rfl
theorem no_Booth_vote (v_me v_candidates v_ballots v_closed : V) : (fl_Booth v_me v_candidates v_ballots v_closed).lookup ("vote" : Str) = none := by
  unfold fl_Booth
  rw [lk_ne (f := "vote") (g := "me") (by decide +kernel)]
  rw [lk_ne (f := "vote") (g := "candidates") (by decide +kernel)]
  rw [lk_ne (f := "vote") (g := "ballots") (by decide +kernel)]
  rw [lk_ne (f := "vote") (g := "closed") (by decide +kernel)]
  rfl
theorem no_Booth_close (v_me v_candidates v_ballots v_closed : V) : (fl_Booth v_me v_candidates v_ballots v_closed).lookup ("close" : Str) = none := by
  unfold fl_Booth
  rw [lk_ne (f := "close") (g := "me") (by decide +kernel)]
  rw [lk_ne (f := "close") (g := "candidates") (by decide +kernel)]
  rw [lk_ne (f := "close") (g := "ballots") (by decide +kernel)]
  rw [lk_ne (f := "close") (g := "closed") (by decide +kernel)]
  rfl
theorem no_Booth_again (v_me v_candidates v_ballots v_closed : V) : (fl_Booth v_me v_candidates v_ballots v_closed).lookup ("again" : Str) = none := by
  unfold fl_Booth
  rw [lk_ne (f := "again") (g := "me") (by decide +kernel)]
  rw [lk_ne (f := "again") (g := "candidates") (by decide +kernel)]
  rw [lk_ne (f := "again") (g := "ballots") (by decide +kernel)]
  rw [lk_ne (f := "again") (g := "closed") (by decide +kernel)]
  rfl
theorem in_Booth (v_me v_candidates v_ballots v_closed : V) : (putF "closed" v_closed (putF "ballots" v_ballots (putF "candidates" v_candidates (putF "me" v_me [])))) = fl_Booth v_me v_candidates v_ballots v_closed := by
  unfold fl_Booth
  rw [put_nil]
  rw [put_ne (f := "candidates") (g := "me") (by decide +kernel)]; rw [put_nil]
  rw [put_ne (f := "ballots") (g := "me") (by decide +kernel)]; rw [put_ne (f := "ballots") (g := "candidates") (by decide +kernel)]; rw [put_nil]
  rw [put_ne (f := "closed") (g := "me") (by decide +kernel)]; rw [put_ne (f := "closed") (g := "candidates") (by decide +kernel)]; rw [put_ne (f := "closed") (g := "ballots") (by decide +kernel)]; rw [put_nil]
def fl_Office (v_candidates v_booths v_ballots v_closings v_before v_found : V) : List (Str × V) := [("candidates", v_candidates), ("booths", v_booths), ("ballots", v_ballots), ("closings", v_closings), ("before", v_before), ("found", v_found)]
theorem lk_Office_candidates (v_candidates v_booths v_ballots v_closings v_before v_found : V) : (fl_Office v_candidates v_booths v_ballots v_closings v_before v_found).lookup ("candidates" : Str) = some v_candidates := by
  unfold fl_Office
  exact lk_eq
theorem pu_Office_candidates (v_candidates v_booths v_ballots v_closings v_before v_found y : V) : putF "candidates" y (fl_Office v_candidates v_booths v_ballots v_closings v_before v_found) = fl_Office y v_booths v_ballots v_closings v_before v_found := by
  unfold fl_Office
  rw [put_eq]
theorem lk_Office_booths (v_candidates v_booths v_ballots v_closings v_before v_found : V) : (fl_Office v_candidates v_booths v_ballots v_closings v_before v_found).lookup ("booths" : Str) = some v_booths := by
  unfold fl_Office
  rw [lk_ne (f := "booths") (g := "candidates") (by decide +kernel)]
  exact lk_eq
theorem pu_Office_booths (v_candidates v_booths v_ballots v_closings v_before v_found y : V) : putF "booths" y (fl_Office v_candidates v_booths v_ballots v_closings v_before v_found) = fl_Office v_candidates y v_ballots v_closings v_before v_found := by
  unfold fl_Office
  rw [put_ne (f := "booths") (g := "candidates") (by decide +kernel)]
  rw [put_eq]
theorem lk_Office_ballots (v_candidates v_booths v_ballots v_closings v_before v_found : V) : (fl_Office v_candidates v_booths v_ballots v_closings v_before v_found).lookup ("ballots" : Str) = some v_ballots := by
  unfold fl_Office
  rw [lk_ne (f := "ballots") (g := "candidates") (by decide +kernel)]
  rw [lk_ne (f := "ballots") (g := "booths") (by decide +kernel)]
  exact lk_eq
theorem pu_Office_ballots (v_candidates v_booths v_ballots v_closings v_before v_found y : V) : putF "ballots" y (fl_Office v_candidates v_booths v_ballots v_closings v_before v_found) = fl_Office v_candidates v_booths y v_closings v_before v_found := by
  unfold fl_Office
  rw [put_ne (f := "ballots") (g := "candidates") (by decide +kernel)]
  rw [put_ne (f := "ballots") (g := "booths") (by decide +kernel)]
  rw [put_eq]
theorem lk_Office_closings (v_candidates v_booths v_ballots v_closings v_before v_found : V) : (fl_Office v_candidates v_booths v_ballots v_closings v_before v_found).lookup ("closings" : Str) = some v_closings := by
  unfold fl_Office
  rw [lk_ne (f := "closings") (g := "candidates") (by decide +kernel)]
  rw [lk_ne (f := "closings") (g := "booths") (by decide +kernel)]
  rw [lk_ne (f := "closings") (g := "ballots") (by decide +kernel)]
  exact lk_eq
theorem pu_Office_closings (v_candidates v_booths v_ballots v_closings v_before v_found y : V) : putF "closings" y (fl_Office v_candidates v_booths v_ballots v_closings v_before v_found) = fl_Office v_candidates v_booths v_ballots y v_before v_found := by
  unfold fl_Office
  rw [put_ne (f := "closings") (g := "candidates") (by decide +kernel)]
  rw [put_ne (f := "closings") (g := "booths") (by decide +kernel)]
  rw [put_ne (f := "closings") (g := "ballots") (by decide +kernel)]
  rw [put_eq]
theorem lk_Office_before (v_candidates v_booths v_ballots v_closings v_before v_found : V) : (fl_Office v_candidates v_booths v_ballots v_closings v_before v_found).lookup ("before" : Str) = some v_before := by
  unfold fl_Office
  rw [lk_ne (f := "before") (g := "candidates") (by decide +kernel)]
  rw [lk_ne (f := "before") (g := "booths") (by decide +kernel)]
  rw [lk_ne (f := "before") (g := "ballots") (by decide +kernel)]
  rw [lk_ne (f := "before") (g := "closings") (by decide +kernel)]
  exact lk_eq
theorem pu_Office_before (v_candidates v_booths v_ballots v_closings v_before v_found y : V) : putF "before" y (fl_Office v_candidates v_booths v_ballots v_closings v_before v_found) = fl_Office v_candidates v_booths v_ballots v_closings y v_found := by
  unfold fl_Office
  rw [put_ne (f := "before") (g := "candidates") (by decide +kernel)]
  rw [put_ne (f := "before") (g := "booths") (by decide +kernel)]
  rw [put_ne (f := "before") (g := "ballots") (by decide +kernel)]
  rw [put_ne (f := "before") (g := "closings") (by decide +kernel)]
  rw [put_eq]
theorem lk_Office_found (v_candidates v_booths v_ballots v_closings v_before v_found : V) : (fl_Office v_candidates v_booths v_ballots v_closings v_before v_found).lookup ("found" : Str) = some v_found := by
  unfold fl_Office
  rw [lk_ne (f := "found") (g := "candidates") (by decide +kernel)]
  rw [lk_ne (f := "found") (g := "booths") (by decide +kernel)]
  rw [lk_ne (f := "found") (g := "ballots") (by decide +kernel)]
  rw [lk_ne (f := "found") (g := "closings") (by decide +kernel)]
  rw [lk_ne (f := "found") (g := "before") (by decide +kernel)]
  exact lk_eq
theorem pu_Office_found (v_candidates v_booths v_ballots v_closings v_before v_found y : V) : putF "found" y (fl_Office v_candidates v_booths v_ballots v_closings v_before v_found) = fl_Office v_candidates v_booths v_ballots v_closings v_before y := by
  unfold fl_Office
  rw [put_ne (f := "found") (g := "candidates") (by decide +kernel)]
  rw [put_ne (f := "found") (g := "booths") (by decide +kernel)]
  rw [put_ne (f := "found") (g := "ballots") (by decide +kernel)]
  rw [put_ne (f := "found") (g := "closings") (by decide +kernel)]
  rw [put_ne (f := "found") (g := "before") (by decide +kernel)]
  rw [put_eq]
theorem no_Office_start (v_candidates v_booths v_ballots v_closings v_before v_found : V) : (fl_Office v_candidates v_booths v_ballots v_closings v_before v_found).lookup ("start" : Str) = none := by
  unfold fl_Office
  rw [lk_ne (f := "start") (g := "candidates") (by decide +kernel)]
  rw [lk_ne (f := "start") (g := "booths") (by decide +kernel)]
  rw [lk_ne (f := "start") (g := "ballots") (by decide +kernel)]
  rw [lk_ne (f := "start") (g := "closings") (by decide +kernel)]
  rw [lk_ne (f := "start") (g := "before") (by decide +kernel)]
  rw [lk_ne (f := "start") (g := "found") (by decide +kernel)]
  rfl
theorem no_Office_heard (v_candidates v_booths v_ballots v_closings v_before v_found : V) : (fl_Office v_candidates v_booths v_ballots v_closings v_before v_found).lookup ("heard" : Str) = none := by
  unfold fl_Office
  rw [lk_ne (f := "heard") (g := "candidates") (by decide +kernel)]
  rw [lk_ne (f := "heard") (g := "booths") (by decide +kernel)]
  rw [lk_ne (f := "heard") (g := "ballots") (by decide +kernel)]
  rw [lk_ne (f := "heard") (g := "closings") (by decide +kernel)]
  rw [lk_ne (f := "heard") (g := "before") (by decide +kernel)]
  rw [lk_ne (f := "heard") (g := "found") (by decide +kernel)]
  rfl
theorem no_Office_heard_closing (v_candidates v_booths v_ballots v_closings v_before v_found : V) : (fl_Office v_candidates v_booths v_ballots v_closings v_before v_found).lookup ("heard_closing" : Str) = none := by
  unfold fl_Office
  rw [lk_ne (f := "heard_closing") (g := "candidates") (by decide +kernel)]
  rw [lk_ne (f := "heard_closing") (g := "booths") (by decide +kernel)]
  rw [lk_ne (f := "heard_closing") (g := "ballots") (by decide +kernel)]
  rw [lk_ne (f := "heard_closing") (g := "closings") (by decide +kernel)]
  rw [lk_ne (f := "heard_closing") (g := "before") (by decide +kernel)]
  rw [lk_ne (f := "heard_closing") (g := "found") (by decide +kernel)]
  rfl
theorem no_Office_heard_ballot (v_candidates v_booths v_ballots v_closings v_before v_found : V) : (fl_Office v_candidates v_booths v_ballots v_closings v_before v_found).lookup ("heard_ballot" : Str) = none := by
  unfold fl_Office
  rw [lk_ne (f := "heard_ballot") (g := "candidates") (by decide +kernel)]
  rw [lk_ne (f := "heard_ballot") (g := "booths") (by decide +kernel)]
  rw [lk_ne (f := "heard_ballot") (g := "ballots") (by decide +kernel)]
  rw [lk_ne (f := "heard_ballot") (g := "closings") (by decide +kernel)]
  rw [lk_ne (f := "heard_ballot") (g := "before") (by decide +kernel)]
  rw [lk_ne (f := "heard_ballot") (g := "found") (by decide +kernel)]
  rfl
theorem no_Office_first_not_heard (v_candidates v_booths v_ballots v_closings v_before v_found : V) : (fl_Office v_candidates v_booths v_ballots v_closings v_before v_found).lookup ("first_not_heard" : Str) = none := by
  unfold fl_Office
  rw [lk_ne (f := "first_not_heard") (g := "candidates") (by decide +kernel)]
  rw [lk_ne (f := "first_not_heard") (g := "booths") (by decide +kernel)]
  rw [lk_ne (f := "first_not_heard") (g := "ballots") (by decide +kernel)]
  rw [lk_ne (f := "first_not_heard") (g := "closings") (by decide +kernel)]
  rw [lk_ne (f := "first_not_heard") (g := "before") (by decide +kernel)]
  rw [lk_ne (f := "first_not_heard") (g := "found") (by decide +kernel)]
  rfl
theorem no_Office_is_whole (v_candidates v_booths v_ballots v_closings v_before v_found : V) : (fl_Office v_candidates v_booths v_ballots v_closings v_before v_found).lookup ("is_whole" : Str) = none := by
  unfold fl_Office
  rw [lk_ne (f := "is_whole") (g := "candidates") (by decide +kernel)]
  rw [lk_ne (f := "is_whole") (g := "booths") (by decide +kernel)]
  rw [lk_ne (f := "is_whole") (g := "ballots") (by decide +kernel)]
  rw [lk_ne (f := "is_whole") (g := "closings") (by decide +kernel)]
  rw [lk_ne (f := "is_whole") (g := "before") (by decide +kernel)]
  rw [lk_ne (f := "is_whole") (g := "found") (by decide +kernel)]
  rfl
theorem no_Office_is_final (v_candidates v_booths v_ballots v_closings v_before v_found : V) : (fl_Office v_candidates v_booths v_ballots v_closings v_before v_found).lookup ("is_final" : Str) = none := by
  unfold fl_Office
  rw [lk_ne (f := "is_final") (g := "candidates") (by decide +kernel)]
  rw [lk_ne (f := "is_final") (g := "booths") (by decide +kernel)]
  rw [lk_ne (f := "is_final") (g := "ballots") (by decide +kernel)]
  rw [lk_ne (f := "is_final") (g := "closings") (by decide +kernel)]
  rw [lk_ne (f := "is_final") (g := "before") (by decide +kernel)]
  rw [lk_ne (f := "is_final") (g := "found") (by decide +kernel)]
  rfl
theorem no_Office_lacks (v_candidates v_booths v_ballots v_closings v_before v_found : V) : (fl_Office v_candidates v_booths v_ballots v_closings v_before v_found).lookup ("lacks" : Str) = none := by
  unfold fl_Office
  rw [lk_ne (f := "lacks") (g := "candidates") (by decide +kernel)]
  rw [lk_ne (f := "lacks") (g := "booths") (by decide +kernel)]
  rw [lk_ne (f := "lacks") (g := "ballots") (by decide +kernel)]
  rw [lk_ne (f := "lacks") (g := "closings") (by decide +kernel)]
  rw [lk_ne (f := "lacks") (g := "before") (by decide +kernel)]
  rw [lk_ne (f := "lacks") (g := "found") (by decide +kernel)]
  rfl
theorem no_Office_prefer (v_candidates v_booths v_ballots v_closings v_before v_found : V) : (fl_Office v_candidates v_booths v_ballots v_closings v_before v_found).lookup ("prefer" : Str) = none := by
  unfold fl_Office
  rw [lk_ne (f := "prefer") (g := "candidates") (by decide +kernel)]
  rw [lk_ne (f := "prefer") (g := "booths") (by decide +kernel)]
  rw [lk_ne (f := "prefer") (g := "ballots") (by decide +kernel)]
  rw [lk_ne (f := "prefer") (g := "closings") (by decide +kernel)]
  rw [lk_ne (f := "prefer") (g := "before") (by decide +kernel)]
  rw [lk_ne (f := "prefer") (g := "found") (by decide +kernel)]
  rfl
theorem no_Office_order (v_candidates v_booths v_ballots v_closings v_before v_found : V) : (fl_Office v_candidates v_booths v_ballots v_closings v_before v_found).lookup ("order" : Str) = none := by
  unfold fl_Office
  rw [lk_ne (f := "order") (g := "candidates") (by decide +kernel)]
  rw [lk_ne (f := "order") (g := "booths") (by decide +kernel)]
  rw [lk_ne (f := "order") (g := "ballots") (by decide +kernel)]
  rw [lk_ne (f := "order") (g := "closings") (by decide +kernel)]
  rw [lk_ne (f := "order") (g := "before") (by decide +kernel)]
  rw [lk_ne (f := "order") (g := "found") (by decide +kernel)]
  rfl
theorem no_Office_against (v_candidates v_booths v_ballots v_closings v_before v_found : V) : (fl_Office v_candidates v_booths v_ballots v_closings v_before v_found).lookup ("against" : Str) = none := by
  unfold fl_Office
  rw [lk_ne (f := "against") (g := "candidates") (by decide +kernel)]
  rw [lk_ne (f := "against") (g := "booths") (by decide +kernel)]
  rw [lk_ne (f := "against") (g := "ballots") (by decide +kernel)]
  rw [lk_ne (f := "against") (g := "closings") (by decide +kernel)]
  rw [lk_ne (f := "against") (g := "before") (by decide +kernel)]
  rw [lk_ne (f := "against") (g := "found") (by decide +kernel)]
  rfl
theorem in_Office (v_candidates v_booths v_ballots v_closings v_before v_found : V) : (putF "found" v_found (putF "before" v_before (putF "closings" v_closings (putF "ballots" v_ballots (putF "booths" v_booths (putF "candidates" v_candidates [])))))) = fl_Office v_candidates v_booths v_ballots v_closings v_before v_found := by
  unfold fl_Office
  rw [put_nil]
  rw [put_ne (f := "booths") (g := "candidates") (by decide +kernel)]; rw [put_nil]
  rw [put_ne (f := "ballots") (g := "candidates") (by decide +kernel)]; rw [put_ne (f := "ballots") (g := "booths") (by decide +kernel)]; rw [put_nil]
  rw [put_ne (f := "closings") (g := "candidates") (by decide +kernel)]; rw [put_ne (f := "closings") (g := "booths") (by decide +kernel)]; rw [put_ne (f := "closings") (g := "ballots") (by decide +kernel)]; rw [put_nil]
  rw [put_ne (f := "before") (g := "candidates") (by decide +kernel)]; rw [put_ne (f := "before") (g := "booths") (by decide +kernel)]; rw [put_ne (f := "before") (g := "ballots") (by decide +kernel)]; rw [put_ne (f := "before") (g := "closings") (by decide +kernel)]; rw [put_nil]
  rw [put_ne (f := "found") (g := "candidates") (by decide +kernel)]; rw [put_ne (f := "found") (g := "booths") (by decide +kernel)]; rw [put_ne (f := "found") (g := "ballots") (by decide +kernel)]; rw [put_ne (f := "found") (g := "closings") (by decide +kernel)]; rw [put_ne (f := "found") (g := "before") (by decide +kernel)]; rw [put_nil]
theorem blk_before_without_ballots_0 : BlkOk ["candidates", "candidate"] (defScope s_before_without_ballots) (exSc (stVal (stN (defBody s_before_without_ballots) 0))) [("candidate", 1)] := ⟨rfl, by decide +kernel, by decide +kernel, by decide +kernel, by decide +kernel⟩
theorem blk_sums_of_sets_0 : BlkOk ["numbers", "sums", "number", "total"] (defScope s_sums_of_sets) (exSc (exR (stVal (stN (stBody (stN (defBody s_sums_of_sets) 1)) 0)))) [("total", 3)] := ⟨rfl, by decide +kernel, by decide +kernel, by decide +kernel, by decide +kernel⟩
theorem blk_sums_if_ahead_0 : BlkOk ["before", "ahead", "row"] (defScope s_sums_if_ahead) (exSc (stVal (stN (defBody s_sums_if_ahead) 0))) [("ahead", 1)] := ⟨rfl, by decide +kernel, by decide +kernel, by decide +kernel, by decide +kernel⟩
theorem blk_sums_if_ahead_1 : BlkOk ["before", "ahead", "row"] (relS (exSc (stVal (stN (defBody s_sums_if_ahead) 0))) (defScope s_sums_if_ahead)) (exSc (exArg (exElt (stVal (stN (defBody s_sums_if_ahead) 0))) 0)) [("row", 2)] := ⟨rfl, by decide +kernel, by decide +kernel, by decide +kernel, by decide +kernel⟩
theorem blk_members_of_0 : BlkOk ["members", "candidates", "candidate"] (defScope s_members_of) (exSc (stVal (stN (defBody s_members_of) 0))) [("candidate", 2)] := ⟨rfl, by decide +kernel, by decide +kernel, by decide +kernel, by decide +kernel⟩
theorem blk_least_of_sets_0 : BlkOk ["sums", "least", "members", "ahead"] (defScope s_least_of_sets) (exSc (exArg (exArg (stVal (stN (stBody (stN (defBody s_least_of_sets) 1)) 0)) 0) 0)) [("ahead", 3)] := ⟨rfl, by decide +kernel, by decide +kernel, by decide +kernel, by decide +kernel⟩
theorem blk_best_ahead_0 : BlkOk ["sums", "least", "members", "ways", "ahead"] (defScope s_best_ahead) (exSc (stVal (stN (defBody s_best_ahead) 0))) [("ahead", 4)] := ⟨rfl, by decide +kernel, by decide +kernel, by decide +kernel, by decide +kernel⟩
theorem blk_Office_is_final_0 : BlkOk ["self", "booth"] (defScope s_Office_is_final) (exSc (exArg (stVal (stN (defBody s_Office_is_final) 0)) 0)) [("booth", 1)] := ⟨rfl, by decide +kernel, by decide +kernel, by decide +kernel, by decide +kernel⟩
theorem blk_answers_0 : BlkOk ["calls", "booths", "office", "answered", "at", "end", "answer", "number"] (defScope s_answers) (exSc (stVal (stN (defBody s_answers) 0))) [("number", 7)] := ⟨rfl, by decide +kernel, by decide +kernel, by decide +kernel, by decide +kernel⟩
end My
/-! The messages and the ranks: one promise a def. -/
namespace My
open PySem PySem.Spec PyProof.Rows L2
open Km349 (le crc checked okCandidates)
/-! ### the promises -/
def spShift : Sp := fun vs H Q _ => ∃ n : Nat, vs = [.int n] ∧ Q (.int (Ms.turns 8 n : Nat)) H
def spCheck (K : PySem.W.Frag) : Sp := fun vs H Q _ => ∃ (a : Addr) (l : List Nat), vs = [.ref a] ∧ SqL K H a (iv (nums l)) ∧ Q (.int (crc l : Nat)) H
def spLow : Sp := fun vs H Q _ => ∃ n : Nat, vs = [.int n] ∧ Fresh H Q (nums (le 4 n))
def spWith : Sp := fun vs H Q _ => ∃ (a : Addr) (l : List Nat), vs = [.ref a] ∧ H a = some (.lst (iv (nums l))) ∧ l.length ≤ 1000 ∧ Fresh H Q (nums (checked l))
def spBallot : Sp := fun vs H Q _ => ∃ (b n : Nat) (r : Addr) (l : List Nat), vs = [.int b, .int n, .ref r] ∧ H r = some (.lst (iv (nums l))) ∧ l.length ≤ 100 ∧ Fresh H Q (nums (⟨b, n, l⟩ : Km349.Ballot).bytes)
def spClosing : Sp := fun vs H Q _ => ∃ (b n : Nat), vs = [.int b, .int n] ∧ Fresh H Q (nums (⟨b, n⟩ : Km349.Close).bytes)
def spCand : Sp := fun vs H Q _ => ∃ n : Nat, vs = [.int n] ∧ Q (.bl (okCandidates n)) H
def spRank : Sp := fun vs H Q _ => ∃ (i : Nat) (r n : Int), vs = [.int i, .int r, .int n] ∧ Q (.bl (Fl.fits i r n)) H
def spRanks (K : PySem.W.Frag) : Sp := fun vs H Q _ => ∃ (a : Addr) (l : List Int) (n : Int), vs = [.ref a, .int n] ∧ SqL K H a (iv l) ∧ ∀ H', Same H H' → Q (.bl (Fl.allFit 0 n l)) H'
section
variable {P : Program} {w : World} {K : PySem.W.Frag} {mg : Str → Option Value} {base : Heap} {a : Ad}
theorem ok_shifted_by_a_byte (T : Txt K mg a) : FnOk P w K mg base CX0 1 a.f_shifted_by_a_byte a.d_shifted_by_a_byte ["rest"] spShift := by
  refine T.F_shifted_by_a_byte.ok sc_shifted_by_a_byte (fun vs H Q E h => ?_) (fun cdv A outer s H vs Q E hr h => ?_)
  · obtain ⟨n, rfl, _⟩ := h
    rfl
  · obtain ⟨n, rfl, k⟩ := h
    refine ⟨_, (pss_cons (ps_for PassesOwn.never rfl (pi_range1 rfl T.z_range (pa_cons pe_int pa_nil)) (pg_name (i := 1) sc_shifted_by_a_byte.nd rfl (Or.inl rfl)) (pss_one (ps_if (pt_cmpR op_eq (pe_op op_and (pv 0) pe_int) pe_int (nomark _)) (pss_one (ps_set (i := 0) sc_shifted_by_a_byte.nd rfl (Or.inl rfl) (pe_op op_xor (pe_op op_shr (pv 0) pe_int) (pgi rfl T.g_POLYNOMIAL)))) (pss_one (ps_set (i := 0) sc_shifted_by_a_byte.nd rfl (Or.inl rfl) (pe_op op_shr (pv 0) pe_int))))))
      (pss_one (ps_ret (pv 0)))), ?_⟩
    refine ⟨8, rfl, by decide, by decide, for_range (n := 8) (fun i σ H' => H' = H ∧ ∃ v, σ = [some (.int (Ms.turns i n : Nat)), v]) ⟨rfl, none, rfl⟩ ?_ ?_⟩
    · rintro i σ H' hi ⟨rfl, v, rfl⟩
      refine ⟨_, rfl, _, _, rfl, rfl, rfl, _, rfl, ?_⟩
      refine ite2 (fun hc => ?_) (fun hc => ?_)
      · refine ⟨_, rfl, _, _, rfl, rfl, (by show (0 : Int) ≤ 1; decide), _, _, rfl, rfl, ?_⟩
        refine ⟨rfl, some (.int (0 + i)), ?_⟩
        rw [Ms.turns_succ, ← bit1 hc]
        rfl
      · refine ⟨_, rfl, _, _, rfl, rfl, (by show (0 : Int) ≤ 1; decide), ?_⟩
        refine ⟨rfl, some (.int (0 + i)), ?_⟩
        rw [Ms.turns_succ, ← bit0 hc]
        rfl
    · rintro σ H' ⟨rfl, v, rfl⟩
      exact ⟨_, rfl, k⟩
theorem ok_check_of (T : Txt K mg a) : FnOk P w K mg base CX0 2 a.f_check_of a.d_check_of ["numbers"] (spCheck K) := by
  refine T.F_check_of.ok sc_check_of (fun vs H Q E h => ?_) (fun cdv A outer s H vs Q E hr h => ?_)
  · obtain ⟨p, l, rfl, _⟩ := h
    rfl
  · obtain ⟨p, l, rfl, hp, k⟩ := h
    refine ⟨_, (pss_cons (ps_set (i := 1) sc_check_of.nd rfl (Or.inl rfl) (pgi rfl T.g_ONES))
      (pss_cons (ps_for PassesOwn.never rfl (pi_list (pv 0)) (pg_name (i := 2) sc_check_of.nd rfl (Or.inl rfl)) (pss_one (ps_set (i := 1) sc_check_of.nd rfl (Or.inl rfl) (pe_call (ok_shifted_by_a_byte T) (hr.mono (by decide)) rfl T.m_shifted_by_a_byte T.F_shifted_by_a_byte.kp T.b_shifted_by_a_byte .nil pass0 (pa_cons (pe_op op_xor (pv 1) (pv 2)) pa_nil)))))
      (pss_one (ps_ret (pe_op op_xor (pv 1) (pgi rfl T.g_ONES)))))), ?_⟩
    refine ⟨_, rfl, p, rfl, ⟨_, hp⟩, for_list (K := K) (a := p) (xs := iv (nums l)) (fun i σ H' => H' = H ∧ ∃ v, σ = [some (.ref p), some (.int (Ms.sofar (l.take i) : Nat)), v]) ⟨rfl, none, rfl⟩ (fun i σ H' _ ⟨e, _⟩ => by rw [e]; exact hp) ?_ ?_⟩
    · rintro i y σ H' hy ⟨rfl, v, rfl⟩
      obtain ⟨z, hz, rfl⟩ := iv_get hy
      obtain ⟨b, hb, rfl⟩ := nums_get hz
      refine ⟨_, rfl, _, rfl, _, _, rfl, rfl, (Ms.sofar (l.take i) ^^^ b), congrArg (fun z => [V.int z]) (bitXor_nat _ _), ?_⟩
      refine ⟨rfl, some (.int b), ?_⟩
      rw [take_snoc hb, Ms.sofar_snoc]
      rfl
    · rintro σ H' ⟨rfl, v, rfl⟩
      refine ⟨_, rfl, _, _, rfl, rfl, ?_⟩
      have e : Builtin.bitXor ((Ms.sofar (l.take (iv (nums l)).length) : Nat) : Int) 4294967295 = ((crc l : Nat) : Int) := by
        rw [iv_length, nums_length, List.take_length]
        exact bitXor_nat _ 4294967295
      rw [← e] at k
      exact k
theorem ok_low_byte_first (T : Txt K mg a) : FnOk P w K mg base CX0 1 a.f_low_byte_first a.d_low_byte_first ["number"] spLow := by
  refine T.F_low_byte_first.ok sc_low_byte_first (fun vs H Q E h => ?_) (fun cdv A outer s H vs Q E hr h => ?_)
  · obtain ⟨n, rfl, _⟩ := h
    rfl
  · obtain ⟨n, rfl, k⟩ := h
    refine ⟨_, (pss_one (ps_ret (pe_lst (pa_cons (pe_op op_and (pv 0) pe_int) (pa_cons (pe_op op_and (pe_op op_shr (pv 0) pe_int) pe_int) (pa_cons (pe_op op_and (pe_op op_shr (pv 0) pe_int) pe_int) (pa_cons (pe_op op_and (pe_op op_shr (pv 0) pe_int) pe_int) pa_nil))))))), ?_⟩
    refine ⟨_, rfl, _, _, rfl, rfl, _, rfl, _, _, rfl, rfl, (by show (0 : Int) ≤ 8; decide), _, _, rfl, rfl, _, rfl, _, _, rfl, rfl, (by show (0 : Int) ≤ 16; decide), _, _, rfl, rfl, _, rfl, _, _, rfl, rfl, (by show (0 : Int) ≤ 24; decide), _, _, rfl, rfl, (by show 4 ≤ sizeLine; decide), fun p hp => ?_⟩
    refine k p _ hp (Same.new hp) (upd_same.trans ?_)
    dsimp only
    rw [Ms.le4, byte0, byte1, byte2, byte3]
    rfl
theorem ok_with_check (T : Txt K mg a) : FnOk P w K mg base CX0 3 a.f_with_check a.d_with_check ["numbers"] spWith := by
  refine T.F_with_check.ok sc_with_check (fun vs H Q E h => ?_) (fun cdv A outer s H vs Q E hr h => ?_)
  · obtain ⟨p, l, rfl, _⟩ := h
    rfl
  · obtain ⟨p, l, rfl, hp, hl, k⟩ := h
    refine ⟨_, (pss_one (ps_ret (pe_op op_cat (pv 0) (pe_call (ok_low_byte_first T) (hr.mono (by decide)) rfl T.m_low_byte_first T.F_low_byte_first.kp T.b_low_byte_first .nil pass0 (pa_cons (pe_call (ok_check_of T) (hr.mono (by decide)) rfl T.m_check_of T.F_check_of.kp T.b_check_of .nil pass0 (pa_cons (pv 0) pa_nil)) pa_nil))))), ?_⟩
    refine ⟨_, rfl, _, rfl, p, l, rfl, SqL.of hp, crc l, rfl, fun q H' hq hs hl' => ?_⟩
    refine ⟨p, q, _, _, rfl, rfl, hs _ _ hp, hl', small (by rw [iv_length, nums_length, iv_length, nums_length, Ms.le_length]; omega), fun r hr' => ?_⟩
    refine k r _ (hs.free hr') (hs.trans (Same.new hr')) (upd_same.trans ?_)
    rw [← iv_append, ← nums_append]
    rfl
theorem ok_ballot_message (T : Txt K mg a) : FnOk P w K mg base CX0 4 a.f_ballot_message a.d_ballot_message ["booth", "number", "ranks"] spBallot := by
  refine T.F_ballot_message.ok sc_ballot_message (fun vs H Q E h => ?_) (fun cdv A outer s H vs Q E hr h => ?_)
  · obtain ⟨b, n, r, l, rfl, _⟩ := h
    rfl
  · obtain ⟨b, n, r, l, rfl, hp, hl, k⟩ := h
    refine ⟨_, (pss_one (ps_ret (pe_call (ok_with_check T) (hr.mono (by decide)) rfl T.m_with_check T.F_with_check.kp T.b_with_check .nil pass0 (pa_cons (pe_op op_cat (pe_op op_cat (pe_lst (pa_cons (pgi rfl T.g_BALLOT) (pa_cons (pv 0) (pa_cons pe_int (pa_cons pe_int pa_nil))))) (pe_call (ok_low_byte_first T) (hr.mono (by decide)) rfl T.m_low_byte_first T.F_low_byte_first.kp T.b_low_byte_first .nil pass0 (pa_cons (pv 1) pa_nil))) (pv 2)) pa_nil)))), ?_⟩
    refine ⟨_, rfl, (by show 4 ≤ sizeLine; decide), fun p1 n1 => ?_⟩
    have s1 := Same.new (o := .lst [.int 1, .int b, .int 0, .int 0]) n1
    refine ⟨_, rfl, n, rfl, fun p2 H2 n2 s2 e2 => ?_⟩
    refine ⟨p1, p2, _, _, rfl, rfl, s2 _ _ upd_same, e2, small (by rw [iv_length, nums_length, Ms.le_length]; show 4 + 4 ≤ 1000000; decide), fun p3 n3 => ?_⟩
    have s3 := Same.new (o := .lst ([.int 1, .int b, .int 0, .int 0] ++ iv (nums (le 4 n)))) n3
    refine ⟨_, rfl, p3, r, _, _, rfl, rfl, upd_same, s3 _ _ (s2 _ _ (s1 _ _ hp)), small (by rw [List.length_append, iv_length, nums_length, Ms.le_length, iv_length, nums_length]; show 4 + 4 + l.length ≤ _; omega), fun p4 n4 => ?_⟩
    have s4 := Same.new (o := .lst (([.int 1, .int b, .int 0, .int 0] ++ iv (nums (le 4 n))) ++ iv (nums l))) n4
    have e4 : (([.int 1, .int b, .int 0, .int 0] : List V) ++ iv (nums (le 4 n))) ++ iv (nums l) = iv (nums ([1, b, 0, 0] ++ (le 4 n ++ l))) := by
      rw [nums_append, nums_append, iv_append, iv_append, List.append_assoc]
      rfl
    refine ⟨p4, [1, b, 0, 0] ++ (le 4 n ++ l), rfl, upd_same.trans (by rw [e4]), by rw [List.length_append, List.length_append, Ms.le_length]; show 4 + (4 + l.length) ≤ _; omega, fun p5 H5 n5 s5 e5 => ?_⟩
    have sa : Same H H5 := (((s1.trans s2).trans s3).trans s4).trans s5
    exact k p5 H5 ((((s1.trans s2).trans s3).trans s4).free n5) sa e5
theorem ok_closing_message (T : Txt K mg a) : FnOk P w K mg base CX0 4 a.f_closing_message a.d_closing_message ["booth", "ballots"] spClosing := by
  refine T.F_closing_message.ok sc_closing_message (fun vs H Q E h => ?_) (fun cdv A outer s H vs Q E hr h => ?_)
  · obtain ⟨b, n, rfl, _⟩ := h
    rfl
  · obtain ⟨b, n, rfl, k⟩ := h
    refine ⟨_, (pss_one (ps_ret (pe_call (ok_with_check T) (hr.mono (by decide)) rfl T.m_with_check T.F_with_check.kp T.b_with_check .nil pass0 (pa_cons (pe_op op_cat (pe_op op_cat (pe_lst (pa_cons (pgi rfl T.g_CLOSING) (pa_cons (pv 0) (pa_cons pe_int (pa_cons pe_int pa_nil))))) (pe_call (ok_low_byte_first T) (hr.mono (by decide)) rfl T.m_low_byte_first T.F_low_byte_first.kp T.b_low_byte_first .nil pass0 (pa_cons (pv 1) pa_nil))) (pe_lst (pa_ints rfl))) pa_nil)))), ?_⟩
    refine ⟨_, rfl, (by show 4 ≤ sizeLine; decide), fun p1 n1 => ?_⟩
    have s1 := Same.new (o := .lst [.int 2, .int b, .int 0, .int 0]) n1
    refine ⟨_, rfl, n, rfl, fun p2 H2 n2 s2 e2 => ?_⟩
    refine ⟨p1, p2, _, _, rfl, rfl, s2 _ _ upd_same, e2, small (by rw [iv_length, nums_length, Ms.le_length]; show 4 + 4 ≤ 1000000; decide), fun p3 n3 => ?_⟩
    have s3 := Same.new (o := .lst ([.int 2, .int b, .int 0, .int 0] ++ iv (nums (le 4 n)))) n3
    refine ⟨(by show 8 ≤ sizeLine; decide), fun p9 n9 => ?_⟩
    have s9 := Same.new (o := .lst (iv [0, 0, 0, 0, 0, 0, 0, 0])) n9
    refine ⟨p3, p9, _, _, rfl, rfl, s9 _ _ upd_same, upd_same, small (by rw [List.length_append, iv_length, nums_length, Ms.le_length]; show 4 + 4 + 8 ≤ 1000000; decide), fun p4 n4 => ?_⟩
    have s4 := Same.new (o := .lst (([.int 2, .int b, .int 0, .int 0] ++ iv (nums (le 4 n))) ++ iv [0, 0, 0, 0, 0, 0, 0, 0])) n4
    have e4 : (([.int 2, .int b, .int 0, .int 0] : List V) ++ iv (nums (le 4 n))) ++ iv [0, 0, 0, 0, 0, 0, 0, 0] = iv (nums ([2, b, 0, 0] ++ (le 4 n ++ le 8 0))) := by
      rw [nums_append, nums_append, iv_append, iv_append, List.append_assoc]
      rfl
    refine ⟨p4, [2, b, 0, 0] ++ (le 4 n ++ le 8 0), rfl, upd_same.trans (by rw [e4]), by rw [List.length_append, List.length_append, Ms.le_length, Ms.le_length]; show 4 + (4 + 8) ≤ 1000; decide, fun p5 H5 n5 s5 e5 => ?_⟩
    have sa : Same H H5 := ((((s1.trans s2).trans s3).trans s9).trans s4).trans s5
    exact k p5 H5 (((((s1.trans s2).trans s3).trans s9).trans s4).free n5) sa e5
theorem ok_candidates_fit (T : Txt K mg a) : FnOk P w K mg base CX0 1 a.f_candidates_fit a.d_candidates_fit ["candidates"] spCand := by
  refine T.F_candidates_fit.ok sc_candidates_fit (fun vs H Q E h => ?_) (fun cdv A outer s H vs Q E hr h => ?_)
  · obtain ⟨n, rfl, _⟩ := h
    rfl
  · obtain ⟨n, rfl, k⟩ := h
    refine ⟨_, (pss_one (ps_ret (pe_chain op_le op_le (pgi rfl T.g_LEAST_CANDIDATES) (pv 0) (pgi rfl T.g_MOST_CANDIDATES)))), ?_⟩
    refine ⟨_, rfl, _, _, rfl, rfl, _, rfl, ?_⟩
    refine ite2 (fun hc => ?_) (fun hc => ?_)
    · refine ⟨_, _, rfl, rfl, ?_⟩
      have e : decide ((n : Int) ≤ 8) = okCandidates n := by
        have := of_decide_eq_true hc
        unfold okCandidates Km349.PLACES
        rw [decide_eq_true (show 2 ≤ n by omega), Bool.true_and]
        exact decide_eq_decide.mpr (by omega)
      rw [← e] at k
      exact k
    · have e : false = okCandidates n := by
        have h2 : ¬ (2 : Int) ≤ n := fun q => hc (decide_eq_true q)
        unfold okCandidates
        rw [decide_eq_false (show ¬ 2 ≤ n by omega), Bool.false_and]
      rw [← e] at k
      exact k
theorem ok_rank_fits (T : Txt K mg a) : FnOk P w K mg base CX0 1 a.f_rank_fits a.d_rank_fits ["candidate", "rank", "candidates"] spRank := by
  refine T.F_rank_fits.ok sc_rank_fits (fun vs H Q E h => ?_) (fun cdv A outer s H vs Q E hr h => ?_)
  · obtain ⟨i, r, n, rfl, _⟩ := h
    rfl
  · obtain ⟨i, r, n, rfl, k⟩ := h
    refine ⟨_, (pss_cons (ps_if (pt_cmpR op_lt (pv 0) (pv 2) (nomark _)) (pss_one (ps_ret (pe_chain op_le op_le pe_int (pv 1) (pv 2)))) pss_nil)
      (pss_one (ps_ret (pe_cmpR op_eq (pv 1) pe_int (nomark _))))), ?_⟩
    refine ⟨_, rfl, _, rfl, _, _, rfl, rfl, _, rfl, ?_⟩
    refine ite2 (fun hc => ?_) (fun hc => ?_)
    · refine ⟨_, rfl, _, _, rfl, rfl, _, rfl, ?_⟩
      have h1 := of_decide_eq_true hc
      refine ite2 (fun hd => ?_) (fun hd => ?_)
      · refine ⟨_, rfl, _, _, rfl, rfl, ?_⟩
        have e : decide (r ≤ n) = Fl.fits i r n := by
          unfold Fl.fits
          rw [if_pos h1, hd, Bool.true_and]
        rw [← e] at k
        exact k
      · have e : false = Fl.fits i r n := by
          unfold Fl.fits
          rw [if_pos h1, Bool.eq_false_iff.mpr hd, Bool.false_and]
        rw [← e] at k
        exact k
    · have h1 : ¬ (i : Int) < n := fun q => hc (decide_eq_true q)
      refine ⟨_, rfl, rfl, ?_⟩
      have e : decide (V.int r = V.int 0) = Fl.fits i r n := by
        unfold Fl.fits
        rw [if_neg h1]
        exact decide_eq_decide.mpr ⟨fun q => by injection q, fun q => by rw [q]⟩
      rw [← e] at k
      exact k
theorem allFit_drop {n : Int} {l : List Int} {i : Nat} {z : Int} (h : l[i]? = some z) : Fl.allFit i n (l.drop i) = (Fl.fits i z n && Fl.allFit (i + 1) n (l.drop (i + 1))) := by
  obtain ⟨hl, e⟩ := List.getElem?_eq_some_iff.mp h
  rw [List.drop_eq_getElem_cons hl, e]
  rfl
theorem ok_ranks_fit (T : Txt K mg a) : FnOk P w K mg base CX0 2 a.f_ranks_fit a.d_ranks_fit ["ranks", "candidates"] (spRanks K) := by
  refine T.F_ranks_fit.ok sc_ranks_fit (fun vs H Q E h => ?_) (fun cdv A outer s H vs Q E hr h => ?_)
  · obtain ⟨p, l, n, rfl, _⟩ := h
    rfl
  · obtain ⟨p, l, n, rfl, hp, k⟩ := h
    refine ⟨_, (pss_cons (ps_for PassesOwn.never rfl (pi_enum rfl T.z_enumerate (pa_cons (pv 0) pa_nil)) (pg_tup rfl (pgs_cons (pg_name (i := 2) sc_ranks_fit.nd rfl (Or.inl rfl)) (pgs_cons (pg_name (i := 3) sc_ranks_fit.nd rfl (Or.inl rfl)) pgs_nil))) (pss_one (ps_if (pt_not (pt_val (pe_call (ok_rank_fits T) (hr.mono (by decide)) rfl T.m_rank_fits T.F_rank_fits.kp T.b_rank_fits .nil pass0 (pa_cons (pv 2) (pa_cons (pv 3) (pa_cons (pv 1) pa_nil)))))) (pss_one (ps_ret pe_bl)) pss_nil)))
      (pss_one (ps_ret pe_bl))), ?_⟩
    refine ⟨_, rfl, p, _, rfl, hp, for_enum (K := K) (a := p) (xs := iv l) (fun i σ H' => Same H H' ∧ (∃ v u, σ = [some (.ref p), some (.int n), v, u]) ∧ Fl.allFit 0 n l = Fl.allFit i n (l.drop i)) ⟨Same.rfl', ⟨none, none, rfl⟩, rfl⟩ (fun i σ H' _ ⟨e, _⟩ => e.seq hp) ?_ ?_⟩
    · rintro i y σ H' t hy ⟨hs, ⟨v, u, rfl⟩, ha⟩ ht
      obtain ⟨z, hz, rfl⟩ := iv_get hy
      have s2 := hs.trans (Same.new (o := .tup [.int (i : Nat), .int z]) ht)
      refine ⟨t, _, rfl, SqT.of upd_same, rfl, _, _, rfl, _, _, rfl, rfl, ?_⟩
      refine ⟨_, rfl, _, rfl, _, rfl, i, z, n, rfl, _, rfl, ?_⟩
      rw [allFit_drop hz] at ha
      cases hf : Fl.fits i z n with
      | false =>
        refine iteT ?_
        rw [hf, Bool.false_and] at ha
        have := k _ s2
        rw [ha] at this
        exact this
      | true =>
        refine iteF ?_
        rw [hf, Bool.true_and] at ha
        exact ⟨s2, ⟨_, _, rfl⟩, ha⟩
    · rintro σ H' ⟨hs, ⟨v, u, rfl⟩, ha⟩
      rw [iv_length, List.drop_length] at ha
      have := k _ hs
      rw [ha] at this
      exact this
end
end My
/-! A message's parts; whether it is right. -/
namespace My
open PySem PySem.Spec PyProof.Rows L2
open Km349 (le crc checked okCandidates okRanks ballotOf closeOf num)
def spFrom (K : PySem.W.Frag) : Sp := fun vs H Q _ => ∃ (p : Addr) (a b c d : Nat), vs = [.ref p] ∧ SqL K H p (iv (nums [a, b, c, d])) ∧ a < 256 ∧ b < 256 ∧ c < 256 ∧ d < 256 ∧ Q (.int (Ms.num4v a b c d : Nat)) H
def spAt (K : PySem.W.Frag) (i : Nat) : Sp := fun vs H Q _ => ∃ (p : Addr) (l : List Nat) (z : Nat), vs = [.ref p] ∧ SqL K H p (iv (nums l)) ∧ l[i]? = some z ∧ Q (.int z) H
def spNumber (K : PySem.W.Frag) : Sp := fun vs H Q _ => ∃ (p : Addr) (l : List Nat), vs = [.ref p] ∧ SqL K H p (iv (nums l)) ∧ l.length = 20 ∧ (∀ z ∈ l, z < 256) ∧ ∀ H', Same H H' → Q (.int (num l 4 4 : Nat)) H'
def spRanksOf (K : PySem.W.Frag) : Sp := fun vs H Q _ => ∃ (p : Addr) (l : List Nat), vs = [.ref p] ∧ SqL K H p (iv (nums l)) ∧ l.length = 20 ∧ Fresh H Q (nums ((l.drop 8).take 8))
def right (n : Nat) (l : List Nat) : Bool := (ballotOf n l).isSome || (closeOf l).isSome
def spRight (K : PySem.W.Frag) : Sp := fun vs H Q _ => ∃ (p : Addr) (l : List Nat) (n : Nat), vs = [.ref p, .int n] ∧ SqL K H p (iv (nums l)) ∧ l.length = 20 ∧ (∀ z ∈ l, z < 256) ∧ n ≤ 8 ∧ ∀ H', Same H H' → Q (.bl (right n l)) H'
theorem num11 {l : List Nat} {z : Nat} (h : l[1]? = some z) : num l 1 1 = z := by
  match l, h with
  | a :: b :: r, h =>
    have e : b = z := Option.some.inj h
    subst e
    show b + 256 * 0 = b
    omega
theorem ballot0 (x : Km349.Ballot) : x.bytes[0]? = some 1 := rfl
theorem close0 (x : Km349.Close) : x.bytes[0]? = some 2 := rfl
theorem right_big {n : Nat} {l : List Nat} {b : Nat} (h1 : l[1]? = some b) (h : 8 ≤ b) : right n l = false := by
  unfold right
  have e1 : ballotOf n l = none := by
    unfold ballotOf
    refine if_neg fun c => ?_
    have := c.2.1
    dsimp only at this
    rw [num11 h1] at this
    unfold Km349.BOOTHS at this
    omega
  have e2 : closeOf l = none := by
    unfold closeOf
    refine if_neg fun c => ?_
    have := c.2.1
    dsimp only at this
    rw [num11 h1] at this
    unfold Km349.BOOTHS at this
    omega
  rw [e1, e2]
  rfl
theorem close_not {l : List Nat} (h0 : ¬ l[0]? = some 2) : closeOf l = none := by
  unfold closeOf
  refine if_neg fun c => h0 ?_
  rw [c.1]
  exact close0 _
theorem ballot_not {n : Nat} {l : List Nat} (h0 : ¬ l[0]? = some 1) : ballotOf n l = none := by
  unfold ballotOf
  refine if_neg fun c => h0 ?_
  rw [c.1]
  exact ballot0 _
theorem ballot_ok {n : Nat} {l : List Nat} {b : Nat} (h1 : l[1]? = some b) (hb : b < 8) (hm : num l 4 4 < 4096) (hr : okRanks n ((l.drop 8).take 8) = true) :
    (ballotOf n l).isSome = decide (l = (⟨b, num l 4 4, (l.drop 8).take 8⟩ : Km349.Ballot).bytes) := by
  unfold ballotOf
  simp only [num11 h1]
  by_cases c : l = (⟨b, num l 4 4, (l.drop 8).take 8⟩ : Km349.Ballot).bytes
  · rw [if_pos ⟨c, hb, hm, hr⟩, decide_eq_true c]
    rfl
  · rw [if_neg fun q => c q.1, decide_eq_false c]
    rfl
theorem ballot_bad {n : Nat} {l : List Nat} (h : ¬ (num l 4 4 < 4096 ∧ okRanks n ((l.drop 8).take 8) = true)) : ballotOf n l = none := by
  unfold ballotOf
  exact if_neg fun c => h ⟨c.2.2.1, c.2.2.2⟩
theorem close_ok {l : List Nat} {b : Nat} (h1 : l[1]? = some b) (hb : b < 8) (hm : num l 4 4 ≤ 4096) : (closeOf l).isSome = decide (l = (⟨b, num l 4 4⟩ : Km349.Close).bytes) := by
  unfold closeOf
  simp only [num11 h1]
  by_cases c : l = (⟨b, num l 4 4⟩ : Km349.Close).bytes
  · rw [if_pos ⟨c, hb, hm⟩, decide_eq_true c]
    rfl
  · rw [if_neg fun q => c q.1, decide_eq_false c]
    rfl
theorem close_bad {l : List Nat} (h : ¬ num l 4 4 ≤ 4096) : closeOf l = none := by
  unfold closeOf
  exact if_neg fun c => h c.2.2
theorem nums_drop (l : List Nat) (k : Nat) : (nums l).drop k = nums (l.drop k) := (List.map_drop ..).symm
theorem nums_take (l : List Nat) (k : Nat) : (nums l).take k = nums (l.take k) := (List.map_take ..).symm
theorem eq_nums (a b : List Nat) : decide (nums a = nums b) = decide (a = b) := decide_eq_decide.mpr ⟨nums_inj, fun e => by rw [e]⟩
section
variable {P : Program} {w : World} {K : PySem.W.Frag} {mg : Str → Option Value} {base : Heap} {a : Ad}
theorem ok_from_low_byte_first (T : Txt K mg a) : FnOk P w K mg base CX0 1 a.f_from_low_byte_first a.d_from_low_byte_first ["numbers"] (spFrom K) := by
  refine T.F_from_low_byte_first.ok sc_from_low_byte_first (fun vs H Q E h => ?_) (fun cdv A outer s H vs Q E hr h => ?_)
  · obtain ⟨p, a0, b, c, d, rfl, _⟩ := h
    rfl
  · obtain ⟨p, a0, b, c, d, rfl, hp, ha, hb, hc, hd, k⟩ := h
    refine ⟨_, (pss_one (ps_ret (pe_op op_or (pe_op op_or (pe_op op_or (pe_ix (r := rIxL K) ix_list (pv 0) pe_int (fun _ _ => rfl)) (pe_op op_shl (pe_ix (r := rIxL K) ix_list (pv 0) pe_int (fun _ _ => rfl)) pe_int)) (pe_op op_shl (pe_ix (r := rIxL K) ix_list (pv 0) pe_int (fun _ _ => rfl)) pe_int)) (pe_op op_shl (pe_ix (r := rIxL K) ix_list (pv 0) pe_int (fun _ _ => rfl)) pe_int)))), ?_⟩
    have small' : ∀ {x : Nat}, x < 256 → ∀ {j : Int}, 0 ≤ j → j ≤ 1000000 → CPow (x : Int) j := fun {x} hx {j} h0 h1 => ⟨h0, h1, by rw [Int.natAbs_natCast]; omega⟩
    refine ⟨_, rfl, p, _, _, _, rfl, rfl, hp, atI_nat (j := 0) (iv_at2 (n := a0) rfl), _, rfl, p, _, _, _, rfl, rfl, hp, atI_nat (j := 1) (iv_at2 (n := b) rfl), _, _, rfl, rfl, small' hb (by decide) (by decide), _, _, rfl, rfl,
      _, rfl, p, _, _, _, rfl, rfl, hp, atI_nat (j := 2) (iv_at2 (n := c) rfl), _, _, rfl, rfl, small' hc (by decide) (by decide), _, _, rfl, rfl,
      _, rfl, p, _, _, _, rfl, rfl, hp, atI_nat (j := 3) (iv_at2 (n := d) rfl), _, _, rfl, rfl, small' hd (by decide) (by decide), _, _, rfl, rfl, ?_⟩
    have e := low4 ha hb hc hd
    rw [← e] at k
    exact k
theorem ok_kind_of (T : Txt K mg a) : FnOk P w K mg base CX0 1 a.f_kind_of a.d_kind_of ["message"] (spAt K 0) := by
  refine T.F_kind_of.ok sc_kind_of (fun vs H Q E h => ?_) (fun cdv A outer s H vs Q E hr h => ?_)
  · obtain ⟨p, l, z, rfl, _⟩ := h
    rfl
  · obtain ⟨p, l, z, rfl, hp, hz, k⟩ := h
    exact ⟨_, (pss_one (ps_ret (pe_ix (r := rIxL K) ix_list (pv 0) pe_int (fun _ _ => rfl)))), _, rfl, p, _, _, _, rfl, rfl, hp, atI_nat (j := 0) (iv_at2 hz), k⟩
theorem ok_booth_of (T : Txt K mg a) : FnOk P w K mg base CX0 1 a.f_booth_of a.d_booth_of ["message"] (spAt K 1) := by
  refine T.F_booth_of.ok sc_booth_of (fun vs H Q E h => ?_) (fun cdv A outer s H vs Q E hr h => ?_)
  · obtain ⟨p, l, z, rfl, _⟩ := h
    rfl
  · obtain ⟨p, l, z, rfl, hp, hz, k⟩ := h
    exact ⟨_, (pss_one (ps_ret (pe_ix (r := rIxL K) ix_list (pv 0) pe_int (fun _ _ => rfl)))), _, rfl, p, _, _, _, rfl, rfl, hp, atI_nat (j := 1) (iv_at2 hz), k⟩
theorem ok_number_of (T : Txt K mg a) : FnOk P w K mg base CX0 2 a.f_number_of a.d_number_of ["message"] (spNumber K) := by
  refine T.F_number_of.ok sc_number_of (fun vs H Q E h => ?_) (fun cdv A outer s H vs Q E hr h => ?_)
  · obtain ⟨p, l, rfl, _⟩ := h
    rfl
  · obtain ⟨p, l, rfl, hp, hl, hb, k⟩ := h
    refine ⟨_, (pss_one (ps_ret (pe_call (ok_from_low_byte_first T) (hr.mono (by decide)) rfl T.m_from_low_byte_first T.F_from_low_byte_first.kp T.b_from_low_byte_first .nil pass0 (pa_cons (pe_slice sl_list (pv 0) (po_some pe_int) (po_some pe_int)) pa_nil)))), ?_⟩
    refine ⟨_, rfl, _, rfl, _, rfl, p, _, rfl, hp, fun q hq => ?_⟩
    obtain ⟨a0, a1, a2, a3, a4, a5, a6, a7, a8, a9, a10, a11, a12, a13, a14, a15, a16, a17, a18, a19, rfl⟩ := Ms.twenty hl
    have e := cut_mid (l := nums [a0, a1, a2, a3, a4, a5, a6, a7, a8, a9, a10, a11, a12, a13, a14, a15, a16, a17, a18, a19]) (a := 4) (b := 8) (by decide) (by show 8 ≤ 20; decide)
    refine ⟨q, a4, a5, a6, a7, rfl, SqL.of (upd_same.trans (congrArg (fun z => some (HO.lst z)) e)), hb _ (by simp), hb _ (by simp), hb _ (by simp), hb _ (by simp), ?_⟩
    have e2 : Ms.num4v a4 a5 a6 a7 = num [a0, a1, a2, a3, a4, a5, a6, a7, a8, a9, a10, a11, a12, a13, a14, a15, a16, a17, a18, a19] 4 4 := by
      show _ = a4 + 256 * (a5 + 256 * (a6 + 256 * (a7 + 256 * 0)))
      unfold Ms.num4v
      omega
    rw [e2]
    exact k _ (Same.new hq)
theorem ok_ranks_of (T : Txt K mg a) : FnOk P w K mg base CX0 1 a.f_ranks_of a.d_ranks_of ["message"] (spRanksOf K) := by
  refine T.F_ranks_of.ok sc_ranks_of (fun vs H Q E h => ?_) (fun cdv A outer s H vs Q E hr h => ?_)
  · obtain ⟨p, l, rfl, _⟩ := h
    rfl
  · obtain ⟨p, l, rfl, hp, hl, k⟩ := h
    refine ⟨_, (pss_one (ps_ret (pe_slice sl_list (pv 0) (po_some pe_int) (po_some pe_int)))), ?_⟩
    refine ⟨_, rfl, _, rfl, _, rfl, p, _, rfl, hp, fun q hq => ?_⟩
    refine k q _ hq (Same.new hq) (upd_same.trans ?_)
    have e := cut_mid (l := nums l) (a := 8) (b := 16) (by decide) (by rw [nums_length, hl]; decide)
    rw [nums_drop, nums_take] at e
    exact congrArg (fun z => some (HO.lst z)) e
theorem ok_is_right (T : Txt K mg a) : FnOk P w K mg base CX0 5 a.f_is_right a.d_is_right ["message", "candidates"] (spRight K) := by
  refine T.F_is_right.ok sc_is_right (fun vs H Q E h => ?_) (fun cdv A outer s H vs Q E hr h => ?_)
  · obtain ⟨p, l, n, rfl, _⟩ := h
    rfl
  · obtain ⟨p, l, n, rfl, hp, hl, hb, hn, k⟩ := h
    refine ⟨_, (pss_cons (ps_set (i := 2) sc_is_right.nd rfl (Or.inl rfl) (pe_call (ok_booth_of T) (hr.mono (by decide)) rfl T.m_booth_of T.F_booth_of.kp T.b_booth_of .nil pass0 (pa_cons (pv 0) pa_nil)))
      (pss_cons (ps_set (i := 3) sc_is_right.nd rfl (Or.inl rfl) (pe_call (ok_number_of T) (hr.mono (by decide)) rfl T.m_number_of T.F_number_of.kp T.b_number_of .nil pass0 (pa_cons (pv 0) pa_nil)))
      (pss_cons (ps_set (i := 4) sc_is_right.nd rfl (Or.inl rfl) (pe_call (ok_ranks_of T) (hr.mono (by decide)) rfl T.m_ranks_of T.F_ranks_of.kp T.b_ranks_of .nil pass0 (pa_cons (pv 0) pa_nil)))
      (pss_cons (ps_if (pt_cmpR op_ge (pv 2) (pgi rfl T.g_MOST_BOOTHS) (nomark _)) (pss_one (ps_ret pe_bl)) pss_nil)
      (pss_cons (ps_if (PW.pt (pw_and (pt_cmpR op_eq (pe_call (ok_kind_of T) (hr.mono (by decide)) rfl T.m_kind_of T.F_kind_of.kp T.b_kind_of .nil pass0 (pa_cons (pv 0) pa_nil)) (pgi rfl T.g_BALLOT) (nomark _)) (pw_and (pt_cmpR op_lt (pv 3) (pgi rfl T.g_MOST_BALLOTS) (nomark _)) (pw_and1 (pt_val (pe_call (ok_ranks_fit T) (hr.mono (by decide)) rfl T.m_ranks_fit T.F_ranks_fit.kp T.b_ranks_fit .nil pass0 (pa_cons (pv 4) (pa_cons (pv 1) pa_nil)))))))) (pss_one (ps_ret (pe_cmpR (op_eqD hr.units) (pv 0) (pe_call (ok_ballot_message T) (hr.mono (by decide)) rfl T.m_ballot_message T.F_ballot_message.kp T.b_ballot_message .nil pass0 (pa_cons (pv 2) (pa_cons (pv 3) (pa_cons (pv 4) pa_nil)))) (nomark _)))) pss_nil)
      (pss_cons (ps_if (PW.pt (pw_and (pt_cmpR op_eq (pe_call (ok_kind_of T) (hr.mono (by decide)) rfl T.m_kind_of T.F_kind_of.kp T.b_kind_of .nil pass0 (pa_cons (pv 0) pa_nil)) (pgi rfl T.g_CLOSING) (nomark _)) (pw_and1 (pt_cmpR op_le (pv 3) (pgi rfl T.g_MOST_BALLOTS) (nomark _))))) (pss_one (ps_ret (pe_cmpR (op_eqD hr.units) (pv 0) (pe_call (ok_closing_message T) (hr.mono (by decide)) rfl T.m_closing_message T.F_closing_message.kp T.b_closing_message .nil pass0 (pa_cons (pv 2) (pa_cons (pv 3) pa_nil))) (nomark _)))) pss_nil)
      (pss_one (ps_ret pe_bl)))))))), ?_⟩
    obtain ⟨t0, h0⟩ : ∃ z, l[0]? = some z := ⟨l[0], List.getElem?_eq_getElem (by omega)⟩
    obtain ⟨t1, h1⟩ : ∃ z, l[1]? = some z := ⟨l[1], List.getElem?_eq_getElem (by omega)⟩
    refine ⟨_, rfl, p, l, t1, rfl, hp, h1, ?_⟩
    refine ⟨_, rfl, p, l, rfl, hp, hl, hb, fun H1 s1 => ?_⟩
    have hp1 := s1.seq hp
    refine ⟨_, rfl, p, l, rfl, hp1, hl, fun q H2 hq s2 e2 => ?_⟩
    have hp2 := s2.seq hp1
    have s12 := s1.trans s2
    refine ⟨_, rfl, _, _, rfl, rfl, _, rfl, ?_⟩
    refine ite2 (fun c => ?_) (fun c => ?_)
    · have := k H2 s12
      rw [right_big h1 (by have := of_decide_eq_true c; omega)] at this
      exact this
    · have hb8 : t1 < 8 := by
        have : ¬ (8 : Int) ≤ (t1 : Int) := fun z => c (decide_eq_true z)
        omega
      have r8 : ((l.drop 8).take 8).length = 8 := by rw [List.length_take, List.length_drop, hl]; rfl
      have rb : ∀ z ∈ (l.drop 8).take 8, z < 256 := fun z hz => hb z (List.mem_of_mem_drop (List.mem_of_mem_take hz))
      have hfit : okRanks n ((l.drop 8).take 8) = Fl.allFit 0 n (nums ((l.drop 8).take 8)) := by
        have := Fl.okRanks_fit (n := n) (l := nums ((l.drop 8).take 8)) hn (by rw [nums_length]; exact r8) (fun z hz => by
          obtain ⟨y, hy, rfl⟩ := List.mem_map.mp hz
          have := rb y hy
          omega)
        rw [nats_nums] at this
        exact this
      have hp0 : ∀ H3, Same H2 H3 → SqL K H3 p (iv (nums l)) := fun H3 s3 => s3.seq hp2
      refine ⟨_, rfl, p, l, t0, rfl, hp2, h0, rfl, _, rfl, ?_⟩
      refine ite2 (fun c1 => ?_) (fun c1 => ?_)
      · have ht0 : t0 = 1 := by
          have z := of_decide_eq_true c1
          injection z with z
          omega
        refine ⟨_, rfl, _, _, rfl, rfl, _, rfl, ?_⟩
        refine ite2 (fun c3 => ?_) (fun c3 => ?_)
        · have hm : num l 4 4 < 4096 := by have := of_decide_eq_true c3; omega
          refine ⟨_, rfl, _, rfl, q, _, n, rfl, SqL.of e2, fun H3 s3 => ?_⟩
          refine ⟨_, rfl, ?_⟩
          rw [← hfit]
          cases c4 : okRanks n ((l.drop 8).take 8) with
          | true =>
            refine iteT ?_
            refine ⟨_, rfl, _, rfl, _, rfl, _, rfl, t1, num l 4 4, q, _, rfl, s3 _ _ e2, (by rw [r8]; decide), fun r9 H9 n9 s9 e9 => ?_⟩
            refine ⟨_, _, dp_ints (s9.seq (hp0 _ s3)), dp_ints (SqL.of e9), shaped_di _, shaped_di _, ?_⟩
            have := k H9 ((s12.trans s3).trans s9)
            unfold right at this
            rw [close_not (by rw [h0, ht0]; decide), ballot_ok h1 hb8 hm c4] at this
            rw [eqv_di, eq_nums]
            rw [Option.isSome_none, Bool.or_false] at this
            exact this
          | false =>
            refine iteF ?_
            have e0 : ballotOf n l = none := ballot_bad fun z => by
              rw [c4] at z
              exact absurd z.2 (by decide)
            have kq : ∀ H', Same H H' → Q (.bl (closeOf l).isSome) H' := fun H' s' => by
              have := k H' s'
              unfold right at this
              rw [e0] at this
              exact this
            refine ⟨_, rfl, p, l, t0, rfl, (hp0 _ s3), h0, rfl, _, rfl, ?_⟩
            refine ite2 (fun c2 => ?_) (fun c2 => ?_)
            · refine ⟨_, rfl, _, _, rfl, rfl, _, rfl, ?_⟩
              refine ite2 (fun c3 => ?_) (fun c3 => ?_)
              · have hm : num l 4 4 ≤ 4096 := by have := of_decide_eq_true c3; omega
                refine ⟨_, rfl, _, rfl, _, rfl, t1, num l 4 4, rfl, fun r9 H9 n9 s9 e9 => ?_⟩
                refine ⟨_, _, dp_ints (s9.seq (hp0 _ s3)), dp_ints (SqL.of e9), shaped_di _, shaped_di _, ?_⟩
                have := kq H9 ((s12.trans s3).trans s9)
                rw [close_ok h1 hb8 hm] at this
                rw [eqv_di, eq_nums]
                exact this
              · have hm : ¬ num l 4 4 ≤ 4096 := fun z => c3 (decide_eq_true (by omega))
                have := kq _ (s12.trans s3)
                rw [close_bad hm] at this
                exact this
            · have h2 : ¬ l[0]? = some 2 := fun z => c2 (decide_eq_true (by rw [h0] at z; have := Option.some.inj z; rw [this]; rfl))
              have := kq _ (s12.trans s3)
              rw [close_not h2] at this
              exact this
        · refine iteF ?_
          have e0 : ballotOf n l = none := ballot_bad fun z => c3 (decide_eq_true (by have := z.1; omega))
          have kq : ∀ H', Same H H' → Q (.bl (closeOf l).isSome) H' := fun H' s' => by
            have := k H' s'
            unfold right at this
            rw [e0] at this
            exact this
          refine ⟨_, rfl, p, l, t0, rfl, hp2, h0, rfl, _, rfl, ?_⟩
          refine ite2 (fun c2 => ?_) (fun c2 => ?_)
          · refine ⟨_, rfl, _, _, rfl, rfl, _, rfl, ?_⟩
            refine ite2 (fun c3 => ?_) (fun c3 => ?_)
            · have hm : num l 4 4 ≤ 4096 := by have := of_decide_eq_true c3; omega
              refine ⟨_, rfl, _, rfl, _, rfl, t1, num l 4 4, rfl, fun r9 H9 n9 s9 e9 => ?_⟩
              refine ⟨_, _, dp_ints (s9.seq hp2), dp_ints (SqL.of e9), shaped_di _, shaped_di _, ?_⟩
              have := kq H9 (s12.trans s9)
              rw [close_ok h1 hb8 hm] at this
              rw [eqv_di, eq_nums]
              exact this
            · have hm : ¬ num l 4 4 ≤ 4096 := fun z => c3 (decide_eq_true (by omega))
              have := kq _ s12
              rw [close_bad hm] at this
              exact this
          · have h2 : ¬ l[0]? = some 2 := fun z => c2 (decide_eq_true (by rw [h0] at z; have := Option.some.inj z; rw [this]; rfl))
            have := kq _ s12
            rw [close_not h2] at this
            exact this
      · refine iteF ?_
        have e0 : ballotOf n l = none := ballot_not fun z => c1 (decide_eq_true (by rw [h0] at z; have := Option.some.inj z; rw [this]; rfl))
        have kq : ∀ H', Same H H' → Q (.bl (closeOf l).isSome) H' := fun H' s' => by
          have := k H' s'
          unfold right at this
          rw [e0] at this
          exact this
        refine ⟨_, rfl, p, l, t0, rfl, hp2, h0, rfl, _, rfl, ?_⟩
        refine ite2 (fun c2 => ?_) (fun c2 => ?_)
        · refine ⟨_, rfl, _, _, rfl, rfl, _, rfl, ?_⟩
          refine ite2 (fun c3 => ?_) (fun c3 => ?_)
          · have hm : num l 4 4 ≤ 4096 := by have := of_decide_eq_true c3; omega
            refine ⟨_, rfl, _, rfl, _, rfl, t1, num l 4 4, rfl, fun r9 H9 n9 s9 e9 => ?_⟩
            refine ⟨_, _, dp_ints (s9.seq hp2), dp_ints (SqL.of e9), shaped_di _, shaped_di _, ?_⟩
            have := kq H9 (s12.trans s9)
            rw [close_ok h1 hb8 hm] at this
            rw [eqv_di, eq_nums]
            exact this
          · have hm : ¬ num l 4 4 ≤ 4096 := fun z => c3 (decide_eq_true (by omega))
            have := kq _ s12
            rw [close_bad hm] at this
            exact this
        · have h2 : ¬ l[0]? = some 2 := fun z => c2 (decide_eq_true (by rw [h0] at z; have := Option.some.inj z; rw [this]; rfl))
          have := kq _ s12
          rw [close_not h2] at this
          exact this
end
end My
/-! How ballots stand to the candidates; orders as rows. -/
namespace My
open PySem PySem.Spec PyProof.Rows L2
open Km349 (prefer against isOrder eight)
/-- before stands at m, its rows at rws: before[x][y] is f x y -/
def rowOf (n : Nat) (f : Nat → Nat) : List Nat := (List.range n).map f
structure MatAt (H : Hp) (m : Addr) (rws : List Addr) (n : Nat) (f : Nat → Nat → Nat) : Prop where
  top : H m = some (.lst (rws.map V.ref))
  len : rws.length = n
  nd : rws.Nodup
  out : m ∉ rws
  row : ∀ (x : Nat) (r : Addr), rws[x]? = some r → H r = some (.lst (iv (nums (rowOf n (f x)))))
theorem rowOf_get {n : Nat} {f : Nat → Nat} {y : Nat} (h : y < n) : (rowOf n f)[y]? = some (f y) := by
  unfold rowOf
  rw [List.getElem?_map, List.getElem?_range h]
  rfl
theorem rowOf_length (n : Nat) (f : Nat → Nat) : (rowOf n f).length = n := by
  unfold rowOf
  rw [List.length_map, List.length_range]
theorem rowOf_congr {n : Nat} {f g : Nat → Nat} (h : ∀ y, y < n → f y = g y) : rowOf n f = rowOf n g := List.map_congr_left fun y hy => h y (List.mem_range.mp hy)
theorem MatAt.stay {H H' : Hp} {m : Addr} {rws : List Addr} {n : Nat} {f : Nat → Nat → Nat} (M : MatAt H m rws n f) (h : ∀ b ∈ m :: rws, ∀ o, H b = some o → H' b = some o) : MatAt H' m rws n f :=
  ⟨h m (by simp) _ M.top, M.len, M.nd, M.out, fun x r e => h r (by simp [List.mem_of_getElem? e]) _ (M.row x r e)⟩
theorem MatAt.same {H H' : Hp} {m : Addr} {rws : List Addr} {n : Nat} {f : Nat → Nat → Nat} (M : MatAt H m rws n f) (s : Same H H') : MatAt H' m rws n f := M.stay fun b _ o e => s b o e
theorem MatAt.congr {H : Hp} {m : Addr} {rws : List Addr} {n : Nat} {f g : Nat → Nat → Nat} (M : MatAt H m rws n f) (h : ∀ x y, x < n → y < n → f x y = g x y) : MatAt H m rws n g :=
  ⟨M.top, M.len, M.nd, M.out, fun x r e => by
    have hx : x < n := by rw [← M.len]; exact (List.getElem?_eq_some_iff.mp e).1
    rw [M.row x r e, rowOf_congr fun y hy => h x y hx hy]⟩
theorem MatAt.at {H : Hp} {m : Addr} {rws : List Addr} {n : Nat} {f : Nat → Nat → Nat} (M : MatAt H m rws n f) {x : Nat} (h : x < n) : ∃ r, rws[x]? = some r ∧ (rws.map V.ref)[x]? = some (.ref r) ∧ H r = some (.lst (iv (nums (rowOf n (f x))))) := by
  have hx : x < rws.length := by rw [M.len]; exact h
  refine ⟨rws[x], List.getElem?_eq_getElem hx, ?_, M.row x _ (List.getElem?_eq_getElem hx)⟩
  rw [List.getElem?_map, List.getElem?_eq_getElem hx]
  rfl
theorem rowOf_set {n : Nat} {f : Nat → Nat} {y v : Nat} : iv (nums (rowOf n fun z => if z = y then v else f z)) = (iv (nums (rowOf n f))).set y (.int v) := by
  refine List.ext_getElem? fun i => ?_
  rw [List.getElem?_set]
  unfold iv nums Km349Neutral.nums rowOf
  simp only [List.getElem?_map, List.length_map, List.length_range]
  by_cases hi : i < n
  · rw [List.getElem?_range hi]
    by_cases e : i = y
    · subst e
      rw [if_pos rfl, if_pos hi]
      show some (V.int (((if i = i then v else f i : Nat)) : Int)) = _
      rw [if_pos rfl]
    · rw [if_neg fun z => e z.symm]
      show some (V.int (((if i = y then v else f i : Nat)) : Int)) = _
      rw [if_neg e]
      rfl
  · rw [List.getElem?_eq_none (by rw [List.length_range]; omega)]
    by_cases e : y = i
    · rw [if_pos e, if_neg (by omega)]
      rfl
    · rw [if_neg e]
      rfl
/-- one entry written -/
theorem MatAt.put {H : Hp} {m : Addr} {rws : List Addr} {n : Nat} {f : Nat → Nat → Nat} (M : MatAt H m rws n f) {x y v : Nat} {r : Addr} (hr : rws[x]? = some r) :
    MatAt (upd H r (.lst ((iv (nums (rowOf n (f x)))).set y (.int v)))) m rws n fun a b => if a = x ∧ b = y then v else f a b := by
  have hm : m ≠ r := fun e => M.out (e ▸ List.mem_of_getElem? hr)
  refine ⟨by rw [upd_ne hm]; exact M.top, M.len, M.nd, M.out, fun a q hq => ?_⟩
  by_cases e : a = x
  · subst e
    rw [hq] at hr
    cases hr
    rw [upd_same, ← rowOf_set]
    congr 4
    exact rowOf_congr fun z _ => by by_cases c : z = y <;> simp [c]
  · have hq' : q ≠ r := fun z => e (nd_ix M.nd (z ▸ hq) hr)
    rw [upd_ne hq', M.row a q hq]
    congr 4
    exact rowOf_congr fun z _ => by simp [e]
/-- how much an order goes against, by before -/
def agn (f : Nat → Nat → Nat) : List Nat → Nat
  | [] => 0
  | a :: o => (o.map fun b => f b a).sum + agn f o
theorem agn_against {l : List Km349.Ranks} {f : Nat → Nat → Nat} {n : Nat} (hf : ∀ x y, x < n → y < n → f x y = prefer l x y) : ∀ o : List Nat, (∀ c ∈ o, c < n) → agn f o = against l o
  | [], _ => rfl
  | a :: o, h => by
    rw [Od.against_cons]
    show (o.map fun b => f b a).sum + agn f o = Od.row l a o + against l o
    rw [agn_against hf o fun c hc => h c (List.mem_cons_of_mem _ hc)]
    congr 1
    unfold Od.row
    congr 1
    exact List.map_congr_left fun b hb => hf b a (h b (List.mem_cons_of_mem _ hb)) (h a List.mem_cons_self)
def pad (l : List Nat) : List Nat := l ++ List.replicate (8 - l.length) 255
theorem pad_eight {l : List Nat} (h : l.length ≤ 8) : eight l = pad l := by
  unfold eight pad Km349.PLACES
  rw [List.take_append, List.take_of_length_le h, List.take_replicate]
  congr 2
  omega
/-! ### a row that is an order -/
theorem perm_of_sub : ∀ {S T : List Nat}, S.Nodup → (∀ x ∈ S, x ∈ T) → T.length = S.length → S.Perm T
  | [], T, _, _, h => by
    have e : T = [] := List.length_eq_zero_iff.mp h
    rw [e]
  | a :: S, T, hn, hs, h => by
    have ha := hs a List.mem_cons_self
    have hn' := List.nodup_cons.mp hn
    have p := List.perm_cons_erase ha
    refine (List.Perm.cons a (perm_of_sub hn'.2 (fun x hx => ?_) ?_)).trans p.symm
    · refine (List.mem_erase_of_ne ?_).mpr (hs x (List.mem_cons_of_mem _ hx))
      intro e
      rw [e] at hx
      exact hn'.1 hx
    · rw [List.length_erase_of_mem ha, h]
      rfl
theorem sorted_eq : ∀ {a b : List Int}, a.Perm b → a.Pairwise (· ≤ ·) → b.Pairwise (· ≤ ·) → a = b
  | [], b, p, _, _ => by rw [List.nil_perm.mp p]
  | x :: a, [], p, _, _ => by cases List.perm_nil.mp p
  | x :: a, y :: b, p, ha, hb => by
    have h1 := List.pairwise_cons.mp ha
    have h2 := List.pairwise_cons.mp hb
    have e : x = y := by
      have m1 : x ∈ y :: b := p.subset List.mem_cons_self
      have m2 : y ∈ x :: a := p.symm.subset List.mem_cons_self
      have l1 : y ≤ x := by
        rcases List.mem_cons.mp m1 with z | z
        · omega
        · exact h2.1 x z
      have l2 : x ≤ y := by
        rcases List.mem_cons.mp m2 with z | z
        · omega
        · exact h1.1 y z
      omega
    subst e
    rw [sorted_eq (List.Perm.cons_inv p) h1.2 h2.2]
theorem ramp_sorted (n : Nat) : (ramp n).Pairwise (· ≤ ·) := by
  unfold ramp nums Km349Neutral.nums
  refine List.Pairwise.map _ (fun a b h => ?_) (List.pairwise_lt_range (n := n))
  exact Int.ofNat_le.mpr (Nat.le_of_lt h)
theorem nums_perm {a b : List Nat} : (nums a).Perm (nums b) ↔ a.Perm b := by
  constructor
  · intro h
    have := h.map Int.toNat
    have e : ∀ l : List Nat, (nums l).map Int.toNat = l := nats_nums
    rw [e, e] at this
    exact this
  · exact fun h => h.map _
theorem order_is {n : Nat} {l : List Nat} (hl : l.length = 8) (hn : n ≤ 8) {ns : List Int} (hp : ns.Perm (nums (l.take n))) (hs : ns.Pairwise (· ≤ ·)) :
    isOrder n l = (decide (ns = ramp n) && decide (nums l = nums (pad (l.take n)))) := by
  have hlen : (l.take n).length = n := by rw [List.length_take, hl]; omega
  have h1 : ((List.range n).all fun i => (l.take n).contains i) = decide (ns = ramp n) := by
    rw [Bool.eq_iff_iff, List.all_eq_true, decide_eq_true_eq]
    constructor
    · intro h
      refine sorted_eq ?_ hs (ramp_sorted n)
      refine hp.trans (nums_perm.mpr (perm_of_sub List.nodup_range (fun x hx => ?_) (by rw [hlen, List.length_range])).symm)
      exact List.contains_iff_mem.mp (h x hx)
    · intro e x hx
      rw [e] at hp
      have := (nums_perm.mp hp).subset hx
      exact List.contains_iff_mem.mpr this
  have h2 : ((l.drop n).all fun x => x == 255) = decide (nums l = nums (pad (l.take n))) := by
    rw [eq_nums, Bool.eq_iff_iff, List.all_eq_true, decide_eq_true_eq]
    unfold pad
    rw [hlen]
    constructor
    · intro h
      have : l.drop n = List.replicate (8 - n) 255 := List.eq_replicate_iff.mpr ⟨by rw [List.length_drop, hl], fun x hx => by simpa using h x hx⟩
      rw [← this, List.take_append_drop]
    · intro e x hx
      have e2 := congrArg (List.drop n) e
      rw [List.drop_left' hlen] at e2
      rw [e2] at hx
      rw [(List.mem_replicate.mp hx).2]
      rfl
  unfold isOrder
  rw [h1, h2]
  have h3 : (l.length == Km349.PLACES) = true := by rw [hl]; rfl
  rw [h3, Bool.true_and, Bool.and_comm]
/-! ### the promises -/
def spBefore0 : Sp := fun vs H Q _ => ∃ n : Nat, vs = [.int n] ∧ n ≤ 8 ∧ ∀ (H' : Hp) (m : Addr) (rws : List Addr), H m = none → (∀ r ∈ rws, H r = none) → Same H H' → MatAt H' m rws n (fun _ _ => 0) → Q (.ref m) H'
def gt1 (l : List Nat) (x y : Nat) : Nat := if l.getD x 0 < l.getD y 0 then 1 else 0
def spCount : Sp := fun vs H Q _ => ∃ (m r : Addr) (rws : List Addr) (n : Nat) (f : Nat → Nat → Nat) (l : List Nat), vs = [.ref m, .ref r] ∧ MatAt H m rws n f ∧ H r = some (.lst (iv (nums l))) ∧ r ∉ rws ∧ n ≤ l.length ∧ n ≤ 8 ∧
  ∀ H', MatAt H' m rws n (fun x y => f x y + gt1 l x y) → (∀ b o, H b = some o → b ∉ rws → H' b = some o) → Q .non H'
def spPad : Sp := fun vs H Q _ => ∃ (p : Addr) (l : List Nat), vs = [.ref p] ∧ H p = some (.lst (iv (nums l))) ∧ l.length ≤ 8 ∧ Fresh H Q (nums (pad l))
def spFits (K : PySem.W.Frag) : Sp := fun vs H Q _ => ∃ (p : Addr) (l : List Nat) (n : Nat), vs = [.ref p, .int n] ∧ SqL K H p (iv (nums l)) ∧ l.length = 8 ∧ n ≤ 8 ∧ ∀ H', Same H H' → Q (.bl (isOrder n l)) H'
def spAgainst (K : PySem.W.Frag) : Sp := fun vs H Q _ => ∃ (m p : Addr) (rws : List Addr) (n : Nat) (f : Nat → Nat → Nat) (o : List Nat), vs = [.ref m, .ref p] ∧ MatAt H m rws n f ∧ SqL K H p (iv (nums o)) ∧ (∀ c ∈ o, c < n) ∧ ∀ H', Same H H' → Q (.int (agn f o : Nat)) H'
section
variable {P : Program} {w : World} {K : PySem.W.Frag} {mg : Str → Option Value} {base : Heap} {a : Ad}
theorem zeros_row (n : Nat) : (List.replicate n ([.int 0] : List V)).flatten = iv (nums (rowOf n fun _ => 0)) := by
  have e : rowOf n (fun _ => 0) = List.replicate n 0 := by
    refine List.eq_replicate_iff.mpr ⟨rowOf_length n _, fun b hb => ?_⟩
    obtain ⟨_, _, rfl⟩ := List.mem_map.mp hb
    rfl
  rw [e]
  unfold iv nums Km349Neutral.nums
  rw [List.map_replicate, List.map_replicate, List.flatten_replicate_singleton]
  rfl
theorem ok_before_without_ballots (T : Txt K mg a) : FnOk P w K mg base CX0 1 a.f_before_without_ballots a.d_before_without_ballots ["candidates"] spBefore0 := by
  refine T.F_before_without_ballots.ok sc_before_without_ballots (fun vs H Q E h => ?_) (fun cdv A outer s H vs Q E hr h => ?_)
  · obtain ⟨n, rfl, _⟩ := h
    rfl
  · obtain ⟨n, rfl, hn, k⟩ := h
    refine ⟨_, (pss_one (ps_ret (pe_lc rfl sc_before_without_ballots.nd (pi_range1 rfl T.z_range (pa_cons (pv 0) pa_nil)) blk_before_without_ballots_0 (fun _ _ _ _ _ => (pg_name (i := 1) sc_before_without_ballots.nd rfl (Or.inl rfl))) (fun _ _ _ _ _ => pts_nil) (fun _ _ _ _ _ => (pe_op op_rep (pe_lst (pa_cons pe_int pa_nil)) (pv 0)))))), ?_⟩
    refine ⟨_, rfl, n, rfl, by omega, by omega, fun D hD => ?_⟩
    refine lc_range (n := n) (fun i H' => Same H H' ∧ ∃ rws : List Addr, H' D = some (.lst (rws.map V.ref)) ∧ rws.length = i ∧ rws.Nodup ∧ D ∉ rws ∧ ∀ r ∈ rws, H r = none ∧ H' r = some (.lst (iv (nums (rowOf n fun _ => 0))))) ?_ ?_ ?_
    · exact ⟨Same.new hD, [], upd_same, rfl, List.nodup_nil, (by simp), fun r hr => nomatch hr⟩
    · rintro i H' hi ⟨sm, rws, e1, e2, e3, e4, e5⟩
      refine ⟨rfl, ?_⟩
      refine ⟨(by show 1 ≤ sizeLine; decide), fun p1 n1 => ?_⟩
      refine ⟨_, rfl, p1, _, _, rfl, rfl, upd_same, (by show (-(2 ^ 63) : Int) ≤ (n : Int); omega), (by show (n : Int) < 2 ^ 63; omega), small (by show 1 * ((n : Int).toNat) ≤ 1000000; omega), fun p2 n2 => ?_⟩
      have n21 : p2 ≠ p1 := fun e => by rw [e, upd_same] at n2; cases n2
      have n2' : H' p2 = none := by rw [upd_ne n21] at n2; exact n2
      have d1 : D ≠ p1 := ne_of_none e1 n1
      have d2 : D ≠ p2 := ne_of_none e1 n2'
      refine ⟨rws.map V.ref, ?_, smallL (by rw [List.length_map]; omega), ?_⟩
      · rw [upd_ne d2, upd_ne d1]
        exact e1
      · have f1 : H p2 = none := sm.free n2'
        refine ⟨fun b o e => ?_, rws ++ [p2], ?_, by rw [List.length_append, e2]; rfl, ?_, ?_, fun r hr => ?_⟩
        · have hb := sm b o e
          rw [upd_ne (ne_of_none e hD), upd_ne (ne_of_none hb n2'), upd_ne (ne_of_none hb n1)]
          exact hb
        · rw [upd_same, List.map_append]
          rfl
        · refine nd_snoc e3 fun z => ?_
          rw [(e5 p2 z).2] at n2'
          cases n2'
        · intro z
          rcases List.mem_append.mp z with z | z
          · exact e4 z
          · exact d2 (by simpa using z)
        · rcases List.mem_append.mp hr with z | z
          · have q := (e5 r z).2
            refine ⟨(e5 r z).1, ?_⟩
            have rD : r ≠ D := fun t => e4 (t ▸ z)
            rw [upd_ne rD, upd_ne (ne_of_none q n2'), upd_ne (ne_of_none q n1)]
            exact q
          · have e : r = p2 := by simpa using z
            subst e
            refine ⟨f1, ?_⟩
            rw [upd_ne (Ne.symm d2), upd_same, ← zeros_row]
            rfl
    · rintro H' ⟨sm, rws, e1, e2, e3, e4, e5⟩
      exact k H' D rws hD (fun r hr => (e5 r hr).1) sm ⟨e1, e2, e3, e4, fun x r e => (e5 r (List.mem_of_getElem? e)).2⟩
theorem ok_padded (T : Txt K mg a) : FnOk P w K mg base CX0 1 a.f_padded a.d_padded ["order"] spPad := by
  refine T.F_padded.ok sc_padded (fun vs H Q E h => ?_) (fun cdv A outer s H vs Q E hr h => ?_)
  · obtain ⟨p, l, rfl, _⟩ := h
    rfl
  · obtain ⟨p, l, rfl, hp, hl, k⟩ := h
    refine ⟨_, (pss_one (ps_ret (pe_op op_cat (pv 0) (pe_op op_rep (pe_lst (pa_cons (pgi rfl T.g_NOBODY) pa_nil)) (pe_op op_sub (pgi rfl T.g_MOST_CANDIDATES) (pe_callB call_len_seq (by rfl) T.z_len PySem.boot_len (pa_cons (pv 0) pa_nil))))))), ?_⟩
    refine ⟨_, rfl, (by show 1 ≤ sizeLine; decide), fun p1 n1 => ?_⟩
    have s1 := Same.new (o := .lst [.int 255]) n1
    refine ⟨_, rfl, p, _, rfl, .inl (SqL.of (s1 _ _ hp)), _, _, rfl, rfl, ?_⟩
    have e8 : ((8 : Int) - ((iv (nums l)).length : Nat)) = ((8 - l.length : Nat) : Int) := by rw [iv_length, nums_length]; omega
    refine ⟨p1, _, _, rfl, congrArg V.int e8, upd_same, by omega, by omega, small (by show 1 * (((8 - l.length : Nat) : Int).toNat) ≤ 1000000; omega), fun p2 n2 => ?_⟩
    have s2 := Same.new (o := .lst (List.replicate (((8 - l.length : Nat) : Int).toNat) ([.int 255] : List V)).flatten) n2
    refine ⟨p, p2, _, _, rfl, rfl, s2 _ _ (s1 _ _ hp), upd_same, small ?_, fun p3 n3 => ?_⟩
    · rw [iv_length, nums_length, len_rep]
      show l.length + (((8 - l.length : Nat) : Int).toNat) * 1 ≤ _
      omega
    · refine k p3 _ ((s1.trans s2).free n3) ((s1.trans s2).trans (Same.new n3)) (upd_same.trans ?_)
      unfold pad
      rw [nums_append, iv_append]
      have e : (List.replicate (((8 - l.length : Nat) : Int).toNat) ([.int 255] : List V)).flatten = iv (nums (List.replicate (8 - l.length) 255)) := by
        rw [Int.toNat_natCast]
        unfold iv nums Km349Neutral.nums
        rw [List.map_replicate, List.map_replicate, List.flatten_replicate_singleton]
        rfl
      rw [e]
theorem ok_order_fits (T : Txt K mg a) : FnOk P w K mg base CX0 2 a.f_order_fits a.d_order_fits ["row", "candidates"] (spFits K) := by
  refine T.F_order_fits.ok sc_order_fits (fun vs H Q E h => ?_) (fun cdv A outer s H vs Q E hr h => ?_)
  · obtain ⟨p, l, n, rfl, _⟩ := h
    rfl
  · obtain ⟨p, l, n, rfl, hp, hl, hn, k⟩ := h
    refine ⟨_, (pss_cons (ps_set (i := 2) sc_order_fits.nd rfl (Or.inl rfl) (pe_slice sl_list (pv 0) po_none (po_some (pv 1))))
      (pss_one (ps_ret (pe_and (pe_cmpR (op_eqD hr.units) (pe_callB cr_sorted (by rfl) T.z_sorted boot_sortedX (pa_cons (pv 2) pa_nil)) (pe_listRange rfl (by rfl) T.z_list (by rfl) T.z_range (pa_cons (pv 1) pa_nil)) (nomark _)) (pe_one (pe_cmpR (op_eqD hr.units) (pv 0) (pe_call (ok_padded T) (hr.mono (by decide)) rfl T.m_padded T.F_padded.kp T.b_padded .nil pass0 (pa_cons (pv 2) pa_nil)) (nomark _))))))), ?_⟩
    have hlen : (l.take n).length = n := by rw [List.length_take, hl]; omega
    refine ⟨_, rfl, _, rfl, _, rfl, p, _, rfl, hp, fun q nq => ?_⟩
    have eq1 : cutV (iv (nums l)) none (some (n : Int)) = iv (nums (l.take n)) := by rw [cut_to, nums_take]
    rw [eq1]
    have s1 := Same.new (o := .lst (iv (nums (l.take n)))) nq
    refine ⟨_, rfl, q, nums (l.take n), rfl, SqL.of upd_same, (by rw [nums_length, hlen]; omega), fun ns p2 hperm hsort n2 => ?_⟩
    have s2 := s1.trans (Same.new (o := .lst (ns.map V.int)) n2)
    refine ⟨_, rfl, n, rfl, by omega, fun p3 n3 => ?_⟩
    have s3 := s2.trans (Same.new (o := .lst (iv (ramp n))) n3)
    refine ⟨_, _, dp_ints (ns := ns) (SqL.of (by rw [upd_ne (ne_of_none upd_same n3)]; exact upd_same)), dp_ints (SqL.of upd_same), shaped_di _, shaped_di _, ?_⟩
    have eo := order_is hl hn hperm hsort
    refine ⟨_, rfl, ?_⟩
    rw [eqv_di]
    cases c : decide (ns = ramp n) with
    | false =>
      refine iteF ?_
      have := k _ s3
      rw [eo, c] at this
      exact this
    | true =>
      refine iteT ?_
      have eq3 : (upd (upd (upd H q (.lst (iv (nums (l.take n))))) p2 (.lst (ns.map V.int))) p3 (.lst (iv (ramp n)))) q = some (.lst (iv (nums (l.take n)))) := by
        have h1 : (upd H q (.lst (iv (nums (l.take n))))) q = some (.lst (iv (nums (l.take n)))) := upd_same
        have h2 : (upd (upd H q (.lst (iv (nums (l.take n))))) p2 (.lst (ns.map V.int))) q = some (.lst (iv (nums (l.take n)))) := by rw [upd_ne (ne_of_none h1 n2)]; exact h1
        rw [upd_ne (ne_of_none h2 n3)]
        exact h2
      refine ⟨_, rfl, _, rfl, q, _, rfl, eq3, (by rw [hlen]; exact hn), fun r9 H9 n9 s9 e9 => ?_⟩
      refine ⟨_, _, dp_ints ((s3.trans s9).seq hp), dp_ints (SqL.of e9), shaped_di _, shaped_di _, ?_⟩
      have := k _ (s3.trans s9)
      rw [eo, c, Bool.true_and] at this
      rw [eqv_di]
      exact this
theorem ok_how_much_against (T : Txt K mg a) : FnOk P w K mg base CX0 1 a.f_how_much_against a.d_how_much_against ["before", "order"] (spAgainst K) := by
  refine T.F_how_much_against.ok sc_how_much_against (fun vs H Q E h => ?_) (fun cdv A outer s H vs Q E hr h => ?_)
  · obtain ⟨m, p, rws, n, f, o, rfl, _⟩ := h
    rfl
  · obtain ⟨m, p, rws, n, f, o, rfl, M, hp, ho, k⟩ := h
    refine ⟨_, (pss_cons (ps_set (i := 2) sc_how_much_against.nd rfl (Or.inl rfl) pe_int)
      (pss_cons (ps_for PassesOwn.never rfl (pi_enum rfl T.z_enumerate (pa_cons (pv 1) pa_nil)) (pg_tup rfl (pgs_cons (pg_name (i := 3) sc_how_much_against.nd rfl (Or.inl rfl)) (pgs_cons (pg_name (i := 4) sc_how_much_against.nd rfl (Or.inl rfl)) pgs_nil))) (pss_one (ps_for PassesOwn.never rfl (pi_list (pe_slice sl_list (pv 1) (po_some (pe_op op_add (pv 3) pe_int)) po_none)) (pg_name (i := 5) sc_how_much_against.nd rfl (Or.inl rfl)) (pss_one (ps_aug (i := 2) sc_how_much_against.nd rfl (Or.inl rfl) (pe_ix (r := rIxL K) ix_list (pe_ix (r := rIxL K) ix_list (pv 0) (pv 5) (fun _ _ => rfl)) (pv 4) (fun _ _ => rfl)) ip_add)))))
      (pss_one (ps_ret (pv 2))))), ?_⟩
    refine ⟨_, rfl, p, _, rfl, hp, for_enum (K := K) (a := p) (xs := iv (nums o)) (fun i σ H' => Same H H' ∧ ∃ (t : Nat) (v1 v2 v3 : Option V), σ = [some (.ref m), some (.ref p), some (.int t), v1, v2, v3] ∧ t + agn f (o.drop i) = agn f o) ?_ (fun i σ H' _ ⟨e, _⟩ => e.seq hp) ?_ ?_⟩
    · exact ⟨Same.rfl', 0, none, none, none, rfl, by rw [List.drop_zero, Nat.zero_add]⟩
    · rintro i y σ H' tt hy ⟨sm, t, v1, v2, v3, rfl, ht⟩ hT
      obtain ⟨z, hz, rfl⟩ := iv_get hy
      obtain ⟨c, hc, rfl⟩ := nums_get hz
      have s2 := sm.trans (Same.new (o := .tup [.int (i : Nat), .int (c : Nat)]) hT)
      refine ⟨tt, _, rfl, SqT.of upd_same, rfl, _, _, rfl, _, _, rfl, rfl, ?_⟩
      refine ⟨_, rfl, _, rfl, _, _, rfl, rfl, _, rfl, p, _, rfl, s2.seq hp, fun q nq => ?_⟩
      have eq1 : cutV (iv (nums o)) (some ((i : Int) + 1)) none = iv (nums (o.drop (i + 1))) := by
        have : ((i : Int) + 1) = ((i + 1 : Nat) : Int) := by omega
        rw [this, cut_from, nums_drop]
      rw [eq1]
      have s3 := s2.trans (Same.new (o := .lst (iv (nums (o.drop (i + 1))))) nq)
      generalize hH3 : upd (upd H' tt (.tup [.int (i : Nat), .int (c : Nat)])) q (.lst (iv (nums (o.drop (i + 1))))) = H3 at s3 ⊢
      have hq3 : H3 q = some (.lst (iv (nums (o.drop (i + 1))))) := by rw [← hH3]; exact upd_same
      have hcn : c < n := ho c (List.mem_of_getElem? hc)
      refine ⟨q, rfl, ⟨_, SqL.of hq3⟩, for_list (K := K) (a := q) (xs := iv (nums (o.drop (i + 1)))) (fun j σ H4 => H4 = H3 ∧ ∃ (v3 : Option V), σ = [some (.ref m), some (.ref p), some (.int ((t + (((o.drop (i + 1)).take j).map fun b => f b c).sum : Nat) : Int)), some (.int (i : Nat)), some (.int (c : Nat)), v3]) ?_ (fun j σ H4 _ ⟨e, _⟩ => by rw [e]; exact SqL.of hq3) ?_ ?_⟩
      · exact ⟨rfl, v3, rfl⟩
      · rintro j y2 σ H4 hy2 ⟨rfl, v3, rfl⟩
        obtain ⟨z2, hz2, rfl⟩ := iv_get hy2
        obtain ⟨b, hb, rfl⟩ := nums_get hz2
        have hbn : b < n := ho b (List.mem_of_mem_drop (List.mem_of_getElem? hb))
        obtain ⟨r, hr1, hr2, hr3⟩ := M.at hbn
        refine ⟨_, rfl, _, rfl, _, rfl, m, _, _, _, rfl, rfl, SqL.of (s3 _ _ M.top), atI_nat hr2, ?_⟩
        refine ⟨_, rfl, r, _, _, _, rfl, rfl, SqL.of (s3 _ _ hr3), atI_nat (iv_at2 (rowOf_get hcn)), _, _, rfl, rfl, ?_⟩
        refine ⟨rfl, some (.int (b : Nat)), ?_⟩
        have e : (((t + (((o.drop (i + 1)).take j).map fun b => f b c).sum : Nat) : Int) + ((f b c : Nat) : Int)) = ((t + (((o.drop (i + 1)).take (j + 1)).map fun b => f b c).sum : Nat) : Int) := by
          rw [take_snoc hb, List.map_append, List.sum_append]
          simp only [List.map_cons, List.map_nil, List.sum_cons, List.sum_nil]
          omega
        show [some (V.ref m), some (V.ref p), some (V.int _), some (V.int (i : Nat)), some (V.int (c : Nat)), some (V.int (b : Nat))] = _
        rw [← e]
      · rintro σ H4 ⟨rfl, v3, rfl⟩
        refine ⟨s3, _, _, _, _, rfl, ?_⟩
        rw [iv_length, nums_length, List.take_length]
        obtain ⟨hi, ei⟩ := List.getElem?_eq_some_iff.mp hc
        have ed : o.drop i = c :: o.drop (i + 1) := by rw [List.drop_eq_getElem_cons hi, ei]
        rw [ed] at ht
        have ht' : t + (((o.drop (i + 1)).map fun b => f b c).sum + agn f (o.drop (i + 1))) = agn f o := ht
        omega
    · rintro σ H' ⟨sm, t, v1, v2, v3, rfl, ht⟩
      rw [iv_length, nums_length, List.drop_length] at ht
      have e : t = agn f o := ht
      subst e
      exact ⟨_, rfl, k _ sm⟩
theorem ok_count_ballot (T : Txt K mg a) : FnOk P w K mg base CX0 1 a.f_count_ballot a.d_count_ballot ["before", "ranks"] spCount := by
  refine T.F_count_ballot.ok sc_count_ballot (fun vs H Q E h => ?_) (fun cdv A outer s H vs Q E hr h => ?_)
  · obtain ⟨m, r, rws, n, f, l, rfl, _⟩ := h
    rfl
  · obtain ⟨m, r, rws, n, f, l, rfl, M, hr0, hrn, hnl, hn8, k⟩ := h
    refine ⟨_, (pss_one (ps_for PassesOwn.never rfl (pi_range1 rfl T.z_range (pa_cons (pe_callB call_len_seq (by rfl) T.z_len PySem.boot_len (pa_cons (pv 0) pa_nil)) pa_nil)) (pg_name (i := 2) sc_count_ballot.nd rfl (Or.inl rfl)) (pss_one (ps_for PassesOwn.never rfl (pi_range1 rfl T.z_range (pa_cons (pe_callB call_len_seq (by rfl) T.z_len PySem.boot_len (pa_cons (pv 0) pa_nil)) pa_nil)) (pg_name (i := 3) sc_count_ballot.nd rfl (Or.inl rfl)) (pss_one (ps_if (pt_cmpR op_lt (pe_ix (r := rIxL K) ix_list (pv 1) (pv 2) (fun _ _ => rfl)) (pe_ix (r := rIxL K) ix_list (pv 1) (pv 3) (fun _ _ => rfl)) (nomark _)) (pss_one (ps_augS (pe_ix (r := rIxL K) ix_list (pv 0) (pv 2) (fun _ _ => rfl)) (pv 3) get_list pe_int ip_add set_list)) pss_nil)))))), ?_⟩
    have hml : (rws.map V.ref).length = n := by rw [List.length_map, M.len]
    refine ⟨_, rfl, m, _, rfl, .inl (SqL.of M.top), ((rws.map V.ref).length : Nat), rfl, by rw [hml]; omega, by rw [hml]; omega, ?_⟩
    rw [Int.toNat_natCast, hml]
    refine for_range (n := n) (fun i σ H' => (∃ v2 v3, σ = [some (.ref m), some (.ref r), v2, v3]) ∧ MatAt H' m rws n (fun x y => if x < i then f x y + gt1 l x y else f x y) ∧ ∀ b o, H b = some o → b ∉ rws → H' b = some o) ?_ ?_ ?_
    · exact ⟨⟨none, none, rfl⟩, M.congr fun x y _ _ => (if_neg (Nat.not_lt_zero x)).symm, fun b o e _ => e⟩
    · rintro i σ H' hi ⟨⟨v2, v3, rfl⟩, M1, k1⟩
      refine ⟨_, rfl, m, _, rfl, .inl (SqL.of M1.top), ((rws.map V.ref).length : Nat), rfl, by rw [hml]; omega, by rw [hml]; omega, ?_⟩
      rw [Int.toNat_natCast, hml]
      refine for_range (n := n) (fun j σ H' => (∃ v3, σ = [some (.ref m), some (.ref r), some (.int (0 + (i : Nat))), v3]) ∧ MatAt H' m rws n (fun x y => if x < i ∨ (x = i ∧ y < j) then f x y + gt1 l x y else f x y) ∧ ∀ b o, H b = some o → b ∉ rws → H' b = some o) ?_ ?_ ?_
      · exact ⟨⟨v3, rfl⟩, M1.congr fun x y _ _ => by
          by_cases c : x < i
          · rw [if_pos c, if_pos (.inl c)]
          · rw [if_neg c, if_neg fun z => z.elim c fun z => Nat.not_lt_zero _ z.2], k1⟩
      · rintro j σ H2 hj ⟨⟨v3, rfl⟩, M2, k2⟩
        have hr2 : H2 r = some (.lst (iv (nums l))) := k2 r _ hr0 hrn
        obtain ⟨zi, ei⟩ : ∃ z, l[i]? = some z := ⟨l[i], List.getElem?_eq_getElem (by omega)⟩
        obtain ⟨zj, ej⟩ : ∃ z, l[j]? = some z := ⟨l[j], List.getElem?_eq_getElem (by omega)⟩
        have gi : l.getD i 0 = zi := by rw [List.getD_eq_getElem?_getD, ei]; rfl
        have gj : l.getD j 0 = zj := by rw [List.getD_eq_getElem?_getD, ej]; rfl
        refine ⟨_, rfl, _, rfl, r, _, _, _, rfl, rfl, SqL.of hr2, at_of (j := i) (by omega) (iv_at2 ei), _, rfl, _, rfl, r, _, _, _, rfl, rfl, SqL.of hr2, at_of (j := j) (by omega) (iv_at2 ej), _, _, rfl, rfl, _, rfl, ?_⟩
        refine ite2 (fun c => ?_) (fun c => ?_)
        · have c' : zi < zj := by have := of_decide_eq_true c; omega
          have g1 : gt1 l i j = 1 := by unfold gt1; rw [gi, gj, if_pos c']
          obtain ⟨q, hq1, hq2, hq3⟩ := M2.at hi
          refine ⟨_, rfl, _, rfl, m, _, _, _, rfl, rfl, SqL.of M2.top, at_of (j := i) (by omega) hq2, ?_⟩
          have hgt := iv_at2 (rowOf_get (f := fun y => if i < i ∨ (i = i ∧ y < j) then f i y + gt1 l i y else f i y) hj)
          refine ⟨_, rfl, q, _, _, _, rfl, rfl, SqL.of hq3, at_of (j := j) (by omega) hgt, _, _, rfl, rfl, ?_⟩
          have hlen : (iv (nums (rowOf n fun y => if i < i ∨ (i = i ∧ y < j) then f i y + gt1 l i y else f i y))).length = n := by rw [iv_length, nums_length, rowOf_length]
          refine ⟨q, _, _, j, rfl, rfl, hq3, ?_, ?_⟩
          · unfold ixN
            rw [hlen, if_pos (by omega), if_pos (by omega)]
            congr 1
            omega
          · refine ⟨⟨_, rfl⟩, ?_, fun b o e hb => ?_⟩
            · have e1 : ((if i < i ∨ (i = i ∧ j < j) then f i j + gt1 l i j else f i j : Nat) : Int) + 1 = ((f i j + 1 : Nat) : Int) := by
                rw [if_neg (by omega)]
                omega
              have MM := M2.put (y := j) (v := f i j + 1) hq1
              rw [← e1] at MM
              refine MatAt.congr MM fun x y hx hy => ?_
              by_cases c1 : x = i ∧ y = j
              · rw [if_pos c1, c1.1, c1.2, if_pos (by omega), g1]
              · rw [if_neg c1]
                by_cases c2 : x < i ∨ (x = i ∧ y < j)
                · rw [if_pos c2, if_pos (by omega)]
                · rw [if_neg c2, if_neg (by omega)]
            · have hbq : b ≠ q := fun z => hb (z ▸ List.mem_of_getElem? hq1)
              rw [upd_ne hbq]
              exact k2 b o e hb
        · have c' : ¬ zi < zj := fun z => c (decide_eq_true (by omega))
          have g1 : gt1 l i j = 0 := by unfold gt1; rw [gi, gj, if_neg c']
          refine ⟨⟨_, rfl⟩, M2.congr fun x y hx hy => ?_, k2⟩
          by_cases c1 : x = i ∧ y = j
          · rw [if_neg (by omega), if_pos (by omega), c1.1, c1.2, g1]
            rfl
          · by_cases c2 : x < i ∨ (x = i ∧ y < j)
            · rw [if_pos c2, if_pos (by omega)]
            · rw [if_neg c2, if_neg (by omega)]
      · rintro σ H2 ⟨⟨v3, rfl⟩, M2, k2⟩
        refine ⟨⟨_, _, rfl⟩, M2.congr fun x y hx hy => ?_, k2⟩
        by_cases c1 : x < i + 1
        · rw [if_pos (by omega), if_pos c1]
        · rw [if_neg (by omega), if_neg c1]
    · rintro σ H' ⟨⟨v2, v3, rfl⟩, M1, k1⟩
      exact k H' (M1.congr fun x y hx hy => if_pos hx) k1
end
end My
/-! The best order, set by set. -/
namespace My
open PySem PySem.Spec PyProof.Rows L2
open Km349 (prefer best)
/-- lists of whole numbers in a list: the x-th is g x -/
structure SumAt (H : Hp) (p : Addr) (rs : List Addr) (n : Nat) (g : Nat → List Nat) : Prop where
  top : H p = some (.lst (rs.map V.ref))
  len : rs.length = n
  row : ∀ (x : Nat) (r : Addr), rs[x]? = some r → H r = some (.lst (iv (nums (g x))))
theorem SumAt.same {H H' : Hp} {p : Addr} {rs : List Addr} {n : Nat} {g : Nat → List Nat} (M : SumAt H p rs n g) (s : Same H H') : SumAt H' p rs n g := ⟨s _ _ M.top, M.len, fun x r e => s _ _ (M.row x r e)⟩
theorem SumAt.at {H : Hp} {p : Addr} {rs : List Addr} {n : Nat} {g : Nat → List Nat} (M : SumAt H p rs n g) {x : Nat} (h : x < n) : ∃ r, (rs.map V.ref)[x]? = some (.ref r) ∧ H r = some (.lst (iv (nums (g x)))) := by
  have hx : x < rs.length := by rw [M.len]; exact h
  refine ⟨rs[x], ?_, M.row x _ (List.getElem?_eq_getElem hx)⟩
  rw [List.getElem?_map, List.getElem?_eq_getElem hx]
  rfl
/-- the sums where the ballots are l -/
def gOf (l : List Km349.Ranks) (n : Nat) (a : Nat) : List Nat := Dp.sums (rowOf n fun b => prefer l b a)
def costs (l : List Km349.Ranks) (n k : Nat) : List Nat := (List.range k).map (Dp.cost l n)
theorem sums_length (ns : List Nat) : (Dp.sums ns).length = 2 ^ ns.length := by
  unfold Dp.sums
  rw [List.length_map, List.length_range]
theorem sums_get {ns : List Nat} {m : Nat} (h : m < 2 ^ ns.length) : (Dp.sums ns)[m]? = some (Dp.sumAt ns m) := by
  unfold Dp.sums
  rw [List.getElem?_map, List.getElem?_range h]
  rfl
theorem gOf_get {l : List Km349.Ranks} {n m a : Nat} (h : m < 2 ^ n) : (gOf l n a)[m]? = some (Od.row l a (Dp.mem n m)) := by
  have e := sums_get (ns := rowOf n fun b => prefer l b a) (m := m) (by rw [rowOf_length]; exact h)
  unfold gOf
  rw [e, Dp.sumAt_row (rowOf_length n _) fun b hb => ?_]
  rw [List.getD_eq_getElem?_getD, rowOf_get hb]
  rfl
theorem way_is {l : List Km349.Ranks} {n m a : Nat} : Od.row l a (Dp.mem n m) + Dp.cost l n (m - 2 ^ a) = Dp.way l n m a := by
  unfold Dp.way
  rw [Dp.row_without (Dp.prefer_self l a)]
theorem costs_get {l : List Km349.Ranks} {n k m : Nat} (h : m < k) : (costs l n k)[m]? = some (Dp.cost l n m) := by
  unfold costs
  rw [List.getElem?_map, List.getElem?_range h]
  rfl
theorem costs_length (l : List Km349.Ranks) (n k : Nat) : (costs l n k).length = k := by
  unfold costs
  rw [List.length_map, List.length_range]
theorem costs_snoc (l : List Km349.Ranks) (n k : Nat) : costs l n (k + 1) = costs l n k ++ [Dp.cost l n k] := by
  unfold costs
  rw [List.range_succ, List.map_append]
  rfl
theorem bits_get {c : Nat} (h : c < 8) : tab_BITS[c]? = some ((2 ^ c : Nat) : Int) := by
  have : c = 0 ∨ c = 1 ∨ c = 2 ∨ c = 3 ∨ c = 4 ∨ c = 5 ∨ c = 6 ∨ c = 7 := by omega
  rcases this with rfl | rfl | rfl | rfl | rfl | rfl | rfl | rfl <;> rfl
theorem mem_snoc (i m : Nat) : Dp.mem (i + 1) m = Dp.mem i m ++ if Dp.has m i = true then [i] else [] := by
  unfold Dp.mem
  rw [List.range_succ, List.filter_append, List.filter_cons]
  split <;> rfl
theorem pow8 {n : Nat} (h : n ≤ 8) : 2 ^ n ≤ 256 := Nat.pow_le_pow_right (by decide) h
theorem mem_len {n m : Nat} : (Dp.mem n m).length ≤ n := by
  have := List.length_filter_le (fun c => Dp.has m c) (List.range n)
  rw [List.length_range] at this
  exact this
def spSums (K : PySem.W.Frag) : Sp := fun vs H Q _ => ∃ (p : Addr) (ns : List Nat), vs = [.ref p] ∧ SqL K H p (iv (nums ns)) ∧ ns.length ≤ 8 ∧ Fresh H Q (nums (Dp.sums ns))
def spSumsIf : Sp := fun vs H Q _ => ∃ (m : Addr) (rws : List Addr) (n : Nat) (f : Nat → Nat → Nat), vs = [.ref m] ∧ MatAt H m rws n f ∧ n ≤ 8 ∧ ∀ (H' : Hp) (p : Addr) (rs : List Addr), Same H H' → H p = none → SumAt H' p rs n (fun c => Dp.sums (rowOf n fun b => f b c)) → Q (.ref p) H'
def spLia : Sp := fun vs H Q _ => ∃ (p q : Addr) (rs : List Addr) (n : Nat) (l : List Km349.Ranks) (k m c : Nat), vs = [.ref p, .ref q, .int m, .int c] ∧ SumAt H p rs n (gOf l n) ∧ H q = some (.lst (iv (nums (costs l n k)))) ∧ n ≤ 8 ∧ m < 2 ^ n ∧ c ∈ Dp.mem n m ∧ m - 2 ^ c < k ∧
  Q (.int (Dp.way l n m c : Nat)) H
def spMem : Sp := fun vs H Q _ => ∃ (m n : Nat), vs = [.int m, .int n] ∧ n ≤ 8 ∧ Fresh H Q (nums (Dp.mem n m))
def spLeast : Sp := fun vs H Q _ => ∃ (p : Addr) (rs : List Addr) (n : Nat) (l : List Km349.Ranks), vs = [.ref p] ∧ SumAt H p rs n (gOf l n) ∧ 1 ≤ n ∧ n ≤ 8 ∧ Fresh H Q (nums (costs l n (2 ^ n)))
def spBest : Sp := fun vs H Q _ => ∃ (p q : Addr) (rs : List Addr) (n : Nat) (l : List Km349.Ranks) (m : Nat), vs = [.ref p, .ref q, .int m] ∧ SumAt H p rs n (gOf l n) ∧ H q = some (.lst (iv (nums (costs l n (2 ^ n))))) ∧ n ≤ 8 ∧ m < 2 ^ n ∧ m ≠ 0 ∧
  ∀ (H' : Hp) (c : Nat), Same H H' → c ∈ Dp.mem n m → (∀ b ∈ Dp.mem n m, Dp.way l n m c < Dp.way l n m b ∨ (Dp.way l n m c = Dp.way l n m b ∧ c ≤ b)) → Q (.int c) H'
def spOrder : Sp := fun vs H Q _ => ∃ (m : Addr) (rws : List Addr) (n : Nat) (l : List Km349.Ranks), vs = [.ref m] ∧ MatAt H m rws n (prefer l) ∧ 1 ≤ n ∧ n ≤ 8 ∧ Fresh H Q (nums (best n l).2)
section
variable {P : Program} {w : World} {K : PySem.W.Frag} {mg : Str → Option Value} {base : Heap} {a : Ad}
theorem ok_sums_of_sets (T : Txt K mg a) : FnOk P w K mg base CX0 1 a.f_sums_of_sets a.d_sums_of_sets ["numbers"] (spSums K) := by
  refine T.F_sums_of_sets.ok sc_sums_of_sets (fun vs H Q E h => ?_) (fun cdv A outer s H vs Q E hr h => ?_)
  · obtain ⟨p, ns, rfl, _⟩ := h
    rfl
  · obtain ⟨p, ns, rfl, hp, hl, k⟩ := h
    refine ⟨_, (pss_cons (ps_set (i := 1) sc_sums_of_sets.nd rfl (Or.inl rfl) (pe_lst (pa_cons pe_int pa_nil)))
      (pss_cons (ps_for PassesOwn.never rfl (pi_list (pv 0)) (pg_name (i := 2) sc_sums_of_sets.nd rfl (Or.inr rfl)) (pss_one (ps_set (i := 1) sc_sums_of_sets.nd rfl (Or.inl rfl) (pe_op op_cat (pv 1) (pe_lc rfl sc_sums_of_sets.nd (pi_list (pv 1)) blk_sums_of_sets_0 (fun _ _ _ _ _ => (pg_name (i := 3) sc_sums_of_sets.nd rfl (Or.inl rfl))) (fun _ _ _ _ _ => pts_nil) (fun _ _ _ _ _ => (pe_op op_add (pv 3) (pv 2))))))))
      (pss_one (ps_ret (pv 1))))), ?_⟩
    refine ⟨(by show 1 ≤ sizeLine; decide), fun q0 n0 => ?_⟩
    have s0 := Same.new (o := .lst [.int 0]) n0
    refine ⟨_, rfl, p, rfl, ⟨_, s0.seq hp⟩, for_list (K := K) (a := p) (xs := iv (nums ns)) (fun i σ H' => Same H H' ∧ ∃ (q : Addr) (v2 v3 : Option V), σ = [some (.ref p), some (.ref q), v2, v3] ∧ H q = none ∧ H' q = some (.lst (iv (nums (Dp.sums (ns.take i)))))) ?_ (fun i σ H' _ ⟨e, _⟩ => e.seq hp) ?_ ?_⟩
    · exact ⟨s0, q0, none, none, rfl, n0, upd_same⟩
    · rintro i y σ H' hy ⟨sm, q, v2, v3, rfl, nq, hq⟩
      obtain ⟨z, hz, rfl⟩ := iv_get hy
      obtain ⟨c, hc, rfl⟩ := nums_get hz
      have hi : i < ns.length := (List.getElem?_eq_some_iff.mp hc).1
      have hlen : (Dp.sums (ns.take i)).length ≤ 256 := by
        rw [sums_length, List.length_take]
        exact pow8 (by omega)
      refine ⟨_, rfl, _, rfl, q, rfl, ⟨_, SqL.of hq⟩, fun D hD => ?_⟩
      refine lc_list (K := K) (a := q) (xs := iv (nums (Dp.sums (ns.take i)))) (fun j H2 => Same H' H2 ∧ H2 D = some (.lst (iv (nums (((Dp.sums (ns.take i)).take j).map fun t => t + c))))) ?_ (fun j H2 _ ⟨e, _⟩ => SqL.of (e _ _ hq)) ?_ ?_
      · exact ⟨Same.new hD, upd_same⟩
      · rintro j y2 H2 hy2 ⟨s2, e2⟩
        obtain ⟨z2, hz2, rfl⟩ := iv_get hy2
        obtain ⟨t, ht, rfl⟩ := nums_get hz2
        refine ⟨rfl, ?_⟩
        refine ⟨_, rfl, _, rfl, _, _, rfl, rfl, ?_⟩
        refine ⟨_, e2, smallL ?_, fun b o e => ?_, ?_⟩
        · rw [iv_length, nums_length, List.length_map, List.length_take]
          omega
        · rw [upd_ne (ne_of_none e hD)]
          exact s2 b o e
        · rw [upd_same, take_snoc ht, List.map_append, nums_append, iv_append]
          have e3 : ((t : Int) + (c : Int)) = ((t + c : Nat) : Int) := by omega
          show some (HO.lst (_ ++ [V.int ((t : Int) + (c : Int))])) = _
          rw [e3]
          rfl
      · rintro H2 ⟨s2, e2⟩
        rw [iv_length, nums_length, List.take_length] at e2
        refine ⟨q, D, _, _, rfl, rfl, s2 _ _ hq, e2, small ?_, fun p3 n3 => ?_⟩
        · rw [iv_length, nums_length, iv_length, nums_length, List.length_map]
          omega
        · have s3 := (sm.trans s2).trans (Same.new (o := .lst (iv (nums (Dp.sums (ns.take i))) ++ iv (nums ((Dp.sums (ns.take i)).map fun t => t + c)))) n3)
          refine ⟨s3, p3, _, _, rfl, (sm.trans s2).free n3, ?_⟩
          rw [upd_same, take_snoc hc, Dp.sums_snoc, nums_append, iv_append]
    · rintro σ H' ⟨sm, q, v2, v3, rfl, nq, hq⟩
      rw [iv_length, nums_length, List.take_length] at hq
      exact ⟨_, rfl, k q H' nq sm hq⟩
theorem ok_members_of (T : Txt K mg a) : FnOk P w K mg base CX0 1 a.f_members_of a.d_members_of ["members", "candidates"] spMem := by
  refine T.F_members_of.ok sc_members_of (fun vs H Q E h => ?_) (fun cdv A outer s H vs Q E hr h => ?_)
  · obtain ⟨m, n, rfl, _⟩ := h
    rfl
  · obtain ⟨m, n, rfl, hn, k⟩ := h
    refine ⟨_, (pss_one (ps_ret (pe_lc rfl sc_members_of.nd (pi_range1 rfl T.z_range (pa_cons (pv 1) pa_nil)) blk_members_of_0 (fun _ _ _ _ _ => (pg_name (i := 2) sc_members_of.nd rfl (Or.inl rfl))) (fun _ _ _ _ _ => (pts_one (pt_cmpR op_ne (pe_op op_and (pv 0) (pe_ix (r := rIxT K) ix_tup (pe_glob (v := .ref _) rfl T.g_BITS rfl) (pv 2) (fun _ _ => rfl))) pe_int (nomark _)))) (fun _ _ _ _ _ => (pv 2))))), ?_⟩
    refine ⟨_, rfl, n, rfl, by omega, by omega, fun D hD => ?_⟩
    refine lc_range (n := n) (fun i H' => Same H H' ∧ H' D = some (.lst (iv (nums (Dp.mem i m))))) ?_ ?_ ?_
    · exact ⟨Same.new hD, upd_same⟩
    · rintro i H' hi ⟨sm, e1⟩
      refine ⟨rfl, ?_⟩
      refine ⟨_, rfl, _, rfl, a.r_BITS, _, _, _, rfl, rfl, T.o_BITS.sq H', at_of (j := i) (by omega) (iv_at (bits_get (by omega))), _, _, rfl, rfl, rfl, _, rfl, ?_⟩
      have hpos : 0 < 2 ^ i := Nat.two_pow_pos i
      refine ite2 (fun c => ?_) (fun c => ?_)
      · have c' : (!decide (V.int (Builtin.bitAnd (m : Int) ((2 ^ i : Nat) : Int)) = V.int 0)) = true := c
        rw [has_bit] at c'
        have hb : Dp.has m i = true := by
          cases q : Dp.has m i with
          | true => rfl
          | false =>
            rw [q, if_neg (by decide)] at c'
            simp at c'
        refine ⟨_, rfl, _, e1, smallL ?_, fun b o e => ?_, ?_⟩
        · rw [iv_length, nums_length]
          have := mem_len (n := i) (m := m)
          omega
        · rw [upd_ne (ne_of_none e hD)]
          exact sm b o e
        · rw [upd_same, mem_snoc, hb, if_pos rfl, nums_append, iv_append]
          have e4 : ((0 : Int) + (i : Nat)) = ((i : Nat) : Int) := by omega
          show some (HO.lst (_ ++ [V.int ((0 : Int) + (i : Nat))])) = _
          rw [e4]
          rfl
      · have c' : ¬ (!decide (V.int (Builtin.bitAnd (m : Int) ((2 ^ i : Nat) : Int)) = V.int 0)) = true := c
        rw [has_bit] at c'
        have hb : Dp.has m i = false := by
          cases q : Dp.has m i with
          | false => rfl
          | true =>
            rw [q, if_pos rfl] at c'
            refine absurd ?_ c'
            rw [decide_eq_false]
            · rfl
            · intro z
              injection z with z
              omega
        refine ⟨sm, ?_⟩
        rw [mem_snoc, hb, if_neg (by decide), List.append_nil]
        exact e1
    · rintro H' ⟨sm, e1⟩
      exact k D H' hD sm e1
theorem ok_least_if_ahead (T : Txt K mg a) : FnOk P w K mg base CX0 1 a.f_least_if_ahead a.d_least_if_ahead ["sums", "least", "members", "ahead"] spLia := by
  refine T.F_least_if_ahead.ok sc_least_if_ahead (fun vs H Q E h => ?_) (fun cdv A outer s H vs Q E hr h => ?_)
  · obtain ⟨p, q, rs, n, l, k, m, c, rfl, _⟩ := h
    rfl
  · obtain ⟨p, q, rs, n, l, kk, m, c, rfl, M, hq, hn, hm, hc, hk, k⟩ := h
    refine ⟨_, (pss_one (ps_ret (pe_op op_add (pe_ix (r := rIxL K) ix_list (pe_ix (r := rIxL K) ix_list (pv 0) (pv 3) (fun _ _ => rfl)) (pv 2) (fun _ _ => rfl)) (pe_ix (r := rIxL K) ix_list (pv 1) (pe_op op_xor (pv 2) (pe_ix (r := rIxT K) ix_tup (pe_glob (v := .ref _) rfl T.g_BITS rfl) (pv 3) (fun _ _ => rfl))) (fun _ _ => rfl))))), ?_⟩
    obtain ⟨hcn, hh⟩ := Dp.mem_mem.mp hc
    obtain ⟨r, hr1, hr2⟩ := M.at hcn
    refine ⟨_, rfl, _, rfl, p, _, _, _, rfl, rfl, SqL.of M.top, atI_nat hr1, ?_⟩
    refine ⟨_, rfl, r, _, _, _, rfl, rfl, SqL.of hr2, atI_nat (iv_at2 (gOf_get hm)), ?_⟩
    refine ⟨_, rfl, _, rfl, _, rfl, a.r_BITS, _, _, _, rfl, rfl, T.o_BITS.sq H, atI_nat (iv_at (bits_get (by omega))), _, _, rfl, rfl, ?_⟩
    refine ⟨q, _, _, _, rfl, rfl, SqL.of hq, at_of (j := m - 2 ^ c) (xor_bit hh) (iv_at2 (costs_get hk)), _, _, rfl, rfl, ?_⟩
    have e : (((Od.row l c (Dp.mem n m) : Nat) : Int) + ((Dp.cost l n (m - 2 ^ c) : Nat) : Int)) = ((Dp.way l n m c : Nat) : Int) := by
      rw [← way_is]
      omega
    rw [← e] at k
    exact k
theorem ok_sums_if_ahead (T : Txt K mg a) : FnOk P w K mg base CX0 2 a.f_sums_if_ahead a.d_sums_if_ahead ["before"] spSumsIf := by
  refine T.F_sums_if_ahead.ok sc_sums_if_ahead (fun vs H Q E h => ?_) (fun cdv A outer s H vs Q E hr h => ?_)
  · obtain ⟨m, rws, n, f, rfl, _⟩ := h
    rfl
  · obtain ⟨m, rws, n, f, rfl, M, hn, k⟩ := h
    refine ⟨_, (pss_one (ps_ret (pe_lc rfl sc_sums_if_ahead.nd (pi_range1 rfl T.z_range (pa_cons (pe_callB call_len_seq (by rfl) T.z_len PySem.boot_len (pa_cons (pv 0) pa_nil)) pa_nil)) blk_sums_if_ahead_0 (fun _ _ _ _ _ => (pg_name (i := 1) sc_sums_if_ahead.nd rfl (Or.inr rfl))) (fun _ _ _ _ _ => pts_nil) (fun _ _ _ _ _ => (pe_call (ok_sums_of_sets T) (hr.mono (by decide)) rfl T.m_sums_of_sets T.F_sums_of_sets.kp T.b_sums_of_sets .nil pass0 (pa_cons (pe_lc rfl sc_sums_if_ahead.nd (pi_listK rfl (pv 0)) blk_sums_if_ahead_1 (fun _ _ _ _ _ => (pg_name (i := 2) sc_sums_if_ahead.nd rfl (Or.inl rfl))) (fun _ _ _ _ _ => pts_nil) (fun _ _ _ _ _ => (pe_ix (r := rIxL K) ix_list (pv 2) (pv 1) (fun _ _ => rfl)))) pa_nil)))))), ?_⟩
    have hml : (rws.map V.ref).length = n := by rw [List.length_map, M.len]
    refine ⟨_, rfl, m, _, rfl, .inl (SqL.of M.top), ((rws.map V.ref).length : Nat), rfl, by rw [hml]; omega, by rw [hml]; omega, ?_⟩
    rw [Int.toNat_natCast, hml]
    intro D hD
    refine lc_range (n := n) (fun i H' => Same H H' ∧ ∃ rs : List Addr, H' D = some (.lst (rs.map V.ref)) ∧ rs.length = i ∧ D ∉ rs ∧ ∀ x r, rs[x]? = some r → H' r = some (.lst (iv (nums (Dp.sums (rowOf n fun b => f b x)))))) ?_ ?_ ?_
    · exact ⟨Same.new hD, [], upd_same, rfl, (by simp), fun x r e => by cases e⟩
    · rintro i H' hi ⟨sm, rs, e1, e2, e3, e4⟩
      refine ⟨rfl, ?_⟩
      have M1 := M.same sm
      refine ⟨_, rfl, m, rfl, ⟨_, SqL.of M1.top⟩, fun D2 hD2 => ?_⟩
      refine lc_list (K := K) (a := m) (xs := rws.map V.ref) (fun j H2 => Same H' H2 ∧ H2 D2 = some (.lst (iv (nums ((rowOf n fun b => f b i).take j))))) ?_ (fun j H2 _ ⟨e, _⟩ => SqL.of (e _ _ M1.top)) ?_ ?_
      · exact ⟨Same.new hD2, upd_same⟩
      · rintro j y2 H2 hy2 ⟨s2, g2⟩
        rw [List.getElem?_map] at hy2
        obtain ⟨r, hr1, rfl⟩ := Option.map_eq_some_iff.mp hy2
        have hj : j < n := by
          have := (List.getElem?_eq_some_iff.mp hr1).1
          rw [M.len] at this
          exact this
        refine ⟨rfl, ?_⟩
        refine ⟨_, rfl, _, rfl, r, _, _, _, rfl, rfl, SqL.of (s2 _ _ (M1.row j r hr1)), at_of (j := i) (by omega) (iv_at2 (rowOf_get hi)), ?_⟩
        refine ⟨_, g2, smallL ?_, fun b o e => ?_, ?_⟩
        · rw [iv_length, nums_length, List.length_take, rowOf_length]
          omega
        · rw [upd_ne (ne_of_none e hD2)]
          exact s2 b o e
        · have e6 : (rowOf n fun b => f b i)[j]? = some (f j i) := rowOf_get hj
          rw [upd_same, take_snoc e6, nums_append, iv_append]
          rfl
      · rintro H2 ⟨s2, g2⟩
        rw [hml] at g2
        rw [List.take_of_length_le (by rw [rowOf_length]; exact Nat.le_refl _)] at g2
        refine ⟨D2, _, rfl, SqL.of g2, by rw [rowOf_length]; exact hn, fun p3 H3 n3 s3 e5 => ?_⟩
        have sa := s2.trans s3
        have hD3 := sa _ _ e1
        have n3' := s2.free n3
        refine ⟨_, hD3, smallL (by rw [List.length_map, e2]; omega), fun b o e => ?_, rs ++ [p3], ?_, by rw [List.length_append, e2]; rfl, ?_, fun x r hx => ?_⟩
        · rw [upd_ne (ne_of_none e hD)]
          exact sa _ _ (sm b o e)
        · rw [upd_same, List.map_append]
          rfl
        · intro z
          rcases List.mem_append.mp z with z | z
          · exact e3 z
          · have : D = p3 := by simpa using z
            rw [this] at e1
            rw [e1] at n3'
            cases n3'
        · by_cases c : x < rs.length
          · rw [List.getElem?_append_left c] at hx
            have rD : r ≠ D := fun t => e3 (t ▸ List.mem_of_getElem? hx)
            rw [upd_ne rD]
            exact sa _ _ (e4 x r hx)
          · rw [List.getElem?_append_right (by omega)] at hx
            have hx0 : x - rs.length = 0 := by
              cases q : x - rs.length with
              | zero => rfl
              | succ t => rw [q] at hx; cases hx
            rw [hx0] at hx
            have e : p3 = r := Option.some.inj hx
            have ex : x = i := by omega
            subst e ex
            have rD : p3 ≠ D := fun t => by
              rw [t, e1] at n3'
              cases n3'
            rw [upd_ne rD]
            exact e5
    · rintro H' ⟨sm, rs, e1, e2, e3, e4⟩
      exact k H' D rs sm hD ⟨e1, e2, e4⟩
end
end My
/-! The best order, set by set: the loops over sets. -/
namespace My
open PySem PySem.Spec PyProof.Rows L2
open Km349 (prefer best)
theorem two_pow_sub {n : Nat} : 2 ^ n - 1 + 1 = 2 ^ n := by
  have := Nat.two_pow_pos n
  omega
section
variable {P : Program} {w : World} {K : PySem.W.Frag} {mg : Str → Option Value} {base : Heap} {a : Ad}
theorem ok_least_of_sets (T : Txt K mg a) : FnOk P w K mg base CX0 2 a.f_least_of_sets a.d_least_of_sets ["sums"] spLeast := by
  refine T.F_least_of_sets.ok sc_least_of_sets (fun vs H Q E h => ?_) (fun cdv A outer s H vs Q E hr h => ?_)
  · obtain ⟨p, rs, n, l, rfl, _⟩ := h
    rfl
  · obtain ⟨p, rs, n, l, rfl, M, h1, h8, k⟩ := h
    refine ⟨_, (pss_cons (ps_set (i := 1) sc_least_of_sets.nd rfl (Or.inr rfl) (pe_lst (pa_cons pe_int pa_nil)))
      (pss_cons (ps_for PassesOwn.never rfl (pi_range2 rfl T.z_range (pa_cons pe_int (pa_cons (pe_callB call_len_seq (by rfl) T.z_len PySem.boot_len (pa_cons (pe_ix (r := rIxL K) ix_list (pv 0) pe_int (fun _ _ => rfl)) pa_nil)) pa_nil))) (pg_name (i := 2) sc_least_of_sets.nd rfl (Or.inr rfl)) (pss_one (ps_expr (pe_bm PySem.F.plainAttrs_list PySem.F.slot_list_append PySem.F.type_list_append mt_append (pv 1) (pa_cons (pe_callB (cr_min rfl) (by rfl) T.z_min boot_minX (pa_cons (pe_lc rfl sc_least_of_sets.nd (pi_list (pe_call (ok_members_of T) (hr.mono (by decide)) rfl T.m_members_of T.F_members_of.kp T.b_members_of .nil pass0 (pa_cons (pv 2) (pa_cons (pe_callB call_len_seq (by rfl) T.z_len PySem.boot_len (pa_cons (pv 0) pa_nil)) pa_nil)))) blk_least_of_sets_0 (fun _ _ _ _ _ => (pg_name (i := 3) sc_least_of_sets.nd rfl (Or.inl rfl))) (fun _ _ _ _ _ => pts_nil) (fun _ _ _ _ _ => (pe_call (ok_least_if_ahead T) (hr.mono (by decide)) rfl T.m_least_if_ahead T.F_least_if_ahead.kp T.b_least_if_ahead .nil pass0 (pa_cons (pv 0) (pa_cons (pv 1) (pa_cons (pv 2) (pa_cons (pv 3) pa_nil))))))) pa_nil)) pa_nil)))))
      (pss_one (ps_ret (pv 1))))), ?_⟩
    have p8 := pow8 h8
    have pp := Nat.two_pow_pos n
    have hrl : (rs.map V.ref).length = n := by rw [List.length_map, M.len]
    refine ⟨(by show 1 ≤ sizeLine; decide), fun q0 n0 => ?_⟩
    have s0 := Same.new (o := .lst [.int 0]) n0
    obtain ⟨r, hr1, hr2⟩ := (M.same s0).at h1
    have hgl : (iv (nums (gOf l n 0))).length = 2 ^ n := by
      rw [iv_length, nums_length]
      unfold gOf
      rw [sums_length, rowOf_length]
    refine ⟨_, rfl, p, _, _, _, rfl, rfl, SqL.of (M.same s0).top, atI_nat (j := 0) hr1, r, _, rfl, .inl (SqL.of hr2), 1, ((iv (nums (gOf l n 0))).length : Nat), rfl, ⟨by omega, by omega, by omega, by rw [hgl]; omega⟩, ?_⟩
    have e0 : ((((iv (nums (gOf l n 0))).length : Nat) : Int) - 1).toNat = 2 ^ n - 1 := by rw [hgl]; omega
    rw [e0]
    refine for_range (lo := 1) (n := 2 ^ n - 1) (fun i σ H' => Same H H' ∧ (∃ v2 v3, σ = [some (.ref p), some (.ref q0), v2, v3]) ∧ H' q0 = some (.lst (iv (nums (costs l n (i + 1)))))) ?_ ?_ ?_
    · refine ⟨s0, ⟨none, none, rfl⟩, upd_same.trans ?_⟩
      show _ = some (HO.lst (iv (nums [Dp.cost l n 0])))
      rw [Dp.cost_zero]
      rfl
    · rintro i σ H' hi ⟨sm, ⟨v2, v3, rfl⟩, hq⟩
      have em : ((1 : Int) + (i : Nat)) = ((1 + i : Nat) : Int) := by omega
      have hm : 1 + i < 2 ^ n := by omega
      have M1 := M.same sm
      refine ⟨_, rfl, .inl ⟨rfl, _, SqL.of hq⟩, ?_⟩
      refine ⟨_, rfl, _, rfl, p, _, rfl, .inl (SqL.of M1.top), 1 + i, n, (by rw [← em, hrl]; rfl), h8, fun q1 H1 nq1 s1 e1 => ?_⟩
      refine ⟨q1, rfl, ⟨_, SqL.of e1⟩, fun D hD => ?_⟩
      refine lc_list (K := K) (a := q1) (xs := iv (nums (Dp.mem n (1 + i)))) (fun j H2 => Same H1 H2 ∧ H2 D = some (.lst (iv (nums (((Dp.mem n (1 + i)).take j).map (Dp.way l n (1 + i))))))) ?_ (fun j H2 _ ⟨e, _⟩ => SqL.of (e _ _ e1)) ?_ ?_
      · exact ⟨Same.new hD, upd_same⟩
      · rintro j y2 H2 hy2 ⟨s2, g2⟩
        obtain ⟨z2, hz2, rfl⟩ := iv_get hy2
        obtain ⟨c, hc, rfl⟩ := nums_get hz2
        have hcm := List.mem_of_getElem? hc
        have hge := Dp.has_ge (Dp.mem_mem.mp hcm).2
        have hpc := Nat.two_pow_pos c
        refine ⟨rfl, ?_⟩
        refine ⟨_, rfl, _, rfl, _, rfl, _, rfl, p, q0, rs, n, l, i + 1, 1 + i, c, (by rw [← em]; rfl), M1.same (s1.trans s2), (s1.trans s2) _ _ hq, h8, hm, hcm, by omega, ?_⟩
        refine ⟨_, g2, smallL ?_, fun b o e => ?_, ?_⟩
        · rw [iv_length, nums_length, List.length_map, List.length_take]
          have := mem_len (n := n) (m := 1 + i)
          omega
        · rw [upd_ne (ne_of_none e hD)]
          exact s2 b o e
        · rw [upd_same, take_snoc hc, List.map_append, nums_append, iv_append]
          rfl
      · rintro H2 ⟨s2, g2⟩
        rw [iv_length, nums_length, List.take_length] at g2
        have hne := Dp.mem_ne hm (by omega)
        refine ⟨D, nums ((Dp.mem n (1 + i)).map (Dp.way l n (1 + i))), rfl, SqL.of g2, ?_, fun mm hmm hmin => ?_⟩
        · rw [nums_length, List.length_map]
          exact List.length_pos_iff.mpr hne
        · obtain ⟨u, hu, rfl⟩ := List.mem_map.mp hmm
          obtain ⟨c, hc, rfl⟩ := List.mem_map.mp hu
          have ec : Dp.cost l n (1 + i) = Dp.way l n (1 + i) c := Dp.cost_is hc fun b hb => by
            have := hmin _ (List.mem_map_of_mem (f := fun (x : Nat) => (x : Int)) (List.mem_map_of_mem (f := Dp.way l n (1 + i)) hb))
            omega
          have hq2 := (s1.trans s2) _ _ hq
          refine ⟨q0, _, _, rfl, rfl, hq2, smallL (by rw [iv_length, nums_length, costs_length]; omega), ?_⟩
          refine ⟨fun b o e => ?_, ⟨_, _, rfl⟩, ?_⟩
          · rw [upd_ne (ne_of_none e n0)]
            exact (s1.trans s2) _ _ (sm b o e)
          · rw [upd_same, costs_snoc l n (i + 1), nums_append, iv_append]
            have e5 : Dp.cost l n (i + 1) = Dp.way l n (1 + i) c := by rw [Nat.add_comm i 1]; exact ec
            rw [e5]
            rfl
    · rintro σ H' ⟨sm, ⟨v2, v3, rfl⟩, hq⟩
      rw [two_pow_sub] at hq
      exact ⟨_, rfl, k q0 H' n0 sm hq⟩
theorem ok_best_ahead (T : Txt K mg a) : FnOk P w K mg base CX0 2 a.f_best_ahead a.d_best_ahead ["sums", "least", "members"] spBest := by
  refine T.F_best_ahead.ok sc_best_ahead (fun vs H Q E h => ?_) (fun cdv A outer s H vs Q E hr h => ?_)
  · obtain ⟨p, q, rs, n, l, m, rfl, _⟩ := h
    rfl
  · obtain ⟨p, q, rs, n, l, m, rfl, M, hq, h8, hm, hm0, k⟩ := h
    refine ⟨_, (pss_cons (ps_setLc (i := 3) rfl sc_best_ahead.nd rfl rfl (sw_true rfl rfl rfl rfl) (pi_list (pe_call (ok_members_of T) (hr.mono (by decide)) rfl T.m_members_of T.F_members_of.kp T.b_members_of .nil pass0 (pa_cons (pv 2) (pa_cons (pe_callB call_len_seq (by rfl) T.z_len PySem.boot_len (pa_cons (pv 0) pa_nil)) pa_nil)))) blk_best_ahead_0 (fun _ _ _ _ _ => (pg_name (i := 4) sc_best_ahead.nd rfl (Or.inl rfl))) (fun _ _ _ _ _ => pts_nil) (fun _ _ _ _ _ => (pe_tup (pa_cons (pe_call (ok_least_if_ahead T) (hr.mono (by decide)) rfl T.m_least_if_ahead T.F_least_if_ahead.kp T.b_least_if_ahead .nil pass0 (pa_cons (pv 0) (pa_cons (pv 1) (pa_cons (pv 2) (pa_cons (pv 4) pa_nil))))) (pa_cons (pv 4) pa_nil)))))
      (pss_one (ps_ret (pe_ix (r := rIxT K) ix_tup (pe_callB (cr_minT rfl (hu_of hr)) (by rfl) T.z_min boot_minX (pa_cons (pv 3) pa_nil)) pe_int (fun _ _ => rfl))))), ?_⟩
    have hrl : (rs.map V.ref).length = n := by rw [List.length_map, M.len]
    have hml := mem_len (n := n) (m := m)
    refine ⟨_, rfl, _, rfl, p, _, rfl, .inl (SqL.of M.top), m, n, (by rw [hrl]; rfl), h8, fun q1 H1 nq1 s1 e1 => ?_⟩
    refine ⟨q1, rfl, ⟨_, SqL.of e1⟩, fun D hD => ?_⟩
    refine lc_list (K := K) (a := q1) (xs := iv (nums (Dp.mem n m))) (fun j H2 => Same H1 H2 ∧ ∃ ps : List (Addr × Int × Int), H2 D = some (.lst (ps.map fun p => V.ref p.1)) ∧ (ps.map fun p => p.2) = ((Dp.mem n m).take j).map (fun c => (((Dp.way l n m c : Nat) : Int), (c : Int))) ∧ ∀ p ∈ ps, H2 p.1 = some (.tup [.int p.2.1, .int p.2.2])) ?_ (fun j H2 _ ⟨e, _⟩ => SqL.of (e _ _ e1)) ?_ ?_
    · exact ⟨Same.new hD, [], upd_same, rfl, fun p hp => nomatch hp⟩
    · rintro j y2 H2 hy2 ⟨s2, ps, g2, g3, g4⟩
      obtain ⟨z2, hz2, rfl⟩ := iv_get hy2
      obtain ⟨c, hc, rfl⟩ := nums_get hz2
      have hj : j < (Dp.mem n m).length := (List.getElem?_eq_some_iff.mp hc).1
      have hcm := List.mem_of_getElem? hc
      have hpl : ps.length = j := by
        have := congrArg List.length g3
        rw [List.length_map, List.length_map, List.length_take] at this
        omega
      refine ⟨rfl, ?_⟩
      refine ⟨_, rfl, _, rfl, _, rfl, _, rfl, p, q, rs, n, l, 2 ^ n, m, c, rfl, M.same (s1.trans s2), (s1.trans s2) _ _ hq, h8, hm, hcm, Nat.lt_of_le_of_lt (Nat.sub_le _ _) hm, ?_⟩
      refine ⟨_, rfl, (by show 2 ≤ sizeLine; decide), fun t ht => ?_⟩
      have s3 := Same.new (o := .tup [.int (Dp.way l n m c : Nat), .int (c : Nat)]) ht
      refine ⟨_, s3 _ _ g2, smallL (by rw [List.length_map, hpl]; omega), fun b o e => ?_, ps ++ [(t, ((Dp.way l n m c : Nat) : Int), (c : Int))], ?_, ?_, fun p' hp' => ?_⟩
      · rw [upd_ne (ne_of_none e hD)]
        exact s3 _ _ (s2 b o e)
      · rw [upd_same, List.map_append]
        rfl
      · rw [List.map_append, g3, take_snoc hc, List.map_append]
        rfl
      · have hp2 : (upd H2 t (.tup [.int (Dp.way l n m c : Nat), .int (c : Nat)])) p'.1 = some (.tup [.int p'.2.1, .int p'.2.2]) := by
          rcases List.mem_append.mp hp' with z | z
          · exact s3 _ _ (g4 p' z)
          · have e : p' = (t, ((Dp.way l n m c : Nat) : Int), (c : Int)) := by simpa using z
            subst e
            exact upd_same
        have nD : p'.1 ≠ D := fun e => by
          have z := s3 _ _ g2
          rw [← e, hp2] at z
          cases z
        rw [upd_ne nD]
        exact hp2
    · rintro H2 ⟨s2, ps, g2, g3, g4⟩
      rw [iv_length, nums_length, List.take_length] at g3
      have hne := Dp.mem_ne hm hm0
      refine ⟨_, rfl, D, ps, rfl, SqL.of g2, (fun p' hp' => SqT.of (g4 p' hp')), ?_, fun p' hp' hmin => ?_⟩
      · have := congrArg List.length g3
        rw [List.length_map, List.length_map] at this
        rw [this]
        exact List.length_pos_iff.mpr hne
      · have h2 : p'.2 ∈ (Dp.mem n m).map (fun c => (((Dp.way l n m c : Nat) : Int), (c : Int))) := by
          rw [← g3]
          exact List.mem_map_of_mem (f := fun p : Addr × Int × Int => p.2) hp'
        obtain ⟨c, hc, ec⟩ := List.mem_map.mp h2
        have e1' : p'.2.1 = ((Dp.way l n m c : Nat) : Int) := by rw [← ec]
        have e2' : p'.2.2 = ((c : Nat) : Int) := by rw [← ec]
        refine ⟨p'.1, _, _, _, rfl, rfl, SqT.of (g4 p' hp'), atI_nat (j := 1) rfl, ?_⟩
        rw [e2']
        refine k H2 c (s1.trans s2) hc fun b hb => ?_
        have hbm : (((Dp.way l n m b : Nat) : Int), (b : Int)) ∈ ps.map fun p => p.2 := by
          rw [g3]
          exact List.mem_map_of_mem (f := fun c : Nat => (((Dp.way l n m c : Nat) : Int), (c : Int))) hb
        obtain ⟨pb, hpb, eb⟩ := List.mem_map.mp hbm
        have := hmin pb hpb
        rw [eb, e1', e2'] at this
        omega
theorem ok_order_of (T : Txt K mg a) : FnOk P w K mg base CX0 3 a.f_order_of a.d_order_of ["before"] spOrder := by
  refine T.F_order_of.ok sc_order_of (fun vs H Q E h => ?_) (fun cdv A outer s H vs Q E hr h => ?_)
  · obtain ⟨m, rws, n, l, rfl, _⟩ := h
    rfl
  · obtain ⟨m, rws, n, l, rfl, M, h1, h8, k⟩ := h
    refine ⟨_, (pss_cons (ps_set (i := 1) sc_order_of.nd rfl (Or.inl rfl) (pe_call (ok_sums_if_ahead T) (hr.mono (by decide)) rfl T.m_sums_if_ahead T.F_sums_if_ahead.kp T.b_sums_if_ahead .nil pass0 (pa_cons (pv 0) pa_nil)))
      (pss_cons (ps_set (i := 2) sc_order_of.nd rfl (Or.inl rfl) (pe_call (ok_least_of_sets T) (hr.mono (by decide)) rfl T.m_least_of_sets T.F_least_of_sets.kp T.b_least_of_sets .nil pass0 (pa_cons (pv 1) pa_nil)))
      (pss_cons (ps_set (i := 3) sc_order_of.nd rfl (Or.inl rfl) (pe_op op_sub (pe_callB call_len_seq (by rfl) T.z_len PySem.boot_len (pa_cons (pv 2) pa_nil)) pe_int))
      (pss_cons (ps_set (i := 4) sc_order_of.nd rfl (Or.inl rfl) (pe_lst pa_nil))
      (pss_cons (ps_while PassesOwn.never (pt_cmpR op_ne (pv 3) pe_int (nomark _)) (pss_cons (ps_set (i := 5) sc_order_of.nd rfl (Or.inl rfl) (pe_call (ok_best_ahead T) (hr.mono (by decide)) rfl T.m_best_ahead T.F_best_ahead.kp T.b_best_ahead .nil pass0 (pa_cons (pv 1) (pa_cons (pv 2) (pa_cons (pv 3) pa_nil)))))
      (pss_cons (ps_expr (pe_bm PySem.F.plainAttrs_list PySem.F.slot_list_append PySem.F.type_list_append mt_append (pv 4) (pa_cons (pv 5) pa_nil)))
      (pss_one (ps_set (i := 3) sc_order_of.nd rfl (Or.inl rfl) (pe_op op_xor (pv 3) (pe_ix (r := rIxT K) ix_tup (pe_glob (v := .ref _) rfl T.g_BITS rfl) (pv 5) (fun _ _ => rfl))))))))
      (pss_one (ps_ret (pv 4)))))))), ?_⟩
    have p8 := pow8 h8
    have pp := Nat.two_pow_pos n
    refine ⟨_, rfl, m, rws, n, prefer l, rfl, M, h8, fun H1 p rs s1 np S1 => ?_⟩
    refine ⟨_, rfl, p, rs, n, l, rfl, S1, h1, h8, fun q H2 nq s2 e2 => ?_⟩
    refine ⟨_, rfl, q, _, rfl, .inl (SqL.of e2), _, _, rfl, rfl, ?_⟩
    refine ⟨(by show 0 ≤ sizeLine; decide), fun r0 n0 => ?_⟩
    have s3 := Same.new (o := .lst []) n0
    have sa := (s1.trans s2).trans s3
    have n0' : H r0 = none := (s1.trans s2).free n0
    have e0 : ((((iv (nums (costs l n (2 ^ n)))).length : Nat) : Int) - 1) = ((2 ^ n - 1 : Nat) : Int) := by
      rw [iv_length, nums_length, costs_length]
      omega
    have S2 := S1.same s2
    refine ⟨fun mm σ H' => mm < 2 ^ n ∧ Same H2 H' ∧ ∃ (dn : List Nat) (v5 : Option V), σ = [some (.ref m), some (.ref p), some (.ref q), some (.int (mm : Nat)), some (.ref r0), v5] ∧ H' r0 = some (.lst (iv (nums dn))) ∧ dn ++ Dp.down l n mm = (best n l).2 ∧ dn.length ≤ 256 - mm, ⟨2 ^ n - 1, ?_⟩, ?_⟩
    · refine ⟨by omega, s3, [], none, ?_, upd_same, ?_, by simp⟩
      · rw [← e0]
        rfl
      · rw [List.nil_append, Dp.down_full]
    · rintro mm σ H' ⟨hmm, sm, dn, v5, rfl, hr0, hdn, hdl⟩
      refine ⟨_, rfl, rfl, _, rfl, ?_⟩
      refine ite2 (fun c => ?_) (fun c => ?_)
      · have hm0 : mm ≠ 0 := fun z => by
          subst z
          exact absurd c (by decide)
        refine ⟨_, fun σ' H'' h => h, ?_⟩
        refine ⟨_, rfl, _, rfl, _, rfl, p, q, rs, n, l, mm, rfl, S2.same sm, sm _ _ e2, h8, hmm, hm0, fun H4 c4 s4 hc4 hmin => ?_⟩
        obtain ⟨hcn, hh⟩ := Dp.mem_mem.mp hc4
        have hge := Dp.has_ge hh
        have hpc := Nat.two_pow_pos c4
        have hr4 := s4 _ _ hr0
        refine ⟨_, rfl, .inl ⟨rfl, _, SqL.of hr4⟩, _, rfl, r0, _, _, rfl, rfl, hr4, smallL (by rw [iv_length, nums_length]; omega), ?_⟩
        refine ⟨_, rfl, _, rfl, a.r_BITS, _, _, _, rfl, rfl, T.o_BITS.sq _, atI_nat (iv_at (bits_get (c := c4) (by omega))), _, _, rfl, rfl, ?_⟩
        refine ⟨mm - 2 ^ c4, by omega, by omega, fun b o e => ?_, dn ++ [c4], some (.int (c4 : Nat)), ?_, ?_, ?_, ?_⟩
        · rw [upd_ne (ne_of_none e n0)]
          exact s4 _ _ (sm b o e)
        · rw [← xor_bit hh]
          rfl
        · rw [upd_same, nums_append, iv_append]
          rfl
        · rw [List.append_assoc, ← hdn, Dp.down_first hc4 hmin]
          rfl
        · rw [List.length_append]
          show dn.length + 1 ≤ _
          omega
      · have hm0 : mm = 0 := by
          refine Classical.byContradiction fun z => c ?_
          show (!decide (V.int (mm : Int) = V.int 0)) = true
          rw [decide_eq_false]
          · rfl
          · intro y
            injection y with y
            omega
        subst hm0
        rw [Dp.down_zero, List.append_nil] at hdn
        rw [hdn] at hr0
        exact ⟨_, rfl, k r0 H' n0' ((s1.trans s2).trans sm) hr0⟩
end
end My
/-! A booth: its promise a method. -/
namespace My
open PySem PySem.Spec PyProof.Rows L2
open Km349 (le crc checked okCandidates bDoes only)
open Km349Neutral (told)
theorem again_none {b : Km349.Booth} {n : Nat} (h : b.ballots[n]? = none) : bDoes b (.bAgain n) = (b, only (-2)) := by
  show (b, (match b.ballots[n]? with
    | some r => ({ value := (n : Int), out := (⟨b.me, n, r⟩ : Km349.Ballot).bytes } : Km349.Ans)
    | none => only (-2))) = _
  rw [h]
theorem again_some {b : Km349.Booth} {n : Nat} {l : List Nat} (h : b.ballots[n]? = some l) : bDoes b (.bAgain n) = (b, { value := (n : Int), out := (⟨b.me, n, l⟩ : Km349.Ballot).bytes }) := by
  show (b, (match b.ballots[n]? with
    | some r => ({ value := (n : Int), out := (⟨b.me, n, r⟩ : Km349.Ballot).bytes } : Km349.Ans)
    | none => only (-2))) = _
  rw [h]
theorem told_len {b n : Nat} {l : List Nat} {v : Int} (h : l.length = 8) : (told { value := v, out := (⟨b, n, l⟩ : Km349.Ballot).bytes }).length ≤ 21 := by
  unfold told Km349.Ballot.bytes checked
  simp only [List.length_cons, Km349Neutral.nums, List.length_map, List.length_append, Ms.le_length, List.length_nil]
  omega
theorem told_lenC {b n : Nat} {v : Int} : (told { value := v, out := (⟨b, n⟩ : Km349.Close).bytes }).length ≤ 21 := by
  unfold told Km349.Close.bytes checked
  simp only [List.length_cons, Km349Neutral.nums, List.length_map, List.length_append, Ms.le_length, List.length_nil]
  omega
/-- a Booth stands at p, it owns the addresses own (itself, its list, its ballots) -/
def BoothAt (C : Addr) (H : Hp) (p : Addr) (own : List Addr) (b : Km349.Booth) : Prop :=
  ∃ (dx q : Addr) (rs : List Addr), own = p :: q :: rs ∧ H p = some (.ins C dx (fl_Booth (.int b.me) (.int b.candidates) (.ref q) (.bl b.closed))) ∧ H q = some (.lst (rs.map V.ref)) ∧
    Paired (fun r l => H r = some (.lst (iv (nums l))) ∧ l.length = 8) rs b.ballots
theorem Paired.imp2 {α β : Type} {F G : α → β → Prop} : ∀ {l₁ : List α} {l₂ : List β}, Paired F l₁ l₂ → (∀ a ∈ l₁, ∀ b, F a b → G a b) → Paired G l₁ l₂
  | _, _, .nil, _ => .nil
  | _, _, .cons r t, f => .cons (f _ List.mem_cons_self _ r) (Paired.imp2 t fun a ha b => f a (List.mem_cons_of_mem _ ha) b)
theorem Paired.snoc {α β : Type} {F : α → β → Prop} {a : α} {b : β} (h : F a b) : ∀ {l₁ : List α} {l₂ : List β}, Paired F l₁ l₂ → Paired F (l₁ ++ [a]) (l₂ ++ [b])
  | _, _, .nil => .cons h .nil
  | _, _, .cons r t => .cons r (Paired.snoc h t)
theorem BoothAt.stay {C : Addr} {H H' : Hp} {p : Addr} {own : List Addr} {b : Km349.Booth} (B : BoothAt C H p own b) (h : ∀ x ∈ own, ∀ o, H x = some o → H' x = some o) : BoothAt C H' p own b := by
  obtain ⟨dx, q, rs, rfl, h1, h2, h3⟩ := B
  exact ⟨dx, q, rs, rfl, h p (by simp) _ h1, h q (by simp) _ h2, Paired.imp2 h3 fun r hr l hl => ⟨h r (by simp [hr]) _ hl.1, hl.2⟩⟩
theorem refs_ne {rs : List Addr} {l : List Nat} (h : l.length = 8) : (HO.lst (rs.map V.ref)) ≠ .lst (iv (nums l)) := by
  intro e
  injection e with e
  cases l with
  | nil => cases h
  | cons n l =>
    cases rs with
    | nil => cases e
    | cons r rs =>
      injection e with e1 _
      cases e1
/-- behind a call of a booth's: it is b', a new list holds what is answered, all that is not its own stands -/
def After (C : Addr) (H : Hp) (p : Addr) (own : List Addr) (Q : VK) (b' : Km349.Booth) (ans : List Int) : Prop :=
  ∀ (H' : Hp) (own' : List Addr) (r : Addr), BoothAt C H' p own' b' → (∀ x ∈ own', x ∈ own ∨ H x = none) → (∀ x o, H x = some o → x ∉ own → H' x = some o) → H r = none → r ∉ own' → ans.length ≤ 21 → H' r = some (.lst (iv ans)) → Q (.ref r) H'
/-- nothing but new things -/
theorem After.same {C : Addr} {H H' : Hp} {p : Addr} {own : List Addr} {Q : VK} {b : Km349.Booth} {ans : List Int} (k : After C H p own Q b ans) (B : BoothAt C H p own b) (s : Same H H') {r : Addr} (hr : H r = none) (hn : ans.length ≤ 21) (e : H' r = some (.lst (iv ans))) : Q (.ref r) H' := by
  refine k H' own r (B.stay fun x _ o h => s x o h) (fun x hx => .inl hx) (fun x o h _ => s x o h) hr (fun z => ?_) hn e
  obtain ⟨dx, q, rs, rfl, h1, h2, h3⟩ := B
  rcases List.mem_cons.mp z with rfl | z
  · rw [h1] at hr; cases hr
  · rcases List.mem_cons.mp z with rfl | z
    · rw [h2] at hr; cases hr
    · obtain ⟨i, hi⟩ := List.mem_iff_getElem?.mp z
      obtain ⟨l, _, hl⟩ := paired_get h3 hi
      rw [hl.1] at hr; cases hr
def spBInit (C : Addr) : Sp := fun vs H Q _ => ∃ (p dx : Addr), vs = [.ref p] ∧ H p = some (.ins C dx []) ∧ ∀ (H' : Hp) (q : Addr), H q = none → BoothAt C H' p [p, q] ⟨0, 0, [], false⟩ → (∀ b o, H b = some o → b ≠ p → H' b = some o) → Q .non H'
def spBStart (C : Addr) : Sp := fun vs H Q _ => ∃ (p : Addr) (own : List Addr) (b : Km349.Booth) (me n : Nat), vs = [.ref p, .int me, .int n] ∧ BoothAt C H p own b ∧ After C H p own Q (bDoes b (.bStart me n)).1 (told (bDoes b (.bStart me n)).2)
def spBVote (K : PySem.W.Frag) (C : Addr) : Sp := fun vs H Q _ => ∃ (p r : Addr) (own : List Addr) (b : Km349.Booth) (l : List Nat), vs = [.ref p, .ref r] ∧ BoothAt C H p own b ∧ SqL K H r (iv (nums l)) ∧ l.length = 8 ∧ (∀ z ∈ l, z < 256) ∧ b.candidates ≤ 8 ∧
  After C H p own Q (bDoes b (.bVote l)).1 (told (bDoes b (.bVote l)).2)
def spBClose (C : Addr) : Sp := fun vs H Q _ => ∃ (p : Addr) (own : List Addr) (b : Km349.Booth), vs = [.ref p] ∧ BoothAt C H p own b ∧ After C H p own Q (bDoes b .bClose).1 (told (bDoes b .bClose).2)
def spBAgain (C : Addr) : Sp := fun vs H Q _ => ∃ (p : Addr) (own : List Addr) (b : Km349.Booth) (n : Nat), vs = [.ref p, .int n] ∧ BoothAt C H p own b ∧ After C H p own Q (bDoes b (.bAgain n)).1 (told (bDoes b (.bAgain n)).2)
section
variable {P : Program} {w : World} {K : PySem.W.Frag} {mg : Str → Option Value} {base : Heap} {a : Ad}
theorem ok_Booth_init (T : Txt K mg a) : FnOk P w K mg base CX0 1 a.f_Booth_init a.d_Booth_init ["self"] (spBInit a.c_Booth) := by
  refine T.F_Booth_init.ok sc_Booth_init (fun vs H Q E h => ?_) (fun cdv A outer s H vs Q E hr h => ?_)
  · obtain ⟨p, dx, rfl, _⟩ := h
    rfl
  · obtain ⟨p, dx, rfl, hp, k⟩ := h
    refine ⟨_, (pss_cons (ps_fld (pv 0) pe_int rfl)
      (pss_cons (ps_fld (pv 0) pe_int rfl)
      (pss_cons (ps_fld (pv 0) (pe_lst pa_nil) rfl)
      (pss_one (ps_fld (pv 0) pe_bl rfl))))), ?_⟩
    refine ⟨_, rfl, p, a.c_Booth, dx, _, rfl, hp, T.cl_Booth, T.n_Booth_me, (by show 0 < 1000; decide), ?_⟩
    refine ⟨_, rfl, p, a.c_Booth, dx, _, rfl, upd_same, T.cl_Booth, T.n_Booth_candidates, (by show 1 < 1000; decide), ?_⟩
    refine ⟨Nat.zero_le _, fun q hq => ?_⟩
    have npq : p ≠ q := fun e => by rw [← e, upd_same] at hq; cases hq
    have hqn : H q = none := by rw [upd_ne npq.symm, upd_ne npq.symm] at hq; exact hq
    refine ⟨_, rfl, p, a.c_Booth, dx, _, rfl, by rw [upd_ne npq]; exact upd_same, T.cl_Booth, T.n_Booth_ballots, Nat.lt_of_le_of_lt (put_len _ _ _) (by show 1 + 1 < 1000; decide), ?_⟩
    refine ⟨_, rfl, p, a.c_Booth, dx, _, rfl, upd_same, T.cl_Booth, T.n_Booth_closed, Nat.lt_of_le_of_lt (put_len _ _ _) (Nat.lt_of_le_of_lt (Nat.succ_le_succ (put_len _ _ _)) (by show 1 + 1 + 1 < 1000; decide)), ?_⟩
    refine k _ q hqn ⟨dx, q, [], rfl, upd_same.trans (by rw [in_Booth]; rfl), ?_, .nil⟩ fun b o e hb => ?_
    · rw [upd_ne npq.symm, upd_ne npq.symm, upd_same]
      rfl
    · rw [upd_ne hb, upd_ne hb, upd_ne (ne_of_none e hqn), upd_ne hb, upd_ne hb]
      exact e
theorem ok_Booth_start (T : Txt K mg a) : FnOk P w K mg base CX0 2 a.f_Booth_start a.d_Booth_start ["self", "me", "candidates"] (spBStart a.c_Booth) := by
  refine T.F_Booth_start.ok sc_Booth_start (fun vs H Q E h => ?_) (fun cdv A outer s H vs Q E hr h => ?_)
  · obtain ⟨p, own, b, me, n, rfl, _⟩ := h
    rfl
  · obtain ⟨p, own, b, me, n, rfl, B, k⟩ := h
    have B0 := B
    obtain ⟨dx, q0, rs, rfl, hp, hq0, hrs⟩ := B
    have bad : (Km349.BOOTHS ≤ me ∨ okCandidates n = false) → ∀ r, H r = none → Q (.ref r) (upd H r (.lst [.int (-22)])) := fun c r hr => by
      have e : bDoes b (.bStart me n) = (b, only (-22)) := by
        unfold bDoes
        exact if_pos c
      rw [e] at k
      exact After.same k B0 (Same.new hr) hr (by show 1 ≤ 21; decide) upd_same
    refine ⟨_, (pss_cons (ps_if (PW.pt (pw_or (pt_cmpR op_ge (pv 1) (pgi rfl T.g_MOST_BOOTHS) (nomark _)) (pw_or1 (pt_not (pt_val (pe_call (ok_candidates_fit T) (hr.mono (by decide)) rfl T.m_candidates_fit T.F_candidates_fit.kp T.b_candidates_fit .nil pass0 (pa_cons (pv 2) pa_nil))))))) (pss_one (ps_ret (pe_lst (pa_cons (pgi rfl T.g_WRONG) pa_nil)))) pss_nil)
      (pss_cons (ps_fld (pv 0) (pv 1) rfl)
      (pss_cons (ps_fld (pv 0) (pv 2) rfl)
      (pss_cons (ps_fld (pv 0) (pe_lst pa_nil) rfl)
      (pss_cons (ps_fld (pv 0) pe_bl rfl)
      (pss_one (ps_ret (pe_lst (pa_cons pe_int pa_nil))))))))), ?_⟩
    refine ⟨_, rfl, _, _, rfl, rfl, _, rfl, ?_⟩
    refine ite2 (fun h1 => ?_) (fun h1 => ?_)
    · refine iteT ?_
      refine ⟨(by show 1 ≤ sizeLine; decide), fun r hr => ?_⟩
      have := of_decide_eq_true h1
      exact bad (.inl (by unfold Km349.BOOTHS; omega)) r hr
    · have h1' : ¬ (8 : Int) ≤ me := fun q => h1 (decide_eq_true q)
      refine ⟨_, rfl, n, rfl, _, rfl, ?_⟩
      cases hc : okCandidates n with
      | false =>
        refine iteT ?_
        exact ⟨(by show 1 ≤ sizeLine; decide), fun r hr => bad (.inr hc) r hr⟩
      | true =>
        refine iteF ?_
        have e : bDoes b (.bStart me n) = (⟨me, n, [], false⟩, only 0) := by
          unfold bDoes
          refine if_neg ?_
          rintro (z | z)
          · unfold Km349.BOOTHS at z
            omega
          · rw [hc] at z
            cases z
        rw [e] at k
        refine ⟨_, rfl, _, rfl, p, a.c_Booth, dx, _, rfl, hp, T.cl_Booth, T.n_Booth_me, (by show 4 < 1000; decide), ?_⟩
        rw [pu_Booth_me]
        refine ⟨_, rfl, _, rfl, p, a.c_Booth, dx, _, rfl, upd_same, T.cl_Booth, T.n_Booth_candidates, (by show 4 < 1000; decide), ?_⟩
        rw [pu_Booth_candidates]
        refine ⟨Nat.zero_le _, fun q hq => ?_⟩
        have npq : p ≠ q := fun e => by rw [← e, upd_same] at hq; cases hq
        have hqn : H q = none := by rw [upd_ne npq.symm, upd_ne npq.symm] at hq; exact hq
        refine ⟨_, rfl, p, a.c_Booth, dx, _, rfl, by rw [upd_ne npq]; exact upd_same, T.cl_Booth, T.n_Booth_ballots, (by show 4 < 1000; decide), ?_⟩
        rw [pu_Booth_ballots]
        refine ⟨_, rfl, p, a.c_Booth, dx, _, rfl, upd_same, T.cl_Booth, T.n_Booth_closed, (by show 4 < 1000; decide), ?_⟩
        rw [pu_Booth_closed]
        refine ⟨(by show 1 ≤ sizeLine; decide), fun r hr => ?_⟩
        have npr : r ≠ p := fun e => by rw [e, upd_same] at hr; cases hr
        have nqr : r ≠ q := fun e => by rw [e, upd_ne npq.symm, upd_ne npq.symm, upd_same] at hr; cases hr
        have hrn : H r = none := by rw [upd_ne npr, upd_ne npr, upd_ne nqr, upd_ne npr, upd_ne npr] at hr; exact hr
        refine k _ [p, q] r ⟨dx, q, [], rfl, ?_, ?_, .nil⟩ (fun x hx => ?_) (fun x o e hx => ?_) hrn (by simp [npr, nqr]) (by show 1 ≤ 21; decide) upd_same
        · rw [upd_ne npr.symm, upd_same]
        · rw [upd_ne nqr.symm, upd_ne npq.symm, upd_ne npq.symm, upd_same]
          rfl
        · rcases List.mem_cons.mp hx with rfl | hx
          · exact .inl List.mem_cons_self
          · have e : x = q := by simpa using hx
            rw [e]
            exact .inr hqn
        · have nx : x ≠ p := fun z => hx (by simp [z])
          rw [upd_ne (ne_of_none e hrn), upd_ne nx, upd_ne nx, upd_ne (ne_of_none e hqn), upd_ne nx, upd_ne nx]
          exact e
theorem ok_Booth_again (T : Txt K mg a) : FnOk P w K mg base CX0 5 a.f_Booth_again a.d_Booth_again ["self", "number"] (spBAgain a.c_Booth) := by
  refine T.F_Booth_again.ok sc_Booth_again (fun vs H Q E h => ?_) (fun cdv A outer s H vs Q E hr h => ?_)
  · obtain ⟨p, own, b, n, rfl, _⟩ := h
    rfl
  · obtain ⟨p, own, b, n, rfl, B, k⟩ := h
    have B0 := B
    obtain ⟨dx, q, rs, rfl, hp, hq, hrs⟩ := B
    have hlen : rs.length = b.ballots.length := Paired.length hrs
    refine ⟨_, (pss_cons (ps_if (pt_cmpR op_ge (pv 1) (pe_callB call_len_seq (by rfl) T.z_len PySem.boot_len (pa_cons (pe_fld (pv 0) rfl) pa_nil)) (nomark _)) (pss_one (ps_ret (pe_lst (pa_cons (pgi rfl T.g_NOT_THERE) pa_nil)))) pss_nil)
      (pss_one (ps_ret (pe_op op_cat (pe_lst (pa_cons (pv 1) pa_nil)) (pe_call (ok_ballot_message T) (hr.mono (by decide)) rfl T.m_ballot_message T.F_ballot_message.kp T.b_ballot_message .nil pass0 (pa_cons (pe_fld (pv 0) rfl) (pa_cons (pv 1) (pa_cons (pe_ix (r := rIxL K) ix_list (pe_fld (pv 0) rfl) (pv 1) (fun _ _ => rfl)) pa_nil)))))))), ?_⟩
    refine ⟨_, rfl, _, rfl, p, a.c_Booth, dx, _, _, rfl, hp, T.cl_Booth, T.n_Booth_ballots, lk_Booth_ballots _ _ _ _, q, _, rfl, .inl (SqL.of hq), _, _, rfl, rfl, _, rfl, ?_⟩
    refine ite2 (fun h1 => ?_) (fun h1 => ?_)
    · have h1' : ((rs.map V.ref).length : Int) ≤ n := of_decide_eq_true h1
      rw [List.length_map, hlen] at h1'
      rw [again_none (List.getElem?_eq_none_iff.mpr (by omega))] at k
      exact ⟨(by show 1 ≤ sizeLine; decide), fun r hr => After.same k B0 (Same.new hr) hr (by show 1 ≤ 21; decide) upd_same⟩
    · have h1' : ¬ ((rs.map V.ref).length : Int) ≤ n := fun z => h1 (decide_eq_true z)
      rw [List.length_map] at h1'
      have hn : n < rs.length := by omega
      obtain ⟨l, hl, hr1, hl8⟩ := paired_get hrs (List.getElem?_eq_getElem hn)
      rw [again_some hl] at k
      refine ⟨_, rfl, (by show 1 ≤ sizeLine; decide), fun p1 n1 => ?_⟩
      have s1 := Same.new (o := .lst [.int n]) n1
      refine ⟨_, rfl, p, a.c_Booth, dx, _, _, rfl, s1 _ _ hp, T.cl_Booth, T.n_Booth_me, lk_Booth_me _ _ _ _, _, rfl, _, rfl, p, a.c_Booth, dx, _, _, rfl, s1 _ _ hp, T.cl_Booth, T.n_Booth_ballots, lk_Booth_ballots _ _ _ _, _, rfl,
        q, _, _, _, rfl, rfl, SqL.of (s1 _ _ hq), atI_nat (by rw [List.getElem?_map, List.getElem?_eq_getElem hn]; rfl), ?_⟩
      refine ⟨b.me, n, rs[n], l, rfl, s1 _ _ hr1, by omega, fun p2 H2 n2 s2 e2 => ?_⟩
      refine ⟨p1, p2, _, _, rfl, rfl, s2 _ _ upd_same, e2, small ?_, fun p3 n3 => ?_⟩
      · rw [iv_length, nums_length]
        unfold Km349.Ballot.bytes checked
        simp only [List.length_append, Ms.le_length, List.length_cons, List.length_nil]
        omega
      · have s3 := (s1.trans s2).trans (Same.new (o := .lst ([.int n] ++ iv (nums (⟨b.me, n, l⟩ : Km349.Ballot).bytes))) n3)
        exact After.same k B0 s3 ((s1.trans s2).free n3) (told_len hl8) upd_same
theorem ok_Booth_close (T : Txt K mg a) : FnOk P w K mg base CX0 5 a.f_Booth_close a.d_Booth_close ["self"] (spBClose a.c_Booth) := by
  refine T.F_Booth_close.ok sc_Booth_close (fun vs H Q E h => ?_) (fun cdv A outer s H vs Q E hr h => ?_)
  · obtain ⟨p, own, b, rfl, _⟩ := h
    rfl
  · obtain ⟨p, own, b, rfl, B, k⟩ := h
    obtain ⟨dx, q, rs, rfl, hp, hq, hrs⟩ := B
    have hlen : rs.length = b.ballots.length := Paired.length hrs
    have npq : p ≠ q := ne_of hp hq (by intro z; cases z)
    refine ⟨_, (pss_cons (ps_fld (pv 0) pe_bl rfl)
      (pss_cons (ps_set (i := 1) sc_Booth_close.nd rfl (Or.inl rfl) (pe_callB call_len_seq (by rfl) T.z_len PySem.boot_len (pa_cons (pe_fld (pv 0) rfl) pa_nil)))
      (pss_one (ps_ret (pe_op op_cat (pe_lst (pa_cons (pv 1) pa_nil)) (pe_call (ok_closing_message T) (hr.mono (by decide)) rfl T.m_closing_message T.F_closing_message.kp T.b_closing_message .nil pass0 (pa_cons (pe_fld (pv 0) rfl) (pa_cons (pv 1) pa_nil)))))))), ?_⟩
    refine ⟨_, rfl, p, a.c_Booth, dx, _, rfl, hp, T.cl_Booth, T.n_Booth_closed, (by show 4 < 1000; decide), ?_⟩
    rw [pu_Booth_closed]
    generalize hH1 : upd H p (.ins a.c_Booth dx (fl_Booth (.int b.me) (.int b.candidates) (.ref q) (.bl true))) = H1
    have hp1 : H1 p = some (.ins a.c_Booth dx (fl_Booth (.int b.me) (.int b.candidates) (.ref q) (.bl true))) := by rw [← hH1]; exact upd_same
    have k1 : ∀ x o, H x = some o → x ≠ p → H1 x = some o := fun x o e hx => by rw [← hH1, upd_ne hx]; exact e
    have f1 : ∀ x, H1 x = none → H x = none := fun x e => by
      have hx : x ≠ p := fun z => by rw [z, hp1] at e; cases e
      rw [← hH1, upd_ne hx] at e
      exact e
    have hq1 := k1 _ _ hq npq.symm
    have B1 : BoothAt a.c_Booth H1 p (p :: q :: rs) { b with closed := true } := ⟨dx, q, rs, rfl, hp1, hq1, Paired.imp2 hrs fun r hr l hl => ⟨k1 _ _ hl.1 (ne_of hl.1 hp (by intro z; cases z)), hl.2⟩⟩
    refine ⟨_, rfl, p, a.c_Booth, dx, _, _, rfl, hp1, T.cl_Booth, T.n_Booth_ballots, lk_Booth_ballots _ _ _ _, q, _, rfl, .inl (SqL.of hq1), ?_⟩
    refine ⟨_, rfl, (by show 1 ≤ sizeLine; decide), fun p1 n1 => ?_⟩
    have s1 := Same.new (o := .lst [.int ((rs.map V.ref).length : Nat)]) n1
    refine ⟨_, rfl, p, a.c_Booth, dx, _, _, rfl, s1 _ _ hp1, T.cl_Booth, T.n_Booth_me, lk_Booth_me _ _ _ _, _, rfl, b.me, (rs.map V.ref).length, rfl, fun p2 H2 n2 s2 e2 => ?_⟩
    have el : (rs.map V.ref).length = b.ballots.length := by rw [List.length_map, hlen]
    rw [el] at e2
    refine ⟨p1, p2, _, _, rfl, rfl, s2 _ _ upd_same, e2, small ?_, fun p3 n3 => ?_⟩
    · rw [iv_length, nums_length]
      unfold Km349.Close.bytes checked
      simp only [List.length_append, Ms.le_length, List.length_cons, List.length_nil]
      omega
    · have s3 := (s1.trans s2).trans (Same.new (o := .lst ([.int ((rs.map V.ref).length : Nat)] ++ iv (nums (⟨b.me, b.ballots.length⟩ : Km349.Close).bytes))) n3)
      have hn1 : H1 p3 = none := (s1.trans s2).free n3
      have e : bDoes b .bClose = ({ b with closed := true }, { value := (b.ballots.length : Int), out := (⟨b.me, b.ballots.length⟩ : Km349.Close).bytes }) := rfl
      rw [e] at k
      refine k _ (p :: q :: rs) p3 (B1.stay fun x _ o h => s3 x o h) (fun x hx => .inl hx) (fun x o h hx => s3 x o (k1 x o h fun z => hx (by simp [z]))) (f1 _ hn1) (fun z => ?_) told_lenC (upd_same.trans ?_)
      · rcases List.mem_cons.mp z with rfl | z
        · rw [hp1] at hn1; cases hn1
        · rcases List.mem_cons.mp z with rfl | z
          · rw [hq1] at hn1; cases hn1
          · obtain ⟨i, hi⟩ := List.mem_iff_getElem?.mp z
            obtain ⟨l, _, hl⟩ := paired_get hrs hi
            have := f1 _ hn1
            rw [hl.1] at this; cases this
      · rw [el]
        rfl
theorem ok_Booth_vote (T : Txt K mg a) : FnOk P w K mg base CX0 6 a.f_Booth_vote a.d_Booth_vote ["self", "ranks"] (spBVote K a.c_Booth) := by
  refine T.F_Booth_vote.ok sc_Booth_vote (fun vs H Q E h => ?_) (fun cdv A outer s H vs Q E hr h => ?_)
  · obtain ⟨p, r, own, b, l, rfl, _⟩ := h
    rfl
  · obtain ⟨p, r, own, b, l, rfl, B, hr0, hl, hb, hc8, k⟩ := h
    have B0 := B
    obtain ⟨dx, q, rs, rfl, hp, hq, hrs⟩ := B
    have hlen : rs.length = b.ballots.length := Paired.length hrs
    have npq : p ≠ q := ne_of hp hq (by intro z; cases z)
    have hfit : Km349.okRanks b.candidates l = Fl.allFit 0 b.candidates (nums l) := by
      have := Fl.okRanks_fit (n := b.candidates) (l := nums l) hc8 (by rw [nums_length, hl]) (fun z hz => by
        obtain ⟨i, hi⟩ := List.mem_iff_getElem?.mp hz
        obtain ⟨m, hm, rfl⟩ := nums_get hi
        have := hb m (List.mem_of_getElem? hm)
        omega)
      rw [nats_nums] at this
      exact this
    refine ⟨_, (pss_cons (ps_if (pt_not (pt_val (pe_call (ok_ranks_fit T) (hr.mono (by decide)) rfl T.m_ranks_fit T.F_ranks_fit.kp T.b_ranks_fit .nil pass0 (pa_cons (pv 1) (pa_cons (pe_fld (pv 0) rfl) pa_nil))))) (pss_one (ps_ret (pe_lst (pa_cons (pgi rfl T.g_WRONG) pa_nil)))) pss_nil)
      (pss_cons (ps_if (pt_val (pe_fld (pv 0) rfl)) (pss_one (ps_ret (pe_lst (pa_cons (pgi rfl T.g_CLOSED) pa_nil)))) pss_nil)
      (pss_cons (ps_if (pt_cmpR op_ge (pe_callB call_len_seq (by rfl) T.z_len PySem.boot_len (pa_cons (pe_fld (pv 0) rfl) pa_nil)) (pgi rfl T.g_MOST_BALLOTS) (nomark _)) (pss_one (ps_ret (pe_lst (pa_cons (pgi rfl T.g_FULL) pa_nil)))) pss_nil)
      (pss_cons (ps_expr (pe_bm PySem.F.plainAttrs_list PySem.F.slot_list_append PySem.F.type_list_append mt_append (pe_fld (pv 0) rfl) (pa_cons (pe_callTy call_list_of (by rfl) T.z_list boot_listX (pa_cons (pv 1) pa_nil)) pa_nil)))
      (pss_one (ps_ret (pe_meth (pv 0) T.cl_Booth T.M_Booth_again (ok_Booth_again T) (hr.mono (by decide)) T.b_Booth_again .nil pass0 (pa_cons (pe_op op_sub (pe_callB call_len_seq (by rfl) T.z_len PySem.boot_len (pa_cons (pe_fld (pv 0) rfl) pa_nil)) pe_int) pa_nil)))))))), ?_⟩
    refine ⟨_, rfl, _, rfl, p, a.c_Booth, dx, _, _, rfl, hp, T.cl_Booth, T.n_Booth_candidates, lk_Booth_candidates _ _ _ _, r, nums l, b.candidates, rfl, hr0, fun H1 s1 => ⟨_, rfl, ?_⟩⟩
    have hp1 := s1 _ _ hp
    have hq1 := s1 _ _ hq
    cases hf : Fl.allFit 0 b.candidates (nums l) with
    | false =>
      refine iteT ?_
      have e : bDoes b (.bVote l) = (b, only (-22)) := by
        unfold bDoes
        exact if_pos (hfit.trans hf)
      rw [e] at k
      exact ⟨(by show 1 ≤ sizeLine; decide), fun x hx => After.same k B0 (s1.trans (Same.new hx)) (s1.free hx) (by show 1 ≤ 21; decide) upd_same⟩
    | true =>
      refine iteF ?_
      have e1 : bDoes b (.bVote l) = if b.closed = true then (b, only (-11)) else if Km349.BALLOTS ≤ b.ballots.length then (b, only (-28)) else
          ({ b with ballots := b.ballots ++ [l] }, { value := (b.ballots.length : Int), out := (⟨b.me, b.ballots.length, l⟩ : Km349.Ballot).bytes }) := by
        show (if Km349.okRanks b.candidates l = false then _ else _) = _
        rw [if_neg (by rw [hfit, hf]; decide)]
      refine ⟨_, rfl, p, a.c_Booth, dx, _, _, rfl, hp1, T.cl_Booth, T.n_Booth_closed, lk_Booth_closed _ _ _ _, _, rfl, ?_⟩
      cases hcl : b.closed with
      | true =>
        refine iteT ?_
        rw [e1, if_pos hcl] at k
        exact ⟨(by show 1 ≤ sizeLine; decide), fun x hx => After.same k B0 (s1.trans (Same.new hx)) (s1.free hx) (by show 1 ≤ 21; decide) upd_same⟩
      | false =>
        refine iteF ?_
        rw [hcl] at hp1
        rw [if_neg (by rw [hcl]; decide)] at e1
        refine ⟨_, rfl, p, a.c_Booth, dx, _, _, rfl, hp1, T.cl_Booth, T.n_Booth_ballots, lk_Booth_ballots _ _ _ _, q, _, rfl, .inl (SqL.of hq1), _, _, rfl, rfl, _, rfl, ?_⟩
        refine ite2 (fun h1 => ?_) (fun h1 => ?_)
        · have h1' : (4096 : Int) ≤ ((rs.map V.ref).length : Nat) := of_decide_eq_true h1
          rw [List.length_map, hlen] at h1'
          rw [e1, if_pos (by unfold Km349.BALLOTS; omega)] at k
          exact ⟨(by show 1 ≤ sizeLine; decide), fun x hx => After.same k B0 (s1.trans (Same.new hx)) (s1.free hx) (by show 1 ≤ 21; decide) upd_same⟩
        · have h1' : ¬ (4096 : Int) ≤ ((rs.map V.ref).length : Nat) := fun z => h1 (decide_eq_true z)
          rw [List.length_map, hlen] at h1'
          rw [e1, if_neg (by unfold Km349.BALLOTS; omega)] at k
          refine ⟨_, rfl, p, a.c_Booth, dx, _, _, rfl, hp1, T.cl_Booth, T.n_Booth_ballots, lk_Booth_ballots _ _ _ _, .inl ⟨rfl, _, SqL.of hq1⟩, _, rfl, r, _, rfl, .inl (s1.seq hr0), fun c hc => ?_⟩
          have s2 := Same.new (o := .lst (iv (nums l))) hc
          have nqc : q ≠ c := ne_of_none hq1 hc
          have npc : p ≠ c := ne_of_none hp1 hc
          refine ⟨q, _, _, rfl, rfl, s2 _ _ hq1, smallL (by rw [List.length_map, hlen]; omega), ?_⟩
          generalize hH3 : upd (upd H1 c (.lst (iv (nums l)))) q (.lst (rs.map V.ref ++ [.ref c])) = H3
          have hp3 : H3 p = some (.ins a.c_Booth dx (fl_Booth (.int b.me) (.int b.candidates) (.ref q) (.bl false))) := by rw [← hH3, upd_ne npq, upd_ne npc]; exact hp1
          have hq3 : H3 q = some (.lst ((rs ++ [c]).map V.ref)) := by rw [← hH3, upd_same, List.map_append]; rfl
          have hc3 : H3 c = some (.lst (iv (nums l))) := by rw [← hH3, upd_ne nqc.symm, upd_same]
          have k3 : ∀ x o, H x = some o → x ≠ q → H3 x = some o := fun x o e hx => by
            have := s1 _ _ e
            rw [← hH3, upd_ne hx, upd_ne (ne_of_none this hc)]
            exact this
          have f3 : ∀ x, H3 x = none → H x = none := fun x e => by
            have hxq : x ≠ q := fun z => by rw [z, hq3] at e; cases e
            have hxc : x ≠ c := fun z => by rw [z, hc3] at e; cases e
            rw [← hH3, upd_ne hxq, upd_ne hxc] at e
            exact s1.free e
          have B3 : BoothAt a.c_Booth H3 p (p :: q :: (rs ++ [c])) { b with ballots := b.ballots ++ [l] } := by
            refine ⟨dx, q, rs ++ [c], rfl, ?_, hq3, Paired.snoc ⟨hc3, hl⟩ (Paired.imp2 hrs fun x _ m hm => ⟨k3 _ _ hm.1 (ne_of hm.1 hq (Ne.symm (refs_ne hm.2))), hm.2⟩)⟩
            rw [hp3]
            show some (HO.ins a.c_Booth dx (fl_Booth (.int b.me) (.int b.candidates) (.ref q) (.bl false))) = some (HO.ins a.c_Booth dx (fl_Booth (.int b.me) (.int b.candidates) (.ref q) (.bl b.closed)))
            rw [hcl]
          have ez : ((((rs ++ [c]).map V.ref).length : Nat) : Int) - 1 = ((b.ballots.length : Nat) : Int) := by
            rw [List.length_map, List.length_append, hlen]
            simp
          refine ⟨_, rfl, p, dx, _, rfl, hp3, no_Booth_again _ _ _ _, _, rfl, p, a.c_Booth, dx, _, _, rfl, hp3, T.cl_Booth, T.n_Booth_ballots, lk_Booth_ballots _ _ _ _, q, _, rfl, .inl (SqL.of hq3), _, _, rfl, rfl, ?_⟩
          refine ⟨p, p :: q :: (rs ++ [c]), _, b.ballots.length, congrArg (fun z => [V.ref p, V.int z]) ez, B3, fun H4 own4 x B4 ho4 k4 n4 hx4 hn4 e4 => ?_⟩
          have e5 : (bDoes { b with ballots := b.ballots ++ [l] } (.bAgain b.ballots.length)) = ({ b with ballots := b.ballots ++ [l] }, { value := (b.ballots.length : Int), out := (⟨b.me, b.ballots.length, l⟩ : Km349.Ballot).bytes }) :=
            again_some (b := { b with ballots := b.ballots ++ [l] }) (by show (b.ballots ++ [l])[b.ballots.length]? = some l; simp)
          rw [e5] at B4 e4 hn4
          have hcn : H c = none := s1.free hc
          refine k H4 own4 x B4 (fun y hy => ?_) (fun y o e hy => ?_) (f3 _ n4) hx4 hn4 e4
          · rcases ho4 y hy with z | z
            · rcases List.mem_cons.mp z with rfl | z
              · exact .inl (by simp)
              · rcases List.mem_cons.mp z with rfl | z
                · exact .inl (by simp)
                · rcases List.mem_append.mp z with z | z
                  · exact .inl (by simp [z])
                  · have e : y = c := by simpa using z
                    rw [e]
                    exact .inr hcn
            · exact .inr (f3 _ z)
          · have hyq : y ≠ q := fun z => hy (by simp [z])
            refine k4 y o (k3 y o e hyq) fun z => ?_
            rcases List.mem_cons.mp z with rfl | z
            · exact hy (by simp)
            · rcases List.mem_cons.mp z with z | z
              · exact hyq z
              · rcases List.mem_append.mp z with z | z
                · exact hy (by simp [z])
                · have e2 : y = c := by simpa using z
                  rw [e2, hcn] at e
                  cases e
end
end My
/-! The office: what stands at its address; its beginning. -/
namespace My
open PySem PySem.Spec PyProof.Rows L2
open Km349 (okCandidates bDoes oDoes only prefer best)
open Km349Neutral (told S step)
open Of (Good)
def b0 : Km349.Booth := ⟨0, 0, [], false⟩
def o0 : Km349.Office := ⟨0, 0, [], []⟩
def kT (b n : Nat) : List Key := [Sum.inl (b : Int), Sum.inl (n : Int)]
/-- what the office has heard, by its two dicts -/
structure Heard (kvs : List (List Key × V)) (cvs : List (Key × V)) (o : Km349.Office) : Prop where
  knd : (kvs.map (·.1)).Nodup
  kin : ∀ k ∈ kvs.map (·.1), ∃ b n : Nat, k = kT b n ∧ b < 8 ∧ n < 4096
  cnd : (cvs.map (·.1)).Nodup
  cin : ∀ k ∈ cvs.map (·.1), ∃ b : Nat, k = (Sum.inl (b : Int) : Key) ∧ b < 8
  knows : ∀ b n : Nat, (valV kvs (kT b n)).isSome = o.knows b n
  close : ∀ b : Nat, valV cvs (Sum.inl (b : Int) : Key) = (o.close b).map fun n => V.int (n : Nat)
theorem kT_inj {b n c m : Nat} (h : kT b n = kT c m) : b = c ∧ n = m := by
  unfold kT at h
  injection h with h1 h2
  injection h2 with h2 _
  have e1 := Sum.inl.inj h1
  have e2 := Sum.inl.inj h2
  omega
theorem Heard.klen {kvs : List (List Key × V)} {cvs : List (Key × V)} {o : Km349.Office} (h : Heard kvs cvs o) : kvs.length < sizeLine := by
  have h1 : kvs.length ≤ 32768 := by
    have := Of.len_of_sub (T := (List.range 8).flatMap fun b => (List.range 4096).map fun n => kT b n) h.knd fun k hk => by
      obtain ⟨b, n, e, hb, hn⟩ := h.kin k hk
      exact List.mem_flatMap.mpr ⟨b, List.mem_range.mpr hb, List.mem_map.mpr ⟨n, List.mem_range.mpr hn, e.symm⟩⟩
    rw [List.length_map] at this
    refine Nat.le_trans this ?_
    rw [List.length_flatMap]
    have e : (List.range 8).map (fun b => ((List.range 4096).map fun n => kT b n).length) = (List.range 8).map fun _ => 4096 := List.map_congr_left fun b _ => by rw [List.length_map, List.length_range]
    rw [e]
    decide
  exact smallL (by omega)
theorem Heard.clen {kvs : List (List Key × V)} {cvs : List (Key × V)} {o : Km349.Office} (h : Heard kvs cvs o) : cvs.length < sizeLine := by
  have := Of.len_of_sub (T := (List.range 8).map fun b => (Sum.inl ((b : Nat) : Int) : Key)) h.cnd fun k hk => by
    obtain ⟨b, e, hb⟩ := h.cin k hk
    exact List.mem_map.mpr ⟨b, List.mem_range.mpr hb, e.symm⟩
  rw [List.length_map, List.length_map, List.length_range] at this
  exact smallL (by omega)
/-- the Office stands at p -/
structure OfficeIs (C : Addr) (H : Hp) (p dx d1 d2 m fd : Addr) (rws : List Addr) (kvs : List (List Key × V)) (cvs : List (Key × V)) (fl : List Nat) (o : Km349.Office) : Prop where
  self : H p = some (.ins C dx (fl_Office (.int o.candidates) (.int o.booths) (.ref d1) (.ref d2) (.ref m) (.ref fd)))
  bal : H d1 = some (.dT kvs)
  clo : H d2 = some (.dK cvs)
  mat : MatAt H m rws o.candidates (prefer o.ranks)
  fnd : H fd = some (.lst (iv (nums fl)))
  heard : Heard kvs cvs o
  fnd2 : fl = [] ∨ fl = (best o.candidates o.ranks).2
  fdr : fd ∉ rws
  fdm : fd ≠ m
/-- it owns itself, its two dicts, before with its rows, what was found -/
def OfficeAt (C : Addr) (H : Hp) (p : Addr) (own : List Addr) (o : Km349.Office) : Prop :=
  ∃ (dx d1 d2 m fd : Addr) (rws : List Addr) (kvs : List (List Key × V)) (cvs : List (Key × V)) (fl : List Nat), own = p :: d1 :: d2 :: m :: fd :: rws ∧ OfficeIs C H p dx d1 d2 m fd rws kvs cvs fl o
theorem OfficeIs.stay {C : Addr} {H H' : Hp} {p dx d1 d2 m fd : Addr} {rws : List Addr} {kvs : List (List Key × V)} {cvs : List (Key × V)} {fl : List Nat} {o : Km349.Office} (B : OfficeIs C H p dx d1 d2 m fd rws kvs cvs fl o)
    (h : ∀ x ∈ p :: d1 :: d2 :: m :: fd :: rws, ∀ u, H x = some u → H' x = some u) : OfficeIs C H' p dx d1 d2 m fd rws kvs cvs fl o :=
  ⟨h p (by simp) _ B.self, h d1 (by simp) _ B.bal, h d2 (by simp) _ B.clo, B.mat.stay (fun b hb u e => h b (by
    rcases List.mem_cons.mp hb with rfl | hb
    · simp
    · simp [hb]) u e), h fd (by simp) _ B.fnd, B.heard, B.fnd2, B.fdr, B.fdm⟩
theorem OfficeIs.same {C : Addr} {H H' : Hp} {p dx d1 d2 m fd : Addr} {rws : List Addr} {kvs : List (List Key × V)} {cvs : List (Key × V)} {fl : List Nat} {o : Km349.Office} (B : OfficeIs C H p dx d1 d2 m fd rws kvs cvs fl o) (s : Same H H') :
    OfficeIs C H' p dx d1 d2 m fd rws kvs cvs fl o := B.stay fun x _ u e => s x u e
theorem OfficeAt.stay {C : Addr} {H H' : Hp} {p : Addr} {own : List Addr} {o : Km349.Office} (B : OfficeAt C H p own o) (h : ∀ x ∈ own, ∀ u, H x = some u → H' x = some u) : OfficeAt C H' p own o := by
  obtain ⟨dx, d1, d2, m, fd, rws, kvs, cvs, fl, rfl, B⟩ := B
  exact ⟨dx, d1, d2, m, fd, rws, kvs, cvs, fl, rfl, B.stay h⟩
theorem OfficeIs.trk {C : Addr} {H : Hp} {p dx d1 d2 m fd : Addr} {rws : List Addr} {kvs : List (List Key × V)} {cvs : List (Key × V)} {fl : List Nat} {o : Km349.Office} (B : OfficeIs C H p dx d1 d2 m fd rws kvs cvs fl o) :
    ∀ x ∈ p :: d1 :: d2 :: m :: fd :: rws, ∃ u, H x = some u := by
  intro x hx
  rcases List.mem_cons.mp hx with rfl | hx
  · exact ⟨_, B.self⟩
  rcases List.mem_cons.mp hx with rfl | hx
  · exact ⟨_, B.bal⟩
  rcases List.mem_cons.mp hx with rfl | hx
  · exact ⟨_, B.clo⟩
  rcases List.mem_cons.mp hx with rfl | hx
  · exact ⟨_, B.mat.top⟩
  rcases List.mem_cons.mp hx with rfl | hx
  · exact ⟨_, B.fnd⟩
  obtain ⟨i, hi⟩ := List.mem_iff_getElem?.mp hx
  exact ⟨_, B.mat.row i x hi⟩
theorem OfficeAt.trk {C : Addr} {H : Hp} {p : Addr} {own : List Addr} {o : Km349.Office} (B : OfficeAt C H p own o) : ∀ x ∈ own, ∃ u, H x = some u := by
  obtain ⟨dx, d1, d2, m, fd, rws, kvs, cvs, fl, rfl, B⟩ := B
  exact B.trk
theorem BoothAt.trk {C : Addr} {H : Hp} {p : Addr} {own : List Addr} {b : Km349.Booth} (B : BoothAt C H p own b) : ∀ x ∈ own, ∃ u, H x = some u := by
  obtain ⟨dx, q, rs, rfl, h1, h2, h3⟩ := B
  intro x hx
  rcases List.mem_cons.mp hx with rfl | hx
  · exact ⟨_, h1⟩
  · rcases List.mem_cons.mp hx with rfl | hx
    · exact ⟨_, h2⟩
    · obtain ⟨i, hi⟩ := List.mem_iff_getElem?.mp hx
      obtain ⟨l, _, hl⟩ := paired_get h3 hi
      exact ⟨_, hl.1⟩
def AfterO (C : Addr) (H : Hp) (p : Addr) (own : List Addr) (Q : VK) (o' : Km349.Office) (ans : List Int) : Prop :=
  ∀ (H' : Hp) (own' : List Addr) (r : Addr), OfficeAt C H' p own' o' → (∀ x ∈ own', x ∈ own ∨ H x = none) → (∀ x u, H x = some u → x ∉ own → H' x = some u) → H r = none → r ∉ own' → ans.length ≤ 21 → H' r = some (.lst (iv ans)) → Q (.ref r) H'
theorem AfterO.same {C : Addr} {H H' : Hp} {p : Addr} {own : List Addr} {Q : VK} {o : Km349.Office} {ans : List Int} (k : AfterO C H p own Q o ans) (B : OfficeAt C H p own o) (s : Same H H') {r : Addr} (hr : H r = none) (hn : ans.length ≤ 21) (e : H' r = some (.lst (iv ans))) : Q (.ref r) H' := by
  refine k H' own r (B.stay fun x _ o h => s x o h) (fun x hx => .inl hx) (fun x o h _ => s x o h) hr (fun z => ?_) hn e
  obtain ⟨u, hu⟩ := B.trk r z
  rw [hu] at hr
  cases hr
def spOInit (C : Addr) : Sp := fun vs H Q _ => ∃ (p dx : Addr), vs = [.ref p] ∧ H p = some (.ins C dx []) ∧ ∀ (H' : Hp) (own : List Addr), (∀ x ∈ own, x = p ∨ H x = none) → OfficeAt C H' p own o0 → (∀ b o, H b = some o → b ≠ p → H' b = some o) → Q .non H'
def spOStart (C : Addr) : Sp := fun vs H Q _ => ∃ (p : Addr) (own : List Addr) (o : Km349.Office) (n m : Nat), vs = [.ref p, .int n, .int m] ∧ OfficeAt C H p own o ∧ AfterO C H p own Q (oDoes o (.oStart n m)).1 (told (oDoes o (.oStart n m)).2)
theorem closed0 (b : Nat) : (List.replicate Km349.BOOTHS (none : Option Nat)).getD b none = none := by
  rw [List.getD_eq_getElem?_getD, List.getElem?_replicate]
  split <;> rfl
theorem heard0 {o : Km349.Office} (h1 : o.ballots = []) (h2 : ∀ b, o.close b = none) : Heard [] [] o := by
  refine ⟨List.nodup_nil, (fun k hk => nomatch hk), List.nodup_nil, (fun k hk => nomatch hk), fun b n => ?_, fun b => ?_⟩
  · unfold Km349.Office.knows
    rw [h1]
    rfl
  · rw [h2]
    rfl
theorem put_lt (f : Str) (v : V) {fs : List (Str × V)} {k : Nat} (h : fs.length ≤ k) : (putF f v fs).length ≤ k + 1 := Nat.le_trans (put_len f v fs) (Nat.succ_le_succ h)
section
variable {P : Program} {w : World} {K : PySem.W.Frag} {mg : Str → Option Value} {base : Heap} {a : Ad}
theorem ok_Office_init (T : Txt K mg a) : FnOk P w K mg base CX0 1 a.f_Office_init a.d_Office_init ["self"] (spOInit a.c_Office) := by
  refine T.F_Office_init.ok sc_Office_init (fun vs H Q E h => ?_) (fun cdv A outer s H vs Q E hr h => ?_)
  · obtain ⟨p, dx, rfl, _⟩ := h
    rfl
  · obtain ⟨p, dx, rfl, hp, k⟩ := h
    refine ⟨_, (pss_cons (ps_fld (pv 0) pe_int rfl)
      (pss_cons (ps_fld (pv 0) pe_int rfl)
      (pss_cons (ps_fld (pv 0) pe_dnewT rfl)
      (pss_cons (ps_fld (pv 0) pe_dnewK rfl)
      (pss_cons (ps_fld (pv 0) (pe_lst pa_nil) rfl)
      (pss_one (ps_fld (pv 0) (pe_lst pa_nil) rfl))))))), ?_⟩
    have l0 : ([] : List (Str × V)).length ≤ 0 := Nat.le_refl _
    have l1 := put_lt "candidates" (.int 0) l0
    have l2 := put_lt "booths" (.int 0) l1
    refine ⟨_, rfl, p, a.c_Office, dx, _, rfl, hp, T.cl_Office, T.n_Office_candidates, (by omega), ?_⟩
    refine ⟨_, rfl, p, a.c_Office, dx, _, rfl, upd_same, T.cl_Office, T.n_Office_booths, (by omega), ?_⟩
    generalize hH2 : upd (upd H p _) p _ = H2
    have p2 : H2 p = some (.ins a.c_Office dx (putF "booths" (.int 0) (putF "candidates" (.int 0) []))) := by rw [← hH2]; exact upd_same
    have k2 : ∀ b o, H b = some o → b ≠ p → H2 b = some o := fun b o e hb => by rw [← hH2, upd_ne hb, upd_ne hb]; exact e
    clear hH2
    intro d1 h1
    have np1 : p ≠ d1 := ne_of_none p2 h1
    have l3 := put_lt "ballots" (.ref d1) l2
    refine ⟨_, rfl, p, a.c_Office, dx, _, rfl, by rw [upd_ne np1]; exact p2, T.cl_Office, T.n_Office_ballots, (by omega), ?_⟩
    generalize hH3 : upd (upd H2 d1 _) p _ = H3
    have p3 : H3 p = some (.ins a.c_Office dx (putF "ballots" (.ref d1) (putF "booths" (.int 0) (putF "candidates" (.int 0) [])))) := by rw [← hH3]; exact upd_same
    have g1 : H3 d1 = some (.dT []) := by rw [← hH3, upd_ne np1.symm, upd_same]
    have k3 : ∀ b o, H b = some o → b ≠ p → H3 b = some o := fun b o e hb => by rw [← hH3, upd_ne hb, upd_ne (ne_of_none (k2 b o e hb) h1)]; exact k2 b o e hb
    have f1 : H d1 = none := by
      cases q : H d1 with
      | none => rfl
      | some u => rw [k2 d1 u q np1.symm] at h1; cases h1
    clear hH3
    intro d2 h2
    have np2 : p ≠ d2 := ne_of_none p3 h2
    have n12 : d1 ≠ d2 := ne_of_none g1 h2
    have l4 := put_lt "closings" (.ref d2) l3
    refine ⟨_, rfl, p, a.c_Office, dx, _, rfl, by rw [upd_ne np2]; exact p3, T.cl_Office, T.n_Office_closings, (by omega), ?_⟩
    generalize hH4 : upd (upd H3 d2 _) p _ = H4
    have p4 : H4 p = some (.ins a.c_Office dx (putF "closings" (.ref d2) (putF "ballots" (.ref d1) (putF "booths" (.int 0) (putF "candidates" (.int 0) []))))) := by rw [← hH4]; exact upd_same
    have g2 : H4 d2 = some (.dK []) := by rw [← hH4, upd_ne np2.symm, upd_same]
    have g12 : H4 d1 = some (.dT []) := by rw [← hH4, upd_ne np1.symm, upd_ne n12]; exact g1
    have k4 : ∀ b o, H b = some o → b ≠ p → H4 b = some o := fun b o e hb => by rw [← hH4, upd_ne hb, upd_ne (ne_of_none (k3 b o e hb) h2)]; exact k3 b o e hb
    have f2 : H d2 = none := by
      cases q : H d2 with
      | none => rfl
      | some u => rw [k3 d2 u q np2.symm] at h2; cases h2
    clear hH4
    refine ⟨(by show 0 ≤ sizeLine; decide), fun m hm => ?_⟩
    have npm : p ≠ m := ne_of_none p4 hm
    have l5 := put_lt "before" (.ref m) l4
    refine ⟨_, rfl, p, a.c_Office, dx, _, rfl, by rw [upd_ne npm]; exact p4, T.cl_Office, T.n_Office_before, (by omega), ?_⟩
    generalize hH5 : upd (upd H4 m _) p _ = H5
    have p5 : H5 p = some (.ins a.c_Office dx (putF "before" (.ref m) (putF "closings" (.ref d2) (putF "ballots" (.ref d1) (putF "booths" (.int 0) (putF "candidates" (.int 0) [])))))) := by rw [← hH5]; exact upd_same
    have gm : H5 m = some (.lst []) := by rw [← hH5, upd_ne npm.symm, upd_same]
    have k5' : ∀ b o, H4 b = some o → b ≠ p → H5 b = some o := fun b o e hb => by rw [← hH5, upd_ne hb, upd_ne (ne_of_none e hm)]; exact e
    have k5 : ∀ b o, H b = some o → b ≠ p → H5 b = some o := fun b o e hb => k5' b o (k4 b o e hb) hb
    have fm : H m = none := by
      cases q : H m with
      | none => rfl
      | some u => rw [k4 m u q npm.symm] at hm; cases hm
    clear hH5
    refine ⟨(by show 0 ≤ sizeLine; decide), fun fd hf => ?_⟩
    have npf : p ≠ fd := ne_of_none p5 hf
    refine ⟨_, rfl, p, a.c_Office, dx, _, rfl, by rw [upd_ne npf]; exact p5, T.cl_Office, T.n_Office_found, (by omega), ?_⟩
    have ff : H fd = none := by
      cases q : H fd with
      | none => rfl
      | some u => rw [k5 fd u q npf.symm] at hf; cases hf
    have nm : fd ≠ m := fun e => by rw [e, gm] at hf; cases hf
    have hold : ∀ b o, H5 b = some o → b ≠ p → ∀ u v, (upd (upd H5 fd u) p v) b = some o := fun b o e hb u v => by rw [upd_ne hb, upd_ne (ne_of_none e hf)]; exact e
    refine k _ [p, d1, d2, m, fd] (fun x hx => ?_) ⟨dx, d1, d2, m, fd, [], [], [], [], rfl, ?_, ?_, ?_, ⟨?_, rfl, List.nodup_nil, (by simp), fun x r e => by cases e⟩, ?_, heard0 rfl fun b => rfl, .inl rfl, (by simp), nm⟩ fun b o e hb => hold b o (k5 b o e hb) hb _ _
    · rcases List.mem_cons.mp hx with rfl | hx
      · exact .inl rfl
      rcases List.mem_cons.mp hx with rfl | hx
      · exact .inr f1
      rcases List.mem_cons.mp hx with rfl | hx
      · exact .inr f2
      rcases List.mem_cons.mp hx with rfl | hx
      · exact .inr fm
      have e : x = fd := by simpa using hx
      subst e
      exact .inr ff
    · rw [upd_same, in_Office]
      rfl
    · exact hold d1 _ (k5' d1 _ g12 np1.symm) np1.symm _ _
    · exact hold d2 _ (k5' d2 _ g2 np2.symm) np2.symm _ _
    · exact hold m _ gm npm.symm _ _
    · rw [upd_ne npf.symm, upd_same]
      rfl
theorem ok_Office_start (T : Txt K mg a) : FnOk P w K mg base CX0 2 a.f_Office_start a.d_Office_start ["self", "candidates", "booths"] (spOStart a.c_Office) := by
  refine T.F_Office_start.ok sc_Office_start (fun vs H Q E h => ?_) (fun cdv A outer s H vs Q E hr h => ?_)
  · obtain ⟨p, own, o, n, m, rfl, _⟩ := h
    rfl
  · obtain ⟨p, own, o, n, mm, rfl, B, k⟩ := h
    have B0 := B
    obtain ⟨dx, d1, d2, m, fd, rws, kvs, cvs, fl, rfl, B⟩ := B
    have hp := B.self
    have bad : (okCandidates n = false ∨ mm = 0 ∨ Km349.BOOTHS < mm) → ∀ r, H r = none → Q (.ref r) (upd H r (.lst [.int (-22)])) := fun c r hr => by
      have e : oDoes o (.oStart n mm) = (o, only (-22)) := by
        unfold oDoes
        exact if_pos c
      rw [e] at k
      exact AfterO.same k B0 (Same.new hr) hr (by show 1 ≤ 21; decide) upd_same
    refine ⟨_, (pss_cons (ps_if (PW.pt (pw_or (pt_not (pt_val (pe_call (ok_candidates_fit T) (hr.mono (by decide)) rfl T.m_candidates_fit T.F_candidates_fit.kp T.b_candidates_fit .nil pass0 (pa_cons (pv 1) pa_nil)))) (pw_or1 (pt_not (pt_chain op_le op_le pe_int (pv 2) (pgi rfl T.g_MOST_BOOTHS)))))) (pss_one (ps_ret (pe_lst (pa_cons (pgi rfl T.g_WRONG) pa_nil)))) pss_nil)
      (pss_cons (ps_fld (pv 0) (pv 1) rfl)
      (pss_cons (ps_fld (pv 0) (pv 2) rfl)
      (pss_cons (ps_fld (pv 0) pe_dnewT rfl)
      (pss_cons (ps_fld (pv 0) pe_dnewK rfl)
      (pss_cons (ps_fld (pv 0) (pe_call (ok_before_without_ballots T) (hr.mono (by decide)) rfl T.m_before_without_ballots T.F_before_without_ballots.kp T.b_before_without_ballots .nil pass0 (pa_cons (pv 1) pa_nil)) rfl)
      (pss_cons (ps_fld (pv 0) (pe_lst pa_nil) rfl)
      (pss_one (ps_ret (pe_lst (pa_cons pe_int pa_nil))))))))))), ?_⟩
    refine ⟨_, rfl, n, rfl, _, rfl, ?_⟩
    cases hc : okCandidates n with
    | false =>
      refine iteT ?_
      exact ⟨(by show 1 ≤ sizeLine; decide), fun r hr => bad (.inl hc) r hr⟩
    | true =>
      refine iteF ?_
      refine ⟨_, rfl, _, _, rfl, rfl, _, rfl, ?_⟩
      refine ite2 (fun g1 => ?_) (fun g1 => ?_)
      · have g1' := of_decide_eq_true g1
        refine ⟨_, _, rfl, rfl, _, rfl, ?_⟩
        cases g2 : decide ((mm : Int) ≤ 8) with
        | false =>
          refine iteT ?_
          have := of_decide_eq_false g2
          exact ⟨(by show 1 ≤ sizeLine; decide), fun r hr => bad (.inr (.inr (by unfold Km349.BOOTHS; omega))) r hr⟩
        | true =>
          refine iteF ?_
          have g2' := of_decide_eq_true g2
          have e : oDoes o (.oStart n mm) = (Km349.office0 n mm, only 0) := by
            unfold oDoes
            refine if_neg ?_
            rintro (z | z | z)
            · rw [hc] at z
              cases z
            · omega
            · unfold Km349.BOOTHS at z
              omega
          have hn8 : n ≤ 8 := by
            unfold okCandidates at hc
            rw [Bool.and_eq_true, decide_eq_true_eq, decide_eq_true_eq] at hc
            exact hc.2
          rw [e] at k
          refine ⟨_, rfl, _, rfl, p, a.c_Office, dx, _, rfl, hp, T.cl_Office, T.n_Office_candidates, (by show 6 < 1000; decide), ?_⟩
          rw [pu_Office_candidates]
          refine ⟨_, rfl, _, rfl, p, a.c_Office, dx, _, rfl, upd_same, T.cl_Office, T.n_Office_booths, (by show 6 < 1000; decide), ?_⟩
          rw [pu_Office_booths]
          generalize hH2 : upd (upd H p _) p _ = H2
          have p2 : H2 p = some (.ins a.c_Office dx (fl_Office (.int n) (.int mm) (.ref d1) (.ref d2) (.ref m) (.ref fd))) := by rw [← hH2]; exact upd_same
          have k2 : ∀ b o, H b = some o → b ≠ p → H2 b = some o := fun b o e hb => by rw [← hH2, upd_ne hb, upd_ne hb]; exact e
          clear hH2
          intro e1 h1
          have np1 : p ≠ e1 := ne_of_none p2 h1
          refine ⟨_, rfl, p, a.c_Office, dx, _, rfl, by rw [upd_ne np1]; exact p2, T.cl_Office, T.n_Office_ballots, (by show 6 < 1000; decide), ?_⟩
          rw [pu_Office_ballots]
          generalize hH3 : upd (upd H2 e1 _) p _ = H3
          have p3 : H3 p = some (.ins a.c_Office dx (fl_Office (.int n) (.int mm) (.ref e1) (.ref d2) (.ref m) (.ref fd))) := by rw [← hH3]; exact upd_same
          have g1e : H3 e1 = some (.dT []) := by rw [← hH3, upd_ne np1.symm, upd_same]
          have k3 : ∀ b o, H b = some o → b ≠ p → H3 b = some o := fun b o e hb => by rw [← hH3, upd_ne hb, upd_ne (ne_of_none (k2 b o e hb) h1)]; exact k2 b o e hb
          have f1 : H e1 = none := by
            cases q : H e1 with
            | none => rfl
            | some u => rw [k2 e1 u q np1.symm] at h1; cases h1
          clear hH3
          intro e2 h2
          have np2 : p ≠ e2 := ne_of_none p3 h2
          have n12 : e1 ≠ e2 := ne_of_none g1e h2
          refine ⟨_, rfl, p, a.c_Office, dx, _, rfl, by rw [upd_ne np2]; exact p3, T.cl_Office, T.n_Office_closings, (by show 6 < 1000; decide), ?_⟩
          rw [pu_Office_closings]
          generalize hH4 : upd (upd H3 e2 _) p _ = H4
          have p4 : H4 p = some (.ins a.c_Office dx (fl_Office (.int n) (.int mm) (.ref e1) (.ref e2) (.ref m) (.ref fd))) := by rw [← hH4]; exact upd_same
          have g2e : H4 e2 = some (.dK []) := by rw [← hH4, upd_ne np2.symm, upd_same]
          have g12 : H4 e1 = some (.dT []) := by rw [← hH4, upd_ne np1.symm, upd_ne n12]; exact g1e
          have k4 : ∀ b o, H b = some o → b ≠ p → H4 b = some o := fun b o e hb => by rw [← hH4, upd_ne hb, upd_ne (ne_of_none (k3 b o e hb) h2)]; exact k3 b o e hb
          have f2 : H e2 = none := by
            cases q : H e2 with
            | none => rfl
            | some u => rw [k3 e2 u q np2.symm] at h2; cases h2
          clear hH4
          refine ⟨_, rfl, n, rfl, hn8, fun H5 m5 rws5 fm5 fr5 s5 M5 => ?_⟩
          have fz : ∀ x, H4 x = none → x ≠ p → H x = none := fun x hx hxp => by
            cases q : H x with
            | none => rfl
            | some u => rw [k4 x u q hxp] at hx; cases hx
          have npm : p ≠ m5 := ne_of_none p4 fm5
          have npr : ∀ r ∈ rws5, p ≠ r := fun r hr => ne_of_none p4 (fr5 r hr)
          refine ⟨_, rfl, p, a.c_Office, dx, _, rfl, s5 _ _ p4, T.cl_Office, T.n_Office_before, (by show 6 < 1000; decide), ?_⟩
          rw [pu_Office_before]
          generalize hH6 : upd H5 p _ = H6
          have p6 : H6 p = some (.ins a.c_Office dx (fl_Office (.int n) (.int mm) (.ref e1) (.ref e2) (.ref m5) (.ref fd))) := by rw [← hH6]; exact upd_same
          have k6' : ∀ b o, H5 b = some o → b ≠ p → H6 b = some o := fun b o e hb => by rw [← hH6, upd_ne hb]; exact e
          clear hH6
          have M6 : MatAt H6 m5 rws5 n (fun _ _ => 0) := M5.stay fun b hb o e => k6' b o e (fun z => by
            rcases List.mem_cons.mp hb with y | y
            · exact npm (z ▸ y)
            · exact npr b y z.symm)
          refine ⟨(by show 0 ≤ sizeLine; decide), fun f6 hf => ?_⟩
          have npf : p ≠ f6 := ne_of_none p6 hf
          refine ⟨_, rfl, p, a.c_Office, dx, _, rfl, by rw [upd_ne npf]; exact p6, T.cl_Office, T.n_Office_found, (by show 6 < 1000; decide), ?_⟩
          rw [pu_Office_found]
          generalize hH7 : upd (upd H6 f6 _) p _ = H7
          have p7 : H7 p = some (.ins a.c_Office dx (fl_Office (.int n) (.int mm) (.ref e1) (.ref e2) (.ref m5) (.ref f6))) := by rw [← hH7]; exact upd_same
          have gf : H7 f6 = some (.lst []) := by rw [← hH7, upd_ne npf.symm, upd_same]
          have k7' : ∀ b o, H6 b = some o → b ≠ p → H7 b = some o := fun b o e hb => by rw [← hH7, upd_ne hb, upd_ne (ne_of_none e hf)]; exact e
          clear hH7
          have k7 : ∀ b o, H4 b = some o → b ≠ p → H7 b = some o := fun b o e hb => k7' b o (k6' b o (s5 b o e) hb) hb
          have M7 : MatAt H7 m5 rws5 n (fun _ _ => 0) := M6.stay fun b hb o e => k7' b o e (fun z => by
            rcases List.mem_cons.mp hb with y | y
            · exact npm (z ▸ y)
            · exact npr b y z.symm)
          have ff : H f6 = none := by
            cases q : H f6 with
            | none => rfl
            | some u => rw [k6' f6 u (s5 _ _ (k4 f6 u q npf.symm)) npf.symm] at hf; cases hf
          have fdm : f6 ≠ m5 := fun z => by rw [z, M6.top] at hf; cases hf
          have fdr : f6 ∉ rws5 := fun z => by
            obtain ⟨i, hi⟩ := List.mem_iff_getElem?.mp z
            rw [M6.row i f6 hi] at hf
            cases hf
          refine ⟨(by show 1 ≤ sizeLine; decide), fun r hr => ?_⟩
          have s8 := Same.new (o := .lst [.int 0]) hr
          have B7 : OfficeIs a.c_Office H7 p dx e1 e2 m5 f6 rws5 [] [] [] (Km349.office0 n mm) := by
            refine ⟨p7, k7 _ _ g12 np1.symm, k7 _ _ g2e np2.symm, M7, gf, heard0 rfl fun b => closed0 b, .inl rfl, fdr, fdm⟩
          have rn : r ∉ p :: e1 :: e2 :: m5 :: f6 :: rws5 := fun z => by
            obtain ⟨u, hu⟩ := B7.trk r z
            rw [hu] at hr
            cases hr
          have hrp : r ≠ p := fun z => rn (by simp [z])
          have hrn : H r = none := by
            cases q : H r with
            | none => rfl
            | some u => rw [k7 r u (k4 r u q hrp) hrp] at hr; cases hr
          refine k _ (p :: e1 :: e2 :: m5 :: f6 :: rws5) r ⟨dx, e1, e2, m5, f6, rws5, [], [], [], rfl, B7.same s8⟩ (fun x hx => ?_) (fun x u e hx => ?_) hrn rn (by show 1 ≤ 21; decide) upd_same
          · rcases List.mem_cons.mp hx with rfl | hx
            · exact .inl List.mem_cons_self
            rcases List.mem_cons.mp hx with rfl | hx
            · exact .inr f1
            rcases List.mem_cons.mp hx with rfl | hx
            · exact .inr f2
            rcases List.mem_cons.mp hx with rfl | hx
            · exact .inr (fz _ fm5 npm.symm)
            rcases List.mem_cons.mp hx with rfl | hx
            · exact .inr ff
            · exact .inr (fz _ (fr5 x hx) (npr x hx).symm)
          · have nx : x ≠ p := fun z => hx (by simp [z])
            exact s8 _ _ (k7 x u (k4 x u e nx) nx)
      · have g1' : ¬ (1 : Int) ≤ mm := fun z => g1 (decide_eq_true z)
        refine ⟨_, rfl, ?_⟩
        refine iteT ?_
        exact ⟨(by show 1 ≤ sizeLine; decide), fun r hr => bad (.inr (.inl (by omega))) r hr⟩
end
end My
/-! The office: what it hears, lacks, tells. -/
namespace My
open PySem PySem.Spec PyProof.Rows L2
open Km349 (okCandidates bDoes oDoes only prefer best against isOrder eight)
open Km349Neutral (told S step)
open Of (Good)
def firstNot (o : Km349.Office) (b n : Nat) : Nat := (o.lacks b).getD n
def spHClose (C : Addr) : Sp := fun vs H Q _ => ∃ (p : Addr) (own : List Addr) (o : Km349.Office) (b n : Nat), vs = [.ref p, .int b, .int n] ∧ OfficeAt C H p own o ∧ Good o ∧ b < 8 ∧
  ((o.close b).isSome = true → AfterO C H p own Q o [0]) ∧ ((o.close b).isSome = false → AfterO C H p own Q { o with closed := o.closed.set b (some n) } [1])
def spHBallot (C : Addr) : Sp := fun vs H Q _ => ∃ (p t r : Addr) (own : List Addr) (o : Km349.Office) (x : Km349.Ballot), vs = [.ref p, .ref t, .ref r] ∧ OfficeAt C H p own o ∧ Good o ∧ x.booth < 8 ∧ x.number < 4096 ∧ x.ranks.length = 8 ∧
  H t = some (.tup [.int x.booth, .int x.number]) ∧ H r = some (.lst (iv (nums x.ranks))) ∧ r ∉ own ∧
  (o.knows x.booth x.number = true → AfterO C H p own Q o [0]) ∧ (o.knows x.booth x.number = false → AfterO C H p own Q { o with ballots := Km349.insert x o.ballots } [1])
def spFirst (C : Addr) : Sp := fun vs H Q _ => ∃ (p : Addr) (own : List Addr) (o : Km349.Office) (b n : Nat), vs = [.ref p, .int b] ∧ OfficeAt C H p own o ∧ o.close b = some n ∧ ∀ H', Same H H' → Q (.int (firstNot o b n : Nat)) H'
def whole (o : Km349.Office) (b : Nat) : Bool := (o.close b).isSome && (o.lacks b).isNone
def spWhole (C : Addr) : Sp := fun vs H Q _ => ∃ (p : Addr) (own : List Addr) (o : Km349.Office) (b : Nat), vs = [.ref p, .int b] ∧ OfficeAt C H p own o ∧ ∀ H', Same H H' → Q (.bl (whole o b)) H'
def spFinal (C : Addr) : Sp := fun vs H Q _ => ∃ (p : Addr) (own : List Addr) (o : Km349.Office), vs = [.ref p] ∧ OfficeAt C H p own o ∧ o.booths ≤ 8 ∧ ∀ H', Same H H' → Q (.bl o.final) H'
def spOLacks (C : Addr) : Sp := fun vs H Q _ => ∃ (p : Addr) (own : List Addr) (o : Km349.Office) (b : Nat), vs = [.ref p, .int b] ∧ OfficeAt C H p own o ∧ AfterO C H p own Q (oDoes o (.oLacks b)).1 (told (oDoes o (.oLacks b)).2)
def spOPrefer (C : Addr) : Sp := fun vs H Q _ => ∃ (p : Addr) (own : List Addr) (o : Km349.Office) (x y : Nat), vs = [.ref p, .int x, .int y] ∧ OfficeAt C H p own o ∧ AfterO C H p own Q (oDoes o (.oPrefer x y)).1 (told (oDoes o (.oPrefer x y)).2)
def spOOrder (C : Addr) : Sp := fun vs H Q _ => ∃ (p : Addr) (own : List Addr) (o : Km349.Office), vs = [.ref p] ∧ OfficeAt C H p own o ∧ Good o ∧ AfterO C H p own Q (oDoes o .oOrder).1 (told (oDoes o .oOrder).2)
def spOAgainst (K : PySem.W.Frag) (C : Addr) : Sp := fun vs H Q _ => ∃ (p r : Addr) (own : List Addr) (o : Km349.Office) (l : List Nat), vs = [.ref p, .ref r] ∧ OfficeAt C H p own o ∧ Good o ∧ SqL K H r (iv (nums l)) ∧ l.length = 8 ∧
  AfterO C H p own Q (oDoes o (.oAgainst l)).1 (told (oDoes o (.oAgainst l)).2)
def spOHeard (K : PySem.W.Frag) (C : Addr) : Sp := fun vs H Q _ => ∃ (p r : Addr) (own : List Addr) (o : Km349.Office) (l : List Nat), vs = [.ref p, .ref r] ∧ OfficeAt C H p own o ∧ Good o ∧ SqL K H r (iv (nums l)) ∧ l.length = 20 ∧ (∀ z ∈ l, z < 256) ∧
  AfterO C H p own Q (oDoes o (.oHeard l)).1 (told (oDoes o (.oHeard l)).2)
theorem firstNot_le {o : Km349.Office} {b n : Nat} (hc : o.close b = some n) : firstNot o b n = n ↔ (o.lacks b).isNone = true := by
  unfold firstNot
  cases q : o.lacks b with
  | none => exact ⟨fun _ => rfl, fun _ => rfl⟩
  | some k =>
    have hk : k < n := by
      unfold Km349.Office.lacks at q
      rw [hc] at q
      exact List.mem_range.mp (List.mem_of_find?_eq_some q)
    refine ⟨fun e => ?_, fun e => by cases e⟩
    have e : k = n := e
    omega
section
variable {P : Program} {w : World} {K : PySem.W.Frag} {mg : Str → Option Value} {base : Heap} {a : Ad}
theorem ok_Office_heard_closing (T : Txt K mg a) : FnOk P w K mg base CX0 1 a.f_Office_heard_closing a.d_Office_heard_closing ["self", "booth", "ballots"] (spHClose a.c_Office) := by
  refine T.F_Office_heard_closing.ok sc_Office_heard_closing (fun vs H Q E h => ?_) (fun cdv A outer s H vs Q E hr h => ?_)
  · obtain ⟨p, own, o, b, n, rfl, _⟩ := h
    rfl
  · obtain ⟨p, own, o, b, n, rfl, B, G, hb, k0, k1⟩ := h
    have B0 := B
    obtain ⟨dx, d1, d2, m, fd, rws, kvs, cvs, fl, rfl, B⟩ := B
    refine ⟨_, (pss_cons (ps_if (pt_cmp (pc_din (hu_of hr) (pv 1) (pe_fld (pv 0) rfl))) (pss_one (ps_ret (pe_lst (pa_cons pe_int pa_nil)))) pss_nil)
      (pss_cons (ps_dput (hu_of hr) (pe_fld (pv 0) rfl) (pv 1) (pv 2) rfl)
      (pss_one (ps_ret (pe_lst (pa_cons pe_int pa_nil)))))), ?_⟩
    refine ⟨_, rfl, _, rfl, p, a.c_Office, dx, _, _, rfl, B.self, T.cl_Office, T.n_Office_closings, lk_Office_closings _ _ _ _ _ _, d2, _, rfl, DGet.k (k := Sum.inl (b : Int)) B.clo, _, rfl, ?_⟩
    rw [B.heard.close b]
    cases hc : o.close b with
    | some n' =>
      refine iteT ?_
      rw [hc] at k0
      exact ⟨(by show 1 ≤ sizeLine; decide), fun r hr => AfterO.same (k0 rfl) B0 (Same.new hr) hr (by show 1 ≤ 21; decide) upd_same⟩
    | none =>
      refine iteF ?_
      rw [hc] at k1
      have hv : valV cvs (Sum.inl (b : Int) : Key) = none := by rw [B.heard.close b, hc]; rfl
      refine ⟨_, rfl, _, rfl, p, a.c_Office, dx, _, _, rfl, B.self, T.cl_Office, T.n_Office_closings, lk_Office_closings _ _ _ _ _ _, _, rfl, d2, _, rfl, DPut.k (k := Sum.inl (b : Int)) B.clo B.heard.clen, ?_⟩
      refine ⟨(by show 1 ≤ sizeLine; decide), fun r hr => ?_⟩
      have nd : ∀ x u, H x = some u → x ≠ d2 → (upd H d2 (.dK (putK cvs (Sum.inl (b : Int)) (.int n)))) x = some u := fun x u e hx => by rw [upd_ne hx]; exact e
      have np : p ≠ d2 := ne_of B.self B.clo (by intro z; cases z)
      have n1 : d1 ≠ d2 := ne_of B.bal B.clo (by intro z; cases z)
      have nm : m ≠ d2 := ne_of B.mat.top B.clo (by intro z; cases z)
      have nf : fd ≠ d2 := ne_of B.fnd B.clo (by intro z; cases z)
      have nr : ∀ i x, rws[i]? = some x → x ≠ d2 := fun i x e => ne_of (B.mat.row i x e) B.clo (by intro z; cases z)
      have B1 : OfficeIs a.c_Office (upd H d2 (.dK (putK cvs (Sum.inl (b : Int)) (.int n)))) p dx d1 d2 m fd rws kvs (putK cvs (Sum.inl (b : Int)) (.int n)) fl { o with closed := o.closed.set b (some n) } := by
        refine ⟨nd _ _ B.self np, nd _ _ B.bal n1, upd_same, ⟨nd _ _ B.mat.top nm, B.mat.len, B.mat.nd, B.mat.out, fun i x e => nd _ _ (B.mat.row i x e) (nr i x e)⟩, nd _ _ B.fnd nf, ⟨B.heard.knd, B.heard.kin, nd_putK _ B.heard.cnd hv, fun k hk => ?_, B.heard.knows, fun c => ?_⟩, B.fnd2, B.fdr, B.fdm⟩
        · rw [putK_new _ hv, List.map_append] at hk
          rcases List.mem_append.mp hk with z | z
          · exact B.heard.cin k z
          · have e : k = Sum.inl (b : Int) := by simpa using z
            exact ⟨b, e, hb⟩
        · rw [valV_put, Of.close_set G hb, B.heard.close c]
          by_cases e : c = b
          · subst e
            rw [if_pos rfl, if_pos rfl]
            rfl
          · have : ¬ (Sum.inl (c : Int) : Key) = Sum.inl (b : Int) := fun z => e (by have := Sum.inl.inj z; omega)
            rw [if_neg this, if_neg e]
      have hrd : r ≠ d2 := fun z => by rw [z, upd_same] at hr; cases hr
      have hrn : H r = none := by rw [upd_ne hrd] at hr; exact hr
      have s8 := Same.new (o := .lst [.int 1]) hr
      refine k1 rfl _ (p :: d1 :: d2 :: m :: fd :: rws) r ⟨dx, d1, d2, m, fd, rws, _, _, _, rfl, B1.same s8⟩ (fun x hx => .inl hx) (fun x u e hx => ?_) hrn (fun z => ?_) (by show 1 ≤ 21; decide) upd_same
      · have hx2 : x ≠ d2 := fun z => hx (by simp [z])
        exact s8 _ _ (nd x u e hx2)
      · obtain ⟨u, hu⟩ := B.trk r z
        rw [hu] at hrn
        cases hrn
theorem ok_Office_heard_ballot (T : Txt K mg a) : FnOk P w K mg base CX0 2 a.f_Office_heard_ballot a.d_Office_heard_ballot ["self", "whose", "ranks"] (spHBallot a.c_Office) := by
  refine T.F_Office_heard_ballot.ok sc_Office_heard_ballot (fun vs H Q E h => ?_) (fun cdv A outer s H vs Q E hr h => ?_)
  · obtain ⟨p, t, r, own, o, x, rfl, _⟩ := h
    rfl
  · obtain ⟨p, t, r, own, o, x, rfl, B, G, hb, hn, hl, ht, hr0, hro, k0, k1⟩ := h
    have B0 := B
    obtain ⟨dx, d1, d2, m, fd, rws, kvs, cvs, fl, rfl, B⟩ := B
    refine ⟨_, (pss_cons (ps_if (pt_cmp (pc_din (hu_of hr) (pv 1) (pe_fld (pv 0) rfl))) (pss_one (ps_ret (pe_lst (pa_cons pe_int pa_nil)))) pss_nil)
      (pss_cons (ps_dput (hu_of hr) (pe_fld (pv 0) rfl) (pv 1) (pv 2) rfl)
      (pss_cons (ps_expr (pe_call (ok_count_ballot T) (hr.mono (by decide)) rfl T.m_count_ballot T.F_count_ballot.kp T.b_count_ballot .nil pass0 (pa_cons (pe_fld (pv 0) rfl) (pa_cons (pv 2) pa_nil))))
      (pss_cons (ps_fld (pv 0) (pe_lst pa_nil) rfl)
      (pss_one (ps_ret (pe_lst (pa_cons pe_int pa_nil)))))))), ?_⟩
    refine ⟨_, rfl, _, rfl, p, a.c_Office, dx, _, _, rfl, B.self, T.cl_Office, T.n_Office_ballots, lk_Office_ballots _ _ _ _ _ _, d1, _, rfl, DGet.t (k := kT x.booth x.number) B.bal ht, _, rfl, ?_⟩
    rw [B.heard.knows]
    cases hc : o.knows x.booth x.number with
    | true =>
      refine iteT ?_
      exact ⟨(by show 1 ≤ sizeLine; decide), fun r hr => AfterO.same (k0 hc) B0 (Same.new hr) hr (by show 1 ≤ 21; decide) upd_same⟩
    | false =>
      refine iteF ?_
      have hv : valV kvs (kT x.booth x.number) = none := by
        have := B.heard.knows x.booth x.number
        rw [hc] at this
        cases q : valV kvs (kT x.booth x.number) with
        | none => rfl
        | some v => rw [q] at this; cases this
      refine ⟨_, rfl, _, rfl, p, a.c_Office, dx, _, _, rfl, B.self, T.cl_Office, T.n_Office_ballots, lk_Office_ballots _ _ _ _ _ _, _, rfl, d1, _, rfl, DPut.t (k := kT x.booth x.number) B.bal ht B.heard.klen, ?_⟩
      generalize hH1 : upd H d1 (.dT (putK kvs (kT x.booth x.number) (.ref r))) = H1
      have nd : ∀ y u, H y = some u → y ≠ d1 → H1 y = some u := fun y u e hy => by rw [← hH1, upd_ne hy]; exact e
      have np : p ≠ d1 := ne_of B.self B.bal (by intro z; cases z)
      have n2 : d2 ≠ d1 := ne_of B.clo B.bal (by intro z; cases z)
      have nm : m ≠ d1 := ne_of B.mat.top B.bal (by intro z; cases z)
      have nf : fd ≠ d1 := ne_of B.fnd B.bal (by intro z; cases z)
      have nr : ∀ i y, rws[i]? = some y → y ≠ d1 := fun i y e => ne_of (B.mat.row i y e) B.bal (by intro z; cases z)
      have nrr : r ≠ d1 := ne_of hr0 B.bal (by intro z; cases z)
      have p1 := nd _ _ B.self np
      have b1 : H1 d1 = some (.dT (putK kvs (kT x.booth x.number) (.ref r))) := by rw [← hH1]; exact upd_same
      have M1 : MatAt H1 m rws o.candidates (prefer o.ranks) := ⟨nd _ _ B.mat.top nm, B.mat.len, B.mat.nd, B.mat.out, fun i y e => nd _ _ (B.mat.row i y e) (nr i y e)⟩
      have hrw : r ∉ rws := fun z => hro (by simp [z])
      refine ⟨_, rfl, p, a.c_Office, dx, _, _, rfl, p1, T.cl_Office, T.n_Office_before, lk_Office_before _ _ _ _ _ _, _, rfl, m, r, rws, _, _, x.ranks, rfl, M1, nd _ _ hr0 nrr, hrw, (by rw [hl]; exact G.hi), G.hi, fun H2 M2 k2 => ?_⟩
      have ow : ∀ y ∈ rws, ∃ i, rws[i]? = some y := fun y hy => List.mem_iff_getElem?.mp hy
      have pr : p ∉ rws := fun z => by
        obtain ⟨i, hi⟩ := ow p z
        have := B.mat.row i p hi
        rw [B.self] at this
        cases this
      have d1r : d1 ∉ rws := fun z => by
        obtain ⟨i, hi⟩ := ow d1 z
        exact nr i d1 hi rfl
      have d2r : d2 ∉ rws := fun z => by
        obtain ⟨i, hi⟩ := ow d2 z
        have := B.mat.row i d2 hi
        rw [B.clo] at this
        cases this
      have p2 := k2 _ _ p1 pr
      refine ⟨(by show 0 ≤ sizeLine; decide), fun f3 hf => ?_⟩
      have npf : p ≠ f3 := ne_of_none p2 hf
      refine ⟨_, rfl, p, a.c_Office, dx, _, rfl, by rw [upd_ne npf]; exact p2, T.cl_Office, T.n_Office_found, (by show 6 < 1000; decide), ?_⟩
      rw [pu_Office_found]
      generalize hH4 : upd (upd H2 f3 _) p _ = H4
      have p4 : H4 p = some (.ins a.c_Office dx (fl_Office (.int o.candidates) (.int o.booths) (.ref d1) (.ref d2) (.ref m) (.ref f3))) := by rw [← hH4]; exact upd_same
      have gf : H4 f3 = some (.lst []) := by rw [← hH4, upd_ne npf.symm, upd_same]
      have k4 : ∀ b u, H2 b = some u → b ≠ p → H4 b = some u := fun b u e hb => by rw [← hH4, upd_ne hb, upd_ne (ne_of_none e hf)]; exact e
      clear hH4
      have npm : p ≠ m := ne_of B.self B.mat.top (by intro z; cases z)
      have M4 : MatAt H4 m rws o.candidates (prefer ({ o with ballots := Km349.insert x o.ballots } : Km349.Office).ranks) := by
        refine MatAt.congr (M2.stay fun b hb u e => k4 b u e fun z => ?_) fun i j _ _ => ?_
        · subst z
          rcases List.mem_cons.mp hb with y | y
          · exact npm y
          · exact pr y
        · rw [Of.prefer_insert]
          rfl
      have kf : ∀ b u, H b = some u → b ≠ d1 → b ∉ rws → b ≠ p → H4 b = some u := fun b u e h1 h2 h3 => k4 b u (k2 b u (nd b u e h1) h2) h3
      have f3n : ∀ b u, H b = some u → b ∉ rws → b ≠ d1 → b ≠ f3 := fun b u e h1 h2 => ne_of_none (k2 b u (nd b u e h2) h1) hf
      have fdm : f3 ≠ m := fun z => by
        have := M2.top
        rw [← z, hf] at this
        cases this
      have fdr : f3 ∉ rws := fun z => by
        obtain ⟨i, hi⟩ := ow f3 z
        have := M2.row i f3 hi
        rw [hf] at this
        cases this
      have B4 : OfficeIs a.c_Office H4 p dx d1 d2 m f3 rws (putK kvs (kT x.booth x.number) (.ref r)) cvs [] { o with ballots := Km349.insert x o.ballots } := by
        refine ⟨p4, k4 _ _ (k2 _ _ b1 d1r) np.symm, kf _ _ B.clo n2 d2r (ne_of B.clo B.self (by intro z; cases z)), M4, gf, ⟨nd_putK _ B.heard.knd hv, fun k hk => ?_, B.heard.cnd, B.heard.cin, fun b n => ?_, B.heard.close⟩, .inl rfl, fdr, fdm⟩
        · rw [putK_new _ hv, List.map_append] at hk
          rcases List.mem_append.mp hk with z | z
          · exact B.heard.kin k z
          · have e : k = kT x.booth x.number := by simpa using z
            exact ⟨x.booth, x.number, e, hb, hn⟩
        · rw [valV_put, Of.knows_insert, ← B.heard.knows]
          by_cases e : kT b n = kT x.booth x.number
          · obtain ⟨e1, e2⟩ := kT_inj e
            rw [if_pos e, decide_eq_true e1, decide_eq_true e2]
            rfl
          · rw [if_neg e]
            have : (decide (b = x.booth) && decide (n = x.number)) = false := by
              rw [Bool.and_eq_false_iff, decide_eq_false_iff_not, decide_eq_false_iff_not]
              by_cases c1 : b = x.booth
              · refine .inr fun c2 => e ?_
                rw [c1, c2]
              · exact .inl c1
            rw [this, Bool.false_or]
      have f3h : H f3 = none := by
        cases q : H f3 with
        | none => rfl
        | some u =>
          exfalso
          by_cases c1 : f3 ∈ rws
          · exact fdr c1
          · by_cases c2 : f3 = d1
            · rw [c2, k2 _ _ b1 d1r] at hf
              cases hf
            · exact f3n f3 u q c1 c2 rfl
      refine ⟨(by show 1 ≤ sizeLine; decide), fun r8 hr8 => ?_⟩
      have s8 := Same.new (o := .lst [.int 1]) hr8
      have rn : r8 ∉ p :: d1 :: d2 :: m :: f3 :: rws := fun z => by
        obtain ⟨u, hu⟩ := B4.trk r8 z
        rw [hu] at hr8
        cases hr8
      have hrn : H r8 = none := by
        cases q : H r8 with
        | none => rfl
        | some u =>
          exfalso
          have := kf r8 u q (fun z => rn (by simp [z])) (fun z => rn (by simp [z])) (fun z => rn (by simp [z]))
          rw [hr8] at this
          cases this
      refine k1 hc _ (p :: d1 :: d2 :: m :: f3 :: rws) r8 ⟨dx, d1, d2, m, f3, rws, _, _, _, rfl, B4.same s8⟩ (fun y hy => ?_) (fun y u e hy => ?_) hrn rn (by show 1 ≤ 21; decide) upd_same
      · by_cases c : y = f3
        · exact .inr (c ▸ f3h)
        · refine .inl ?_
          simp only [List.mem_cons] at hy ⊢
          rcases hy with h | h | h | h | h | h
          · exact .inl h
          · exact .inr (.inl h)
          · exact .inr (.inr (.inl h))
          · exact .inr (.inr (.inr (.inl h)))
          · exact absurd h c
          · exact .inr (.inr (.inr (.inr (.inr h))))
      · exact s8 _ _ (kf y u e (fun z => hy (by simp [z])) (fun z => hy (by simp [z])) (fun z => hy (by simp [z])))
theorem ok_Office_first_not_heard (T : Txt K mg a) : FnOk P w K mg base CX0 1 a.f_Office_first_not_heard a.d_Office_first_not_heard ["self", "booth"] (spFirst a.c_Office) := by
  refine T.F_Office_first_not_heard.ok sc_Office_first_not_heard (fun vs H Q E h => ?_) (fun cdv A outer s H vs Q E hr h => ?_)
  · obtain ⟨p, own, o, b, n, rfl, _⟩ := h
    rfl
  · obtain ⟨p, own, o, b, n, rfl, B, hc, k⟩ := h
    obtain ⟨dx, d1, d2, m, fd, rws, kvs, cvs, fl, rfl, B⟩ := B
    refine ⟨_, (pss_cons (ps_set (i := 2) sc_Office_first_not_heard.nd rfl (Or.inl rfl) pe_int)
      (pss_cons (ps_while PassesOwn.never (PW.pt (pw_and (pt_cmpR op_lt (pv 2) (pe_dget (hu_of hr) (pe_fld (pv 0) rfl) (pv 1) (fun _ _ => rfl)) (nomark _)) (pw_and1 (pt_cmp (pc_din (hu_of hr) (pe_tup (pa_cons (pv 1) (pa_cons (pv 2) pa_nil))) (pe_fld (pv 0) rfl)))))) (pss_one (ps_aug (i := 2) sc_Office_first_not_heard.nd rfl (Or.inl rfl) pe_int ip_add)))
      (pss_one (ps_ret (pv 2))))), ?_⟩
    have hv : valV cvs (Sum.inl (b : Int) : Key) = some (.int (n : Nat)) := by rw [B.heard.close b, hc]; rfl
    refine ⟨fun mm σ H' => ∃ i : Nat, mm = n - i ∧ i ≤ n ∧ Same H H' ∧ σ = [some (.ref p), some (.int (b : Nat)), some (.int (i : Nat))] ∧ ∀ j, j < i → o.knows b j = true, ⟨n, 0, rfl, Nat.zero_le _, Same.rfl', rfl, fun j hj => absurd hj (Nat.not_lt_zero _)⟩, ?_⟩
    rintro mm σ H' ⟨i, rfl, hi, sm, rfl, hk⟩
    have B1 := B.same sm
    have dg := DGet.k (k := Sum.inl (b : Int)) B1.clo
    rw [hv] at dg
    refine ⟨_, rfl, _, rfl, p, a.c_Office, dx, _, _, rfl, B1.self, T.cl_Office, T.n_Office_closings, lk_Office_closings _ _ _ _ _ _, _, rfl, d2, _, rfl, dg, _, _, rfl, rfl, _, rfl, ?_⟩
    refine ite2 (fun c => ?_) (fun c => ?_)
    · have hin : i < n := by have := of_decide_eq_true c; omega
      refine ⟨_, rfl, _, rfl, (by show 2 ≤ sizeLine; decide), fun t ht => ?_⟩
      have s1 := Same.new (o := .tup [.int (b : Nat), .int (i : Nat)]) ht
      have B2 := B1.same s1
      refine ⟨_, rfl, p, a.c_Office, dx, _, _, rfl, B2.self, T.cl_Office, T.n_Office_ballots, lk_Office_ballots _ _ _ _ _ _, d1, _, rfl, DGet.t (k := kT b i) B2.bal upd_same, _, rfl, ?_⟩
      rw [B.heard.knows]
      cases hkn : o.knows b i with
      | true =>
        refine iteT ?_
        refine ⟨_, fun σ' H'' h => h, ?_⟩
        refine ⟨_, rfl, _, _, rfl, rfl, ?_⟩
        refine ⟨n - (i + 1), by omega, i + 1, rfl, hin, sm.trans s1, rfl, fun j hj => ?_⟩
        by_cases e : j = i
        · rw [e]
          exact hkn
        · exact hk j (by omega)
      | false =>
        refine iteF ?_
        have e : firstNot o b n = i := by
          unfold firstNot
          rw [Of.lacks_some hc hin hk hkn]
          rfl
        have := k _ (sm.trans s1)
        rw [e] at this
        exact ⟨_, rfl, this⟩
    · refine iteF ?_
      have hin : i = n := by
        have : ¬ (i : Int) < n := fun z => c (decide_eq_true z)
        omega
      subst hin
      have e : firstNot o b i = i := by
        unfold firstNot
        rw [Of.lacks_none hc hk]
        rfl
      have := k _ sm
      rw [e] at this
      exact ⟨_, rfl, this⟩
theorem ok_Office_is_whole (T : Txt K mg a) : FnOk P w K mg base CX0 2 a.f_Office_is_whole a.d_Office_is_whole ["self", "booth"] (spWhole a.c_Office) := by
  refine T.F_Office_is_whole.ok sc_Office_is_whole (fun vs H Q E h => ?_) (fun cdv A outer s H vs Q E hr h => ?_)
  · obtain ⟨p, own, o, b, rfl, _⟩ := h
    rfl
  · obtain ⟨p, own, o, b, rfl, B, k⟩ := h
    have B0 := B
    obtain ⟨dx, d1, d2, m, fd, rws, kvs, cvs, fl, rfl, B⟩ := B
    refine ⟨_, (pss_one (ps_ret (pe_and (pe_cmp (pc_din (hu_of hr) (pv 1) (pe_fld (pv 0) rfl))) (pe_one (pe_cmpR op_eq (pe_meth (pv 0) T.cl_Office T.M_Office_first_not_heard (ok_Office_first_not_heard T) (hr.mono (by decide)) T.b_Office_first_not_heard .nil pass0 (pa_cons (pv 1) pa_nil)) (pe_dget (hu_of hr) (pe_fld (pv 0) rfl) (pv 1) (fun _ _ => rfl)) (nomark _)))))), ?_⟩
    refine ⟨_, rfl, _, rfl, p, a.c_Office, dx, _, _, rfl, B.self, T.cl_Office, T.n_Office_closings, lk_Office_closings _ _ _ _ _ _, d2, _, rfl, DGet.k (k := Sum.inl (b : Int)) B.clo, _, rfl, ?_⟩
    rw [B.heard.close b]
    cases hc : o.close b with
    | none =>
      refine iteF ?_
      have := k _ Same.rfl'
      unfold whole at this
      rw [hc] at this
      exact this
    | some n =>
      refine iteT ?_
      have hv : valV cvs (Sum.inl (b : Int) : Key) = some (.int (n : Nat)) := by rw [B.heard.close b, hc]; rfl
      refine ⟨_, rfl, p, dx, _, rfl, B.self, no_Office_first_not_heard _ _ _ _ _ _, _, rfl, p, _, o, b, n, rfl, B0, hc, fun H1 s1 => ?_⟩
      have B1 := B.same s1
      have dg := DGet.k (k := Sum.inl (b : Int)) B1.clo
      rw [hv] at dg
      refine ⟨_, rfl, p, a.c_Office, dx, _, _, rfl, B1.self, T.cl_Office, T.n_Office_closings, lk_Office_closings _ _ _ _ _ _, _, rfl, d2, _, rfl, dg, rfl, ?_⟩
      have := k _ s1
      have e : decide (V.int (firstNot o b n : Nat) = V.int (n : Nat)) = whole o b := by
        unfold whole
        rw [hc, Option.isSome_some, Bool.true_and, Bool.eq_iff_iff, decide_eq_true_eq, ← firstNot_le hc]
        constructor
        · intro z
          injection z with z
          omega
        · intro z
          rw [z]
      rw [e]
      exact this
end
end My
/-! The office: its calls. -/
namespace My
open PySem PySem.Spec PyProof.Rows L2
open Km349 (okCandidates bDoes oDoes only prefer best against isOrder eight)
open Km349Neutral (told S step)
open Of (Good)
theorem lacks_big {o : Km349.Office} {b : Nat} (h : o.booths ≤ b) : oDoes o (.oLacks b) = (o, only (-22)) := by
  unfold oDoes
  dsimp only
  rw [if_pos h]
theorem lacks_open {o : Km349.Office} {b : Nat} (h : ¬ o.booths ≤ b) (hc : o.close b = none) : oDoes o (.oLacks b) = (o, only (-16)) := by
  unfold oDoes
  dsimp only
  rw [if_neg h, hc]
  rfl
theorem lacks_nothing {o : Km349.Office} {b n : Nat} (h : ¬ o.booths ≤ b) (hc : o.close b = some n) (hl : o.lacks b = none) : oDoes o (.oLacks b) = (o, only (-11)) := by
  unfold oDoes
  dsimp only
  rw [if_neg h, hc, hl]
  rfl
theorem lacks_one {o : Km349.Office} {b n k : Nat} (h : ¬ o.booths ≤ b) (hc : o.close b = some n) (hl : o.lacks b = some k) : oDoes o (.oLacks b) = (o, only (k : Nat)) := by
  unfold oDoes
  dsimp only
  rw [if_neg h, hc, hl]
  rfl
theorem final_all (o : Km349.Office) : o.final = ((List.range o.booths).map fun b => whole o b).all id := by
  rw [List.all_map]
  rfl
section
variable {P : Program} {w : World} {K : PySem.W.Frag} {mg : Str → Option Value} {base : Heap} {a : Ad}
theorem ok_Office_is_final (T : Txt K mg a) : FnOk P w K mg base CX0 3 a.f_Office_is_final a.d_Office_is_final ["self"] (spFinal a.c_Office) := by
  refine T.F_Office_is_final.ok sc_Office_is_final (fun vs H Q E h => ?_) (fun cdv A outer s H vs Q E hr h => ?_)
  · obtain ⟨p, own, o, rfl, _⟩ := h
    rfl
  · obtain ⟨p, own, o, rfl, B, h8, k⟩ := h
    have B0 := B
    obtain ⟨dx, d1, d2, m, fd, rws, kvs, cvs, fl, rfl, B⟩ := B
    refine ⟨_, (pss_one (ps_ret (pe_callB (cr_all rfl) (by rfl) T.z_all boot_allX (pa_cons (pe_lc rfl sc_Office_is_final.nd (pi_range1 rfl T.z_range (pa_cons (pe_fld (pv 0) rfl) pa_nil)) blk_Office_is_final_0 (fun _ _ _ _ _ => (pg_name (i := 1) sc_Office_is_final.nd rfl (Or.inl rfl))) (fun _ _ _ _ _ => pts_nil) (fun _ _ _ _ _ => (pe_meth (pv 0) T.cl_Office T.M_Office_is_whole (ok_Office_is_whole T) (hr.mono (by decide)) T.b_Office_is_whole .nil pass0 (pa_cons (pv 1) pa_nil)))) pa_nil)))), ?_⟩
    refine ⟨_, rfl, p, a.c_Office, dx, _, _, rfl, B.self, T.cl_Office, T.n_Office_booths, lk_Office_booths _ _ _ _ _ _, (o.booths : Nat), rfl, by omega, by omega, fun D hD => ?_⟩
    refine lc_range (n := o.booths) (fun i H' => Same H H' ∧ H' D = some (.lst (((List.range i).map fun b => whole o b).map V.bl))) ?_ ?_ ?_
    · exact ⟨Same.new hD, upd_same⟩
    · rintro i H' hi ⟨sm, e1⟩
      refine ⟨rfl, ?_⟩
      have B1 := B.same sm
      refine ⟨_, rfl, p, dx, _, rfl, B1.self, no_Office_is_whole _ _ _ _ _ _, _, rfl, p, _, o, i, (by
        have e : ((0 : Int) + (i : Nat)) = ((i : Nat) : Int) := by omega
        rw [e]
        rfl), B0.stay (fun x _ u e => sm x u e), fun H1 s1 => ?_⟩
      refine ⟨_, s1 _ _ e1, smallL ?_, fun b u e => ?_, ?_⟩
      · rw [List.length_map, List.length_map, List.length_range]
        omega
      · rw [upd_ne (ne_of_none e hD)]
        exact s1 _ _ (sm b u e)
      · rw [upd_same, List.range_succ, List.map_append, List.map_append]
        rfl
    · rintro H' ⟨sm, e1⟩
      refine ⟨D, _, rfl, SqL.of e1, ?_⟩
      have := k _ sm
      rw [final_all] at this
      exact this
theorem ok_Office_lacks (T : Txt K mg a) : FnOk P w K mg base CX0 2 a.f_Office_lacks a.d_Office_lacks ["self", "booth"] (spOLacks a.c_Office) := by
  refine T.F_Office_lacks.ok sc_Office_lacks (fun vs H Q E h => ?_) (fun cdv A outer s H vs Q E hr h => ?_)
  · obtain ⟨p, own, o, b, rfl, _⟩ := h
    rfl
  · obtain ⟨p, own, o, b, rfl, B, k⟩ := h
    have B0 := B
    obtain ⟨dx, d1, d2, m, fd, rws, kvs, cvs, fl, rfl, B⟩ := B
    refine ⟨_, (pss_cons (ps_if (pt_cmpR op_ge (pv 1) (pe_fld (pv 0) rfl) (nomark _)) (pss_one (ps_ret (pe_lst (pa_cons (pgi rfl T.g_WRONG) pa_nil)))) pss_nil)
      (pss_cons (ps_if (pt_cmp (pc_dnotin (hu_of hr) (pv 1) (pe_fld (pv 0) rfl))) (pss_one (ps_ret (pe_lst (pa_cons (pgi rfl T.g_NOT_CLOSED) pa_nil)))) pss_nil)
      (pss_cons (ps_set (i := 2) sc_Office_lacks.nd rfl (Or.inl rfl) (pe_meth (pv 0) T.cl_Office T.M_Office_first_not_heard (ok_Office_first_not_heard T) (hr.mono (by decide)) T.b_Office_first_not_heard .nil pass0 (pa_cons (pv 1) pa_nil)))
      (pss_cons (ps_if (pt_cmpR op_eq (pv 2) (pe_dget (hu_of hr) (pe_fld (pv 0) rfl) (pv 1) (fun _ _ => rfl)) (nomark _)) (pss_one (ps_ret (pe_lst (pa_cons (pgi rfl T.g_NOTHING_LACKS) pa_nil)))) pss_nil)
      (pss_one (ps_ret (pe_lst (pa_cons (pv 2) pa_nil)))))))), ?_⟩
    refine ⟨_, rfl, _, rfl, p, a.c_Office, dx, _, _, rfl, B.self, T.cl_Office, T.n_Office_booths, lk_Office_booths _ _ _ _ _ _, _, _, rfl, rfl, _, rfl, ?_⟩
    refine ite2 (fun c => ?_) (fun c => ?_)
    · rw [lacks_big (by have := of_decide_eq_true c; omega)] at k
      exact ⟨(by show 1 ≤ sizeLine; decide), fun r hr => AfterO.same k B0 (Same.new hr) hr (by show 1 ≤ 21; decide) upd_same⟩
    · have hb : ¬ o.booths ≤ b := fun z => c (decide_eq_true (by omega))
      refine ⟨_, rfl, _, rfl, p, a.c_Office, dx, _, _, rfl, B.self, T.cl_Office, T.n_Office_closings, lk_Office_closings _ _ _ _ _ _, d2, _, rfl, DGet.k (k := Sum.inl (b : Int)) B.clo, _, rfl, ?_⟩
      rw [B.heard.close b]
      cases hc : o.close b with
      | none =>
        refine iteT ?_
        rw [lacks_open hb hc] at k
        exact ⟨(by show 1 ≤ sizeLine; decide), fun r hr => AfterO.same k B0 (Same.new hr) hr (by show 1 ≤ 21; decide) upd_same⟩
      | some n =>
        refine iteF ?_
        have hv : valV cvs (Sum.inl (b : Int) : Key) = some (.int (n : Nat)) := by rw [B.heard.close b, hc]; rfl
        refine ⟨_, rfl, p, dx, _, rfl, B.self, no_Office_first_not_heard _ _ _ _ _ _, _, rfl, p, _, o, b, n, rfl, B0, hc, fun H1 s1 => ?_⟩
        have B1 := B.same s1
        have dg := DGet.k (k := Sum.inl (b : Int)) B1.clo
        rw [hv] at dg
        refine ⟨_, rfl, _, rfl, p, a.c_Office, dx, _, _, rfl, B1.self, T.cl_Office, T.n_Office_closings, lk_Office_closings _ _ _ _ _ _, _, rfl, d2, _, rfl, dg, rfl, _, rfl, ?_⟩
        refine ite2 (fun c2 => ?_) (fun c2 => ?_)
        · have e : firstNot o b n = n := by
            have z := of_decide_eq_true c2
            injection z with z
            omega
          have hn := (firstNot_le hc).mp e
          have hl : o.lacks b = none := Option.isNone_iff_eq_none.mp hn
          rw [lacks_nothing hb hc hl] at k
          exact ⟨(by show 1 ≤ sizeLine; decide), fun r hr => AfterO.same k B0 (s1.trans (Same.new hr)) (s1.free hr) (by show 1 ≤ 21; decide) upd_same⟩
        · cases hl : o.lacks b with
          | none =>
            refine absurd ?_ c2
            have e : firstNot o b n = n := by
              unfold firstNot
              rw [hl]
              rfl
            rw [e]
            exact decide_eq_true rfl
          | some j =>
            have e : firstNot o b n = j := by
              unfold firstNot
              rw [hl]
              rfl
            rw [lacks_one hb hc hl] at k
            rw [e]
            exact ⟨_, rfl, (by show 1 ≤ sizeLine; decide), fun r hr => AfterO.same k B0 (s1.trans (Same.new hr)) (s1.free hr) (by show 1 ≤ 21; decide) upd_same⟩
theorem ok_Office_prefer (T : Txt K mg a) : FnOk P w K mg base CX0 1 a.f_Office_prefer a.d_Office_prefer ["self", "x", "y"] (spOPrefer a.c_Office) := by
  refine T.F_Office_prefer.ok sc_Office_prefer (fun vs H Q E h => ?_) (fun cdv A outer s H vs Q E hr h => ?_)
  · obtain ⟨p, own, o, x, y, rfl, _⟩ := h
    rfl
  · obtain ⟨p, own, o, x, y, rfl, B, k⟩ := h
    have B0 := B
    obtain ⟨dx, d1, d2, m, fd, rws, kvs, cvs, fl, rfl, B⟩ := B
    refine ⟨_, (pss_cons (ps_if (PW.pt (pw_or (pt_cmpR op_ge (pv 1) (pe_fld (pv 0) rfl) (nomark _)) (pw_or1 (pt_cmpR op_ge (pv 2) (pe_fld (pv 0) rfl) (nomark _))))) (pss_one (ps_ret (pe_lst (pa_cons (pgi rfl T.g_WRONG) pa_nil)))) pss_nil)
      (pss_one (ps_ret (pe_lst (pa_cons (pe_ix (r := rIxL K) ix_list (pe_ix (r := rIxL K) ix_list (pe_fld (pv 0) rfl) (pv 1) (fun _ _ => rfl)) (pv 2) (fun _ _ => rfl)) pa_nil))))), ?_⟩
    have bad : (o.candidates ≤ x ∨ o.candidates ≤ y) → ∀ r, H r = none → Q (.ref r) (upd H r (.lst [.int (-22)])) := fun c r hr => by
      have e : oDoes o (.oPrefer x y) = (o, only (-22)) := by
        unfold oDoes
        dsimp only
        rw [if_pos c]
      rw [e] at k
      exact AfterO.same k B0 (Same.new hr) hr (by show 1 ≤ 21; decide) upd_same
    refine ⟨_, rfl, _, rfl, p, a.c_Office, dx, _, _, rfl, B.self, T.cl_Office, T.n_Office_candidates, lk_Office_candidates _ _ _ _ _ _, _, _, rfl, rfl, _, rfl, ?_⟩
    refine ite2 (fun c => ?_) (fun c => ?_)
    · refine iteT ?_
      exact ⟨(by show 1 ≤ sizeLine; decide), fun r hr => bad (.inl (by have := of_decide_eq_true c; omega)) r hr⟩
    · have hx : x < o.candidates := Nat.lt_of_not_le fun z => c (decide_eq_true (by omega))
      refine ⟨_, rfl, _, rfl, p, a.c_Office, dx, _, _, rfl, B.self, T.cl_Office, T.n_Office_candidates, lk_Office_candidates _ _ _ _ _ _, _, _, rfl, rfl, _, rfl, ?_⟩
      refine ite2 (fun c2 => ?_) (fun c2 => ?_)
      · exact ⟨(by show 1 ≤ sizeLine; decide), fun r hr => bad (.inr (by have := of_decide_eq_true c2; omega)) r hr⟩
      · have hy : y < o.candidates := Nat.lt_of_not_le fun z => c2 (decide_eq_true (by omega))
        have e : oDoes o (.oPrefer x y) = (o, only (prefer o.ranks x y : Nat)) := by
          unfold oDoes
          dsimp only
          rw [if_neg (by omega)]
        rw [e] at k
        obtain ⟨r, hr1, hr2, hr3⟩ := B.mat.at hx
        refine ⟨_, rfl, p, a.c_Office, dx, _, _, rfl, B.self, T.cl_Office, T.n_Office_before, lk_Office_before _ _ _ _ _ _, _, rfl, m, _, _, _, rfl, rfl, SqL.of B.mat.top, atI_nat hr2, ?_⟩
        refine ⟨_, rfl, r, _, _, _, rfl, rfl, SqL.of hr3, atI_nat (iv_at2 (rowOf_get hy)), ?_⟩
        exact ⟨(by show 1 ≤ sizeLine; decide), fun r hr => AfterO.same k B0 (Same.new hr) hr (by show 1 ≤ 21; decide) upd_same⟩
theorem ok_Office_against (T : Txt K mg a) : FnOk P w K mg base CX0 3 a.f_Office_against a.d_Office_against ["self", "row"] (spOAgainst K a.c_Office) := by
  refine T.F_Office_against.ok sc_Office_against (fun vs H Q E h => ?_) (fun cdv A outer s H vs Q E hr h => ?_)
  · obtain ⟨p, r, own, o, l, rfl, _⟩ := h
    rfl
  · obtain ⟨p, r, own, o, l, rfl, B, G, hr0, hl, k⟩ := h
    have B0 := B
    obtain ⟨dx, d1, d2, m, fd, rws, kvs, cvs, fl, rfl, B⟩ := B
    refine ⟨_, (pss_cons (ps_if (pt_not (pt_val (pe_call (ok_order_fits T) (hr.mono (by decide)) rfl T.m_order_fits T.F_order_fits.kp T.b_order_fits .nil pass0 (pa_cons (pv 1) (pa_cons (pe_fld (pv 0) rfl) pa_nil))))) (pss_one (ps_ret (pe_lst (pa_cons (pgi rfl T.g_WRONG) pa_nil)))) pss_nil)
      (pss_one (ps_ret (pe_lst (pa_cons (pe_call (ok_how_much_against T) (hr.mono (by decide)) rfl T.m_how_much_against T.F_how_much_against.kp T.b_how_much_against .nil pass0 (pa_cons (pe_fld (pv 0) rfl) (pa_cons (pe_slice sl_list (pv 1) po_none (po_some (pe_fld (pv 0) rfl))) pa_nil))) pa_nil))))), ?_⟩
    refine ⟨_, rfl, _, rfl, p, a.c_Office, dx, _, _, rfl, B.self, T.cl_Office, T.n_Office_candidates, lk_Office_candidates _ _ _ _ _ _, r, l, o.candidates, rfl, hr0, hl, G.hi, fun H1 s1 => ?_⟩
    refine ⟨_, rfl, ?_⟩
    have B1 := B.same s1
    cases hc : isOrder o.candidates l with
    | false =>
      refine iteT ?_
      have e : oDoes o (.oAgainst l) = (o, only (-22)) := by
        unfold oDoes
        dsimp only
        rw [if_pos hc]
      rw [e] at k
      exact ⟨(by show 1 ≤ sizeLine; decide), fun r hr => AfterO.same k B0 (s1.trans (Same.new hr)) (s1.free hr) (by show 1 ≤ 21; decide) upd_same⟩
    | true =>
      refine iteF ?_
      have e : oDoes o (.oAgainst l) = (o, only (against o.ranks (l.take o.candidates) : Nat)) := by
        unfold oDoes
        dsimp only
        rw [if_neg (by rw [hc]; decide)]
      rw [e] at k
      have hin : ∀ c ∈ l.take o.candidates, c < o.candidates := fun c hcm => by
        unfold isOrder at hc
        rw [Bool.and_eq_true, Bool.and_eq_true, List.all_eq_true, List.all_eq_true] at hc
        have hlen : (l.take o.candidates).length = o.candidates := by
          rw [List.length_take, hl]
          have := G.hi
          omega
        have pm := perm_of_sub (S := List.range o.candidates) (T := l.take o.candidates) List.nodup_range (fun x hx => List.contains_iff_mem.mp (hc.2.2 x hx)) (by rw [hlen, List.length_range])
        exact List.mem_range.mp (pm.symm.subset hcm)
      refine ⟨_, rfl, p, a.c_Office, dx, _, _, rfl, B1.self, T.cl_Office, T.n_Office_before, lk_Office_before _ _ _ _ _ _, _, rfl, _, rfl, p, a.c_Office, dx, _, _, rfl, B1.self, T.cl_Office, T.n_Office_candidates, lk_Office_candidates _ _ _ _ _ _, _, rfl, r, _, rfl, s1.seq hr0, fun q nq => ?_⟩
      have eq1 : cutV (iv (nums l)) none (some (o.candidates : Int)) = iv (nums (l.take o.candidates)) := by rw [cut_to, nums_take]
      rw [eq1]
      have s2 := Same.new (o := .lst (iv (nums (l.take o.candidates)))) nq
      refine ⟨m, q, rws, o.candidates, _, l.take o.candidates, rfl, (B1.same s2).mat, SqL.of upd_same, hin, fun H3 s3 => ?_⟩
      rw [agn_against (l := o.ranks) (fun x y _ _ => rfl) _ hin]
      have sa := (s1.trans s2).trans s3
      exact ⟨(by show 1 ≤ sizeLine; decide), fun r hr => AfterO.same k B0 (sa.trans (Same.new hr)) (sa.free hr) (by show 1 ≤ 21; decide) upd_same⟩
end
end My
/-! The office: vo_order, vo_heard. -/
namespace My
open PySem PySem.Spec PyProof.Rows L2
open Km349 (okCandidates bDoes oDoes only prefer best against isOrder eight ballotOf closeOf okRanks num)
open Km349Neutral (told S step)
open Of (Good)
theorem AfterO.later {C : Addr} {H H2 : Hp} {p : Addr} {own : List Addr} {Q : VK} {o : Km349.Office} {ans : List Int} (k : AfterO C H p own Q o ans) (s : Same H H2) : AfterO C H2 p own Q o ans :=
  fun H' own' r B h1 h2 h3 h4 h5 h6 => k H' own' r B (fun x hx => (h1 x hx).imp id fun z => s.free z) (fun x u e hx => h2 x u (s x u e) hx) (s.free h3) h4 h5 h6
theorem ballot_some {n : Nat} {l : List Nat} {b : Nat} (h1 : l[1]? = some b) (h : (ballotOf n l).isSome = true) : ballotOf n l = some ⟨b, num l 4 4, (l.drop 8).take 8⟩ ∧ b < 8 ∧ num l 4 4 < 4096 := by
  unfold ballotOf at h ⊢
  simp only [num11 h1] at h ⊢
  split at h
  · rename_i c
    exact ⟨if_pos c, c.2.1, c.2.2.1⟩
  · cases h
theorem close_some {l : List Nat} {b : Nat} (h1 : l[1]? = some b) (h : (closeOf l).isSome = true) : closeOf l = some ⟨b, num l 4 4⟩ ∧ b < 8 := by
  unfold closeOf at h ⊢
  simp only [num11 h1] at h ⊢
  split at h
  · rename_i c
    exact ⟨if_pos c, c.2.1⟩
  · cases h
theorem heard_none {o : Km349.Office} {l : List Nat} (h : o.hears l = none) : oDoes o (.oHeard l) = (o, only (-71)) := by
  unfold oDoes
  dsimp only
  rw [h]
theorem heard_some {o o' : Km349.Office} {l : List Nat} {n : Nat} (h : o.hears l = some (o', n)) : oDoes o (.oHeard l) = (o', only (n : Nat)) := by
  unfold oDoes
  dsimp only
  rw [h]
section
variable {P : Program} {w : World} {K : PySem.W.Frag} {mg : Str → Option Value} {base : Heap} {a : Ad}
theorem ok_Office_order (T : Txt K mg a) : FnOk P w K mg base CX0 4 a.f_Office_order a.d_Office_order ["self"] (spOOrder a.c_Office) := by
  refine T.F_Office_order.ok sc_Office_order (fun vs H Q E h => ?_) (fun cdv A outer s H vs Q E hr h => ?_)
  · obtain ⟨p, own, o, rfl, _⟩ := h
    rfl
  · obtain ⟨p, own, o, rfl, B, G, k⟩ := h
    obtain ⟨dx, d1, d2, m, fd, rws, kvs, cvs, fl, rfl, B⟩ := B
    refine ⟨_, (pss_cons (ps_if (pt_cmpR op_eq (pe_callB call_len_seq (by rfl) T.z_len PySem.boot_len (pa_cons (pe_fld (pv 0) rfl) pa_nil)) pe_int (nomark _)) (pss_one (ps_fld (pv 0) (pe_call (ok_order_of T) (hr.mono (by decide)) rfl T.m_order_of T.F_order_of.kp T.b_order_of .nil pass0 (pa_cons (pe_fld (pv 0) rfl) pa_nil)) rfl)) pss_nil)
      (pss_one (ps_ret (pe_op op_cat (pe_lst (pa_cons (pe_ifExp (pt_val (pe_meth0 (pv 0) T.cl_Office T.M_Office_is_final (ok_Office_is_final T) (hr.mono (by decide)) T.b_Office_is_final .nil pass0)) pe_int pe_int) pa_nil)) (pe_call (ok_padded T) (hr.mono (by decide)) rfl T.m_padded T.F_padded.kp T.b_padded .nil pass0 (pa_cons (pe_fld (pv 0) rfl) pa_nil)))))), ?_⟩
    have hbl := Of.best_length o.candidates o.ranks
    have lo := G.lo
    have hi := G.hi
    have ek : (oDoes o .oOrder) = (o, { value := if o.final = true then 1 else 0, out := eight (best o.candidates o.ranks).2 }) := rfl
    rw [ek, pad_eight (by rw [hbl]; exact hi)] at k
    refine ⟨_, rfl, p, a.c_Office, dx, _, _, rfl, B.self, T.cl_Office, T.n_Office_found, lk_Office_found _ _ _ _ _ _, fd, _, rfl, .inl (SqL.of B.fnd), rfl, _, rfl, ?_⟩
    refine ite2 (fun c => ?_) (fun c => ?_)
    · refine ⟨_, rfl, p, a.c_Office, dx, _, _, rfl, B.self, T.cl_Office, T.n_Office_before, lk_Office_before _ _ _ _ _ _, m, rws, o.candidates, o.ranks, rfl, B.mat, by omega, hi, fun f2 H1 nf s1 e1 => ?_⟩
      have B1 := B.same s1
      refine ⟨_, rfl, p, a.c_Office, dx, _, rfl, B1.self, T.cl_Office, T.n_Office_found, (by show 6 < 1000; decide), ?_⟩
      rw [pu_Office_found]
      generalize hH2 : upd H1 p _ = H2
      have p2 : H2 p = some (.ins a.c_Office dx (fl_Office (.int o.candidates) (.int o.booths) (.ref d1) (.ref d2) (.ref m) (.ref f2))) := by rw [← hH2]; exact upd_same
      have kk : ∀ b u, H1 b = some u → b ≠ p → H2 b = some u := fun b u e hb => by rw [← hH2, upd_ne hb]; exact e
      have free2 : ∀ x, H2 x = none → H x = none := fun x hx => by
        cases q : H x with
        | none => rfl
        | some u =>
          by_cases hxp : x = p
          · rw [hxp, p2] at hx
            cases hx
          · rw [kk x u (s1 x u q) hxp] at hx
            cases hx
      clear hH2
      have notp : ∀ {b u}, H1 b = some u → (∀ C dx fs, u ≠ HO.ins C dx fs) → b ≠ p := fun {b u} e h z => by
        rw [z, B1.self] at e
        exact h _ _ _ (Option.some.inj e).symm
      have B2 : OfficeIs a.c_Office H2 p dx d1 d2 m f2 rws kvs cvs (best o.candidates o.ranks).2 o := by
        refine ⟨p2, kk _ _ B1.bal (notp B1.bal fun _ _ _ z => by cases z), kk _ _ B1.clo (notp B1.clo fun _ _ _ z => by cases z), B1.mat.stay (fun b hb u e => kk b u e fun z => ?_), kk _ _ e1 (notp e1 fun _ _ _ z => by cases z), B.heard, .inr rfl, fun z => ?_, fun z => ?_⟩
        · rcases List.mem_cons.mp hb with y | y
          · exact notp B1.mat.top (fun _ _ _ z => by cases z) (y ▸ z)
          · obtain ⟨i, hi⟩ := List.mem_iff_getElem?.mp y
            exact notp (B1.mat.row i b hi) (fun _ _ _ z => by cases z) z
        · obtain ⟨i, hi⟩ := List.mem_iff_getElem?.mp z
          have := B.mat.row i f2 hi
          rw [nf] at this
          cases this
        · have := B.mat.top
          rw [← z, nf] at this
          cases this
      have hown : ∀ x ∈ p :: d1 :: d2 :: m :: f2 :: rws, x ∈ p :: d1 :: d2 :: m :: fd :: rws ∨ H x = none := fun x hx => by
        by_cases e : x = f2
        · exact .inr (e ▸ nf)
        · refine .inl ?_
          simp only [List.mem_cons] at hx ⊢
          rcases hx with h | h | h | h | h | h
          · exact .inl h
          · exact .inr (.inl h)
          · exact .inr (.inr (.inl h))
          · exact .inr (.inr (.inr (.inl h)))
          · exact absurd h e
          · exact .inr (.inr (.inr (.inr (.inr h))))
      have k2 : ∀ x u, H x = some u → x ∉ p :: d1 :: d2 :: m :: fd :: rws → H2 x = some u := fun x u e hx => kk x u (s1 x u e) fun z => hx (by simp [z])
      have B2a : OfficeAt a.c_Office H2 p (p :: d1 :: d2 :: m :: f2 :: rws) o := ⟨dx, d1, d2, m, f2, rws, kvs, cvs, _, rfl, B2⟩
      refine ⟨_, rfl, p, dx, _, rfl, B2.self, no_Office_is_final _ _ _ _ _ _, p, _, o, rfl, B2a, G.bo, fun H3 s3 => ?_⟩
      refine ⟨_, rfl, ?_⟩
      cases hfin : o.final with
      | true =>
        refine iteT ?_
        refine ⟨(by show 1 ≤ sizeLine; decide), fun q1 hq1 => ?_⟩
        have s4 := s3.trans (Same.new (o := .lst [.int 1]) hq1)
        have e41 : (upd H3 q1 (.lst [.int 1])) q1 = some (.lst [.int 1]) := upd_same
        generalize hH4 : upd H3 q1 (.lst [.int 1]) = H4 at s4 e41 ⊢
        have B4 := B2.same s4
        refine ⟨_, rfl, p, a.c_Office, dx, _, _, rfl, B4.self, T.cl_Office, T.n_Office_found, lk_Office_found _ _ _ _ _ _, f2, _, rfl, B4.fnd, (by rw [hbl]; exact hi), fun q5 H5 n5 s5 e5 => ?_⟩
        refine ⟨q1, q5, _, _, rfl, rfl, s5 _ _ e41, e5, small (by rw [iv_length, nums_length]; unfold pad; rw [List.length_append, List.length_replicate, hbl]; show 1 + _ ≤ _; omega), fun r hr' => ?_⟩
        have s6 := (s4.trans s5).trans (Same.new (o := .lst ([.int 1] ++ iv (nums (pad (best o.candidates o.ranks).2)))) hr')
        have hr2 : H2 r = none := (s4.trans s5).free hr'
        refine k _ (p :: d1 :: d2 :: m :: f2 :: rws) r ⟨dx, d1, d2, m, f2, rws, kvs, cvs, _, rfl, B2.same s6⟩ hown (fun x u e hx => s6 _ _ (k2 x u e hx)) (free2 r hr2) (fun z => ?_) ?_ ?_
        · obtain ⟨u, hu⟩ := B2.trk r z
          rw [hu] at hr2
          cases hr2
        · show (_ :: nums (pad (best o.candidates o.ranks).2)).length ≤ 21
          rw [List.length_cons, nums_length]
          unfold pad
          rw [List.length_append, List.length_replicate, hbl]
          omega
        · rw [upd_same]
          show _ = some (HO.lst (iv ((if o.final = true then 1 else 0) :: nums (pad (best o.candidates o.ranks).2))))
          rw [hfin]
          rfl
      | false =>
        refine iteF ?_
        refine ⟨(by show 1 ≤ sizeLine; decide), fun q1 hq1 => ?_⟩
        have s4 := s3.trans (Same.new (o := .lst [.int 0]) hq1)
        have e41 : (upd H3 q1 (.lst [.int 0])) q1 = some (.lst [.int 0]) := upd_same
        generalize hH4 : upd H3 q1 (.lst [.int 0]) = H4 at s4 e41 ⊢
        have B4 := B2.same s4
        refine ⟨_, rfl, p, a.c_Office, dx, _, _, rfl, B4.self, T.cl_Office, T.n_Office_found, lk_Office_found _ _ _ _ _ _, f2, _, rfl, B4.fnd, (by rw [hbl]; exact hi), fun q5 H5 n5 s5 e5 => ?_⟩
        refine ⟨q1, q5, _, _, rfl, rfl, s5 _ _ e41, e5, small (by rw [iv_length, nums_length]; unfold pad; rw [List.length_append, List.length_replicate, hbl]; show 1 + _ ≤ _; omega), fun r hr' => ?_⟩
        have s6 := (s4.trans s5).trans (Same.new (o := .lst ([.int 0] ++ iv (nums (pad (best o.candidates o.ranks).2)))) hr')
        have hr2 : H2 r = none := (s4.trans s5).free hr'
        refine k _ (p :: d1 :: d2 :: m :: f2 :: rws) r ⟨dx, d1, d2, m, f2, rws, kvs, cvs, _, rfl, B2.same s6⟩ hown (fun x u e hx => s6 _ _ (k2 x u e hx)) (free2 r hr2) (fun z => ?_) ?_ ?_
        · obtain ⟨u, hu⟩ := B2.trk r z
          rw [hu] at hr2
          cases hr2
        · show (_ :: nums (pad (best o.candidates o.ranks).2)).length ≤ 21
          rw [List.length_cons, nums_length]
          unfold pad
          rw [List.length_append, List.length_replicate, hbl]
          omega
        · rw [upd_same]
          show _ = some (HO.lst (iv ((if o.final = true then 1 else 0) :: nums (pad (best o.candidates o.ranks).2))))
          rw [hfin]
          rfl
    · have hfl : fl = (best o.candidates o.ranks).2 := by
        rcases B.fnd2 with z | z
        · refine absurd ?_ c
          rw [z]
          rfl
        · exact z
      subst hfl
      generalize hH2 : H = H2 at B
      have hf2 : fd = fd := rfl
      generalize hfd : fd = f2 at B
      have B2 := B
      have free2 : ∀ x, H2 x = none → H x = none := fun x hx => by rw [hH2]; exact hx
      have hown : ∀ x ∈ p :: d1 :: d2 :: m :: f2 :: rws, x ∈ p :: d1 :: d2 :: m :: fd :: rws ∨ H x = none := fun x hx => .inl (by rw [hfd]; exact hx)
      have k2 : ∀ x u, H x = some u → x ∉ p :: d1 :: d2 :: m :: fd :: rws → H2 x = some u := fun x u e hx => by rw [← hH2]; exact e
      show _
      have B2a : OfficeAt a.c_Office H2 p (p :: d1 :: d2 :: m :: f2 :: rws) o := ⟨dx, d1, d2, m, f2, rws, kvs, cvs, _, rfl, B2⟩
      refine ⟨_, rfl, p, dx, _, rfl, B2.self, no_Office_is_final _ _ _ _ _ _, p, _, o, rfl, B2a, G.bo, fun H3 s3 => ?_⟩
      refine ⟨_, rfl, ?_⟩
      cases hfin : o.final with
      | true =>
        refine iteT ?_
        refine ⟨(by show 1 ≤ sizeLine; decide), fun q1 hq1 => ?_⟩
        have s4 := s3.trans (Same.new (o := .lst [.int 1]) hq1)
        have e41 : (upd H3 q1 (.lst [.int 1])) q1 = some (.lst [.int 1]) := upd_same
        generalize hH4 : upd H3 q1 (.lst [.int 1]) = H4 at s4 e41 ⊢
        have B4 := B2.same s4
        refine ⟨_, rfl, p, a.c_Office, dx, _, _, rfl, B4.self, T.cl_Office, T.n_Office_found, lk_Office_found _ _ _ _ _ _, f2, _, rfl, B4.fnd, (by rw [hbl]; exact hi), fun q5 H5 n5 s5 e5 => ?_⟩
        refine ⟨q1, q5, _, _, rfl, rfl, s5 _ _ e41, e5, small (by rw [iv_length, nums_length]; unfold pad; rw [List.length_append, List.length_replicate, hbl]; show 1 + _ ≤ _; omega), fun r hr' => ?_⟩
        have s6 := (s4.trans s5).trans (Same.new (o := .lst ([.int 1] ++ iv (nums (pad (best o.candidates o.ranks).2)))) hr')
        have hr2 : H2 r = none := (s4.trans s5).free hr'
        refine k _ (p :: d1 :: d2 :: m :: f2 :: rws) r ⟨dx, d1, d2, m, f2, rws, kvs, cvs, _, rfl, B2.same s6⟩ hown (fun x u e hx => s6 _ _ (k2 x u e hx)) (free2 r hr2) (fun z => ?_) ?_ ?_
        · obtain ⟨u, hu⟩ := B2.trk r z
          rw [hu] at hr2
          cases hr2
        · show (_ :: nums (pad (best o.candidates o.ranks).2)).length ≤ 21
          rw [List.length_cons, nums_length]
          unfold pad
          rw [List.length_append, List.length_replicate, hbl]
          omega
        · rw [upd_same]
          show _ = some (HO.lst (iv ((if o.final = true then 1 else 0) :: nums (pad (best o.candidates o.ranks).2))))
          rw [hfin]
          rfl
      | false =>
        refine iteF ?_
        refine ⟨(by show 1 ≤ sizeLine; decide), fun q1 hq1 => ?_⟩
        have s4 := s3.trans (Same.new (o := .lst [.int 0]) hq1)
        have e41 : (upd H3 q1 (.lst [.int 0])) q1 = some (.lst [.int 0]) := upd_same
        generalize hH4 : upd H3 q1 (.lst [.int 0]) = H4 at s4 e41 ⊢
        have B4 := B2.same s4
        refine ⟨_, rfl, p, a.c_Office, dx, _, _, rfl, B4.self, T.cl_Office, T.n_Office_found, lk_Office_found _ _ _ _ _ _, f2, _, rfl, B4.fnd, (by rw [hbl]; exact hi), fun q5 H5 n5 s5 e5 => ?_⟩
        refine ⟨q1, q5, _, _, rfl, rfl, s5 _ _ e41, e5, small (by rw [iv_length, nums_length]; unfold pad; rw [List.length_append, List.length_replicate, hbl]; show 1 + _ ≤ _; omega), fun r hr' => ?_⟩
        have s6 := (s4.trans s5).trans (Same.new (o := .lst ([.int 0] ++ iv (nums (pad (best o.candidates o.ranks).2)))) hr')
        have hr2 : H2 r = none := (s4.trans s5).free hr'
        refine k _ (p :: d1 :: d2 :: m :: f2 :: rws) r ⟨dx, d1, d2, m, f2, rws, kvs, cvs, _, rfl, B2.same s6⟩ hown (fun x u e hx => s6 _ _ (k2 x u e hx)) (free2 r hr2) (fun z => ?_) ?_ ?_
        · obtain ⟨u, hu⟩ := B2.trk r z
          rw [hu] at hr2
          cases hr2
        · show (_ :: nums (pad (best o.candidates o.ranks).2)).length ≤ 21
          rw [List.length_cons, nums_length]
          unfold pad
          rw [List.length_append, List.length_replicate, hbl]
          omega
        · rw [upd_same]
          show _ = some (HO.lst (iv ((if o.final = true then 1 else 0) :: nums (pad (best o.candidates o.ranks).2))))
          rw [hfin]
          rfl
theorem ok_Office_heard (T : Txt K mg a) : FnOk P w K mg base CX0 6 a.f_Office_heard a.d_Office_heard ["self", "message"] (spOHeard K a.c_Office) := by
  refine T.F_Office_heard.ok sc_Office_heard (fun vs H Q E h => ?_) (fun cdv A outer s H vs Q E hr h => ?_)
  · obtain ⟨p, r, own, o, l, rfl, _⟩ := h
    rfl
  · obtain ⟨p, r, own, o, l, rfl, B, G, hr0, hl, hb, k⟩ := h
    have B0 := B
    obtain ⟨dx, d1, d2, m, fd, rws, kvs, cvs, fl, eown, B⟩ := B
    refine ⟨_, (pss_cons (ps_if (PW.pt (pw_or (pt_not (pt_val (pe_call (ok_is_right T) (hr.mono (by decide)) rfl T.m_is_right T.F_is_right.kp T.b_is_right .nil pass0 (pa_cons (pv 1) (pa_cons (pe_fld (pv 0) rfl) pa_nil))))) (pw_or1 (pt_cmpR op_ge (pe_call (ok_booth_of T) (hr.mono (by decide)) rfl T.m_booth_of T.F_booth_of.kp T.b_booth_of .nil pass0 (pa_cons (pv 1) pa_nil)) (pe_fld (pv 0) rfl) (nomark _))))) (pss_one (ps_ret (pe_lst (pa_cons (pgi rfl T.g_NOT_RIGHT) pa_nil)))) pss_nil)
      (pss_cons (ps_if (pt_cmpR op_eq (pe_call (ok_kind_of T) (hr.mono (by decide)) rfl T.m_kind_of T.F_kind_of.kp T.b_kind_of .nil pass0 (pa_cons (pv 1) pa_nil)) (pgi rfl T.g_CLOSING) (nomark _)) (pss_one (ps_ret (pe_meth (pv 0) T.cl_Office T.M_Office_heard_closing (ok_Office_heard_closing T) (hr.mono (by decide)) T.b_Office_heard_closing .nil pass0 (pa_cons (pe_call (ok_booth_of T) (hr.mono (by decide)) rfl T.m_booth_of T.F_booth_of.kp T.b_booth_of .nil pass0 (pa_cons (pv 1) pa_nil)) (pa_cons (pe_call (ok_number_of T) (hr.mono (by decide)) rfl T.m_number_of T.F_number_of.kp T.b_number_of .nil pass0 (pa_cons (pv 1) pa_nil)) pa_nil))))) pss_nil)
      (pss_one (ps_ret (pe_meth (pv 0) T.cl_Office T.M_Office_heard_ballot (ok_Office_heard_ballot T) (hr.mono (by decide)) T.b_Office_heard_ballot .nil pass0 (pa_cons (pe_tup (pa_cons (pe_call (ok_booth_of T) (hr.mono (by decide)) rfl T.m_booth_of T.F_booth_of.kp T.b_booth_of .nil pass0 (pa_cons (pv 1) pa_nil)) (pa_cons (pe_call (ok_number_of T) (hr.mono (by decide)) rfl T.m_number_of T.F_number_of.kp T.b_number_of .nil pass0 (pa_cons (pv 1) pa_nil)) pa_nil))) (pa_cons (pe_call (ok_ranks_of T) (hr.mono (by decide)) rfl T.m_ranks_of T.F_ranks_of.kp T.b_ranks_of .nil pass0 (pa_cons (pv 1) pa_nil)) pa_nil))))))), ?_⟩
    obtain ⟨t0, h0⟩ : ∃ z, l[0]? = some z := ⟨l[0], List.getElem?_eq_getElem (by omega)⟩
    obtain ⟨t1, h1⟩ : ∃ z, l[1]? = some z := ⟨l[1], List.getElem?_eq_getElem (by omega)⟩
    have r8 : ((l.drop 8).take 8).length = 8 := by rw [List.length_take, List.length_drop, hl]; rfl
    refine ⟨_, rfl, _, rfl, p, a.c_Office, dx, _, _, rfl, B.self, T.cl_Office, T.n_Office_candidates, lk_Office_candidates _ _ _ _ _ _, r, l, o.candidates, rfl, hr0, hl, hb, G.hi, fun H1 s1 => ?_⟩
    refine ⟨_, rfl, ?_⟩
    have hr1 := s1.seq hr0
    have B1 := B.same s1
    have bad : o.hears l = none → ∀ r, H1 r = none → Q (.ref r) (upd H1 r (.lst [.int (-71)])) := fun c r hr => by
      rw [heard_none c] at k
      exact AfterO.same k B0 (s1.trans (Same.new hr)) (s1.free hr) (by show 1 ≤ 21; decide) upd_same
    cases hrt : right o.candidates l with
    | false =>
      refine iteT ?_
      refine iteT ?_
      refine ⟨(by show 1 ≤ sizeLine; decide), fun r hr => bad ?_ r hr⟩
      unfold right at hrt
      rw [Bool.or_eq_false_iff] at hrt
      have e1 : ballotOf o.candidates l = none := by
        cases q : ballotOf o.candidates l with
        | none => rfl
        | some x => rw [q] at hrt; cases hrt.1
      have e2 : closeOf l = none := by
        cases q : closeOf l with
        | none => rfl
        | some x => rw [q] at hrt; cases hrt.2
      unfold Km349.Office.hears
      rw [e1, e2]
    | true =>
      refine iteF ?_
      unfold right at hrt
      rw [Bool.or_eq_true] at hrt
      refine ⟨_, rfl, r, l, t1, rfl, hr1, h1, ?_⟩
      refine ⟨_, rfl, p, a.c_Office, dx, _, _, rfl, B1.self, T.cl_Office, T.n_Office_booths, lk_Office_booths _ _ _ _ _ _, _, _, rfl, rfl, _, rfl, ?_⟩
      refine ite2 (fun c => ?_) (fun c => ?_)
      · refine ⟨(by show 1 ≤ sizeLine; decide), fun r hr => bad ?_ r hr⟩
        have hbb : o.booths ≤ t1 := by have := of_decide_eq_true c; omega
        unfold Km349.Office.hears
        cases q : ballotOf o.candidates l with
        | some x =>
          have e := (ballot_some (n := o.candidates) h1 (by rw [q]; rfl)).1
          rw [q] at e
          cases e
          dsimp only
          rw [if_pos hbb]
        | none =>
          rw [q] at hrt
          have e := (close_some h1 (hrt.resolve_left (by decide))).1
          rw [e]
          dsimp only
          rw [if_pos hbb]
      · have hbb : ¬ o.booths ≤ t1 := fun z => c (decide_eq_true (by omega))
        refine ⟨_, rfl, r, l, t0, rfl, hr1, h0, rfl, _, rfl, ?_⟩
        refine ite2 (fun c2 => ?_) (fun c2 => ?_)
        · have ht0 : t0 = 2 := by
            have z := of_decide_eq_true c2
            injection z with z
            omega
          have eb : ballotOf o.candidates l = none := ballot_not (by rw [h0, ht0]; decide)
          rw [eb] at hrt
          obtain ⟨ec, hb8⟩ := close_some h1 (hrt.resolve_left (by decide))
          refine ⟨_, rfl, p, dx, _, rfl, B1.self, no_Office_heard_closing _ _ _ _ _ _, _, rfl, r, l, t1, rfl, hr1, h1, _, rfl, r, l, rfl, hr1, hl, hb, fun H2 s2 => ?_⟩
          refine ⟨p, own, o, t1, num l 4 4, rfl, B0.stay (fun x _ u e => s2 x u (s1 x u e)), G, hb8, fun e => ?_, fun e => ?_⟩
          · have hh : o.hears l = some (o, 0) := by
              unfold Km349.Office.hears
              rw [eb, ec]
              dsimp only
              rw [if_neg hbb, if_pos e]
            rw [heard_some hh] at k
            exact AfterO.later k (s1.trans s2)
          · have hh : o.hears l = some ({ o with closed := o.closed.set t1 (some (num l 4 4)) }, 1) := by
              unfold Km349.Office.hears
              rw [eb, ec]
              dsimp only
              rw [if_neg hbb, if_neg (by rw [e]; decide)]
            rw [heard_some hh] at k
            exact AfterO.later k (s1.trans s2)
        · have ht0 : ¬ l[0]? = some 2 := fun z => c2 (decide_eq_true (by rw [h0] at z; have := Option.some.inj z; rw [this]; rfl))
          have ec := close_not ht0
          rw [ec] at hrt
          obtain ⟨eb, hb8, hn⟩ := ballot_some (n := o.candidates) h1 (hrt.resolve_right (by decide))
          refine ⟨_, rfl, p, dx, _, rfl, B1.self, no_Office_heard_ballot _ _ _ _ _ _, _, rfl, r, l, t1, rfl, hr1, h1, _, rfl, r, l, rfl, hr1, hl, hb, fun H2 s2 => ?_⟩
          refine ⟨(by show 2 ≤ sizeLine; decide), fun t ht => ?_⟩
          have s3 := (s1.trans s2).trans (Same.new (o := .tup [.int (t1 : Nat), .int (num l 4 4 : Nat)]) ht)
          refine ⟨_, rfl, r, l, rfl, s3.seq hr0, hl, fun q H4 nq s4 e4 => ?_⟩
          have s5 := s3.trans s4
          refine ⟨p, t, q, own, o, ⟨t1, num l 4 4, (l.drop 8).take 8⟩, rfl, B0.stay (fun x _ u e => s5 x u e), G, hb8, hn, r8, s4 _ _ upd_same, e4, fun z => ?_, fun e => ?_, fun e => ?_⟩
          · obtain ⟨u, hu⟩ := B0.trk q z
            rw [s3 _ _ hu] at nq
            cases nq
          · have hh : o.hears l = some (o, 0) := by
              unfold Km349.Office.hears
              rw [eb]
              dsimp only
              rw [if_neg hbb, if_pos e]
            rw [heard_some hh] at k
            exact AfterO.later k s5
          · have hh : o.hears l = some ({ o with ballots := Km349.insert ⟨t1, num l 4 4, (l.drop 8).take 8⟩ o.ballots }, 1) := by
              unfold Km349.Office.hears
              rw [eb]
              dsimp only
              rw [if_neg hbb, if_neg (by rw [e]; decide)]
            rw [heard_some hh] at k
            exact AfterO.later k s5
end
end My
/-! One call: where it ends, whom it goes to. -/
namespace My
open PySem PySem.Spec PyProof.Rows L2
open Km349 (bDoes oDoes only)
open Km349Neutral (told S step)
open Of (Good)
open Fm (IsB IsO Len)
open Fl (flat)
theorem iteVT {A B : Prop} {i j : Int} (h : i = j) (p : A) : if decide (V.int i = V.int j) = true then A else B := by
  rw [h, decide_eq_true rfl]
  exact p
theorem iteVF {A B : Prop} {i j : Int} (h : ¬ i = j) (p : B) : if decide (V.int i = V.int j) = true then A else B := by
  rw [decide_eq_false fun z => h (by injection z)]
  exact p
theorem lens_get {z n : Nat} (h : Fm.lens[z]? = some n) : tab_LENGTHS[z]? = some (n : Int) := by
  have e : tab_LENGTHS = nums Fm.lens := rfl
  rw [e]
  unfold nums Km349Neutral.nums
  rw [List.getElem?_map, h]
  rfl
def spEnd (K : PySem.W.Frag) : Sp := fun vs H Q _ => ∃ (p : Addr) (l f t : List Int) (i : Nat), vs = [.ref p, .int i] ∧ SqL K H p (iv l) ∧ l.drop i = f ++ t ∧ Len f ∧ ∀ H', Same H H' → Q (.int ((i + f.length : Nat) : Int)) H'
theorem get_of_drop {l f t : List Int} {i j : Nat} {z : Int} (h : l.drop i = f ++ t) (hz : f[j]? = some z) : l[i + j]? = some z := by
  rw [← List.getElem?_drop, h, List.getElem?_append_left (List.getElem?_eq_some_iff.mp hz).1]
  exact hz
theorem After.later {C : Addr} {H H2 : Hp} {p : Addr} {own : List Addr} {Q : VK} {b : Km349.Booth} {ans : List Int} (k : After C H p own Q b ans) (s : Same H H2) : After C H2 p own Q b ans :=
  fun H' own' r B h1 h2 h3 h4 h5 h6 => k H' own' r B (fun x hx => (h1 x hx).imp id fun z => s.free z) (fun x u e hx => h2 x u (s x u e) hx) (s.free h3) h4 h5 h6
def spBAns (K : PySem.W.Frag) (C : Addr) : Sp := fun vs H Q _ => ∃ (q p : Addr) (own : List Addr) (b : Km349.Booth) (c : List (List Int)) (k : Nat) (x : Km349.Call), vs = [.ref q, .ref p] ∧ SqL K H q (iv (flat c)) ∧ IsB c k x ∧ BoothAt C H p own b ∧ b.candidates ≤ 8 ∧
  After C H p own Q (bDoes b x).1 (told (bDoes b x).2)
def spOAns (K : PySem.W.Frag) (C : Addr) : Sp := fun vs H Q _ => ∃ (q p : Addr) (own : List Addr) (o : Km349.Office) (c : List (List Int)) (k : Nat) (x : Km349.Call), vs = [.ref q, .ref p] ∧ SqL K H q (iv (flat c)) ∧ IsO c k x ∧ OfficeAt C H p own o ∧ (Km349.isStart x = false → Good o) ∧
  AfterO C H p own Q (oDoes o x).1 (told (oDoes o x).2)
section
variable {P : Program} {w : World} {K : PySem.W.Frag} {mg : Str → Option Value} {base : Heap} {a : Ad}
theorem ok_end_of_call (T : Txt K mg a) : FnOk P w K mg base CX0 1 a.f_end_of_call a.d_end_of_call ["calls", "at"] (spEnd K) := by
  refine T.F_end_of_call.ok sc_end_of_call (fun vs H Q E h => ?_) (fun cdv A outer s H vs Q E hr h => ?_)
  · obtain ⟨p, l, f, t, i, rfl, _⟩ := h
    rfl
  · obtain ⟨p, l, f, t, i, rfl, hp, hd, hf, k⟩ := h
    refine ⟨_, (pss_cons (ps_set (i := 2) sc_end_of_call.nd rfl (Or.inl rfl) (pe_op op_add (pv 1) (pe_ix (r := rIxT K) ix_tup (pe_glob (v := .ref _) rfl T.g_LENGTHS rfl) (pe_ix (r := rIxL K) ix_list (pv 0) (pv 1) (fun _ _ => rfl)) (fun _ _ => rfl))))
      (pss_cons (ps_if (pt_cmpR op_in_seq (pe_ix (r := rIxL K) ix_list (pv 0) (pv 1) (fun _ _ => rfl)) (pe_tup (pa_cons (pgi rfl T.g_VB_VOTE) (pa_cons (pgi rfl T.g_VO_HEARD) (pa_cons (pgi rfl T.g_VO_AGAINST) pa_nil)))) (by rfl)) (pss_one (ps_ret (pe_op op_add (pv 2) (pe_ix (r := rIxL K) ix_list (pv 0) (pe_op op_sub (pv 2) pe_int) (fun _ _ => rfl))))) pss_nil)
      (pss_one (ps_ret (pv 2))))), ?_⟩
    obtain ⟨z, hz, hcase⟩ := hf
    have h0 := get_of_drop hd hz
    rw [Nat.add_zero] at h0
    have h0' := iv_at h0
    obtain ⟨n, hn⟩ : ∃ n, Fm.lens[z]? = some n := by
      rcases hcase with ⟨n, _, hn, _⟩ | ⟨c, _⟩
      · exact ⟨n, hn⟩
      · rcases c with rfl | rfl | rfl <;> exact ⟨_, rfl⟩
    refine ⟨_, rfl, _, rfl, _, rfl, p, _, _, _, rfl, rfl, hp, atI_nat h0', a.r_LENGTHS, _, _, _, rfl, rfl, T.o_LENGTHS.sq H, atI_nat (iv_at (lens_get hn)), _, _, rfl, rfl, ?_⟩
    refine ⟨_, rfl, _, rfl, p, _, _, _, rfl, rfl, hp, atI_nat h0', (by show 3 ≤ sizeLine; decide), fun q hq => ?_⟩
    have s1 := Same.new (o := .tup [.int 1, .int 5, .int 9]) hq
    refine ⟨q, _, rfl, .inr (SqT.of upd_same), rfl, rfl, _, rfl, ?_⟩
    rcases hcase with ⟨n', hc, hn', hl⟩ | ⟨hc, m, hm, hl⟩
    · have e : n = n' := Option.some.inj (hn.symm.trans hn')
      subst e
      have ev : (if false = true then !inV (.int z) [.int 1, .int 5, .int 9] else inV (.int z) [.int 1, .int 5, .int 9]) = false := by
        rcases hc with rfl | rfl | rfl | rfl | rfl | rfl | rfl <;> rfl
      have ev2 : inV (V.int (z : Int)) [.int 1, .int 5, .int 9] = false := ev
      refine ite2 (fun c => ?_) (fun c => ?_)
      · exact absurd (ev.symm.trans c) (by decide)
      · have := k _ s1
        rw [hl] at this
        exact ⟨_, rfl, this⟩
    · have ev : (if false = true then !inV (.int z) [.int 1, .int 5, .int 9] else inV (.int z) [.int 1, .int 5, .int 9]) = true := by
        rcases hc with rfl | rfl | rfl <;> rfl
      have e3 : n = 3 := by rcases hc with rfl | rfl | rfl <;> exact (Option.some.inj hn).symm
      subst e3
      refine ite2 (fun c => ?_) (fun c => ?_)
      · have h2 := iv_at (get_of_drop hd hm)
        refine ⟨_, rfl, _, rfl, _, rfl, _, _, rfl, rfl, p, _, _, _, rfl, rfl, s1.seq hp, at_of (j := i + 2) (by omega) h2, _, _, rfl, rfl, ?_⟩
        have := k _ s1
        rw [hl] at this
        have e : ((i : Int) + ((3 : Nat) : Int)) + (m : Int) = ((i + (3 + m) : Nat) : Int) := by omega
        rw [← e] at this
        exact this
      · exact absurd ev c
theorem ok_booth_answer (T : Txt K mg a) : FnOk P w K mg base CX0 7 a.f_booth_answer a.d_booth_answer ["call", "booth"] (spBAns K a.c_Booth) := by
  refine T.F_booth_answer.ok sc_booth_answer (fun vs H Q E h => ?_) (fun cdv A outer s H vs Q E hr h => ?_)
  · obtain ⟨q, p, own, b, c, k, x, rfl, _⟩ := h
    rfl
  · obtain ⟨q, p, own, b, c, kk, x, rfl, hq, hx, B, h8, k⟩ := h
    refine ⟨_, (pss_cons (ps_if (pt_cmpR op_eq (pe_ix (r := rIxL K) ix_list (pv 0) pe_int (fun _ _ => rfl)) (pgi rfl T.g_VB_START) (nomark _)) (pss_one (ps_ret (pe_meth (pv 1) T.cl_Booth T.M_Booth_start (ok_Booth_start T) (hr.mono (by decide)) T.b_Booth_start .nil pass0 (pa_cons (pe_ix (r := rIxL K) ix_list (pv 0) pe_int (fun _ _ => rfl)) (pa_cons (pe_ix (r := rIxL K) ix_list (pv 0) pe_int (fun _ _ => rfl)) pa_nil))))) pss_nil)
      (pss_cons (ps_if (pt_cmpR op_eq (pe_ix (r := rIxL K) ix_list (pv 0) pe_int (fun _ _ => rfl)) (pgi rfl T.g_VB_VOTE) (nomark _)) (pss_one (ps_ret (pe_meth (pv 1) T.cl_Booth T.M_Booth_vote (ok_Booth_vote T) (hr.mono (by decide)) T.b_Booth_vote .nil pass0 (pa_cons (pe_slice sl_list (pv 0) (po_some pe_int) po_none) pa_nil)))) pss_nil)
      (pss_cons (ps_if (pt_cmpR op_eq (pe_ix (r := rIxL K) ix_list (pv 0) pe_int (fun _ _ => rfl)) (pgi rfl T.g_VB_CLOSE) (nomark _)) (pss_one (ps_ret (pe_meth0 (pv 1) T.cl_Booth T.M_Booth_close (ok_Booth_close T) (hr.mono (by decide)) T.b_Booth_close .nil pass0))) pss_nil)
      (pss_one (ps_ret (pe_meth (pv 1) T.cl_Booth T.M_Booth_again (ok_Booth_again T) (hr.mono (by decide)) T.b_Booth_again .nil pass0 (pa_cons (pe_ix (r := rIxL K) ix_list (pv 0) pe_int (fun _ _ => rfl)) pa_nil))))))), ?_⟩
    have B0 := B
    obtain ⟨dx, q', rs, eo, hp, _⟩ := B
    cases hx with
    | c0 kk x y =>
      refine ⟨_, rfl, q, _, _, _, rfl, rfl, hq, atI_nat (j := 0) (iv_at (z := 0) rfl), rfl, _, rfl, ?_⟩
      refine iteVT rfl ?_
      refine ⟨_, rfl, p, dx, _, rfl, hp, no_Booth_start _ _ _ _, _, rfl, q, _, _, _, rfl, rfl, hq, atI_nat (j := 2) (iv_at (z := (x : Int)) rfl), _, rfl, q, _, _, _, rfl, rfl, hq, atI_nat (j := 3) (iv_at (z := (y : Int)) rfl), ?_⟩
      exact ⟨p, own, b, x, y, rfl, B0, k⟩
    | c1 kk l hl hb =>
      refine ⟨_, rfl, q, _, _, _, rfl, rfl, hq, atI_nat (j := 0) (iv_at (z := 1) rfl), rfl, _, rfl, ?_⟩
      refine iteVF (by decide) ?_
      refine ⟨_, rfl, q, _, _, _, rfl, rfl, hq, atI_nat (j := 0) (iv_at (z := 1) rfl), rfl, _, rfl, ?_⟩
      refine iteVT rfl ?_
      refine ⟨_, rfl, p, dx, _, rfl, hp, no_Booth_vote _ _ _ _, _, rfl, _, rfl, q, _, rfl, hq, fun r nr => ?_⟩
      have e : cutV (iv (flat [[1, (kk : Int)], Km349Neutral.nums l])) (some (3 : Int)) none = iv (nums l) := cut_from (flat [[1, (kk : Int)], Km349Neutral.nums l]) 3
      rw [e]
      have s1 := Same.new (o := .lst (iv (nums l))) nr
      exact ⟨p, r, own, b, l, rfl, B0.stay (fun x _ u e => s1 x u e), SqL.of upd_same, hl, hb, h8, After.later k s1⟩
    | c2 kk =>
      refine ⟨_, rfl, q, _, _, _, rfl, rfl, hq, atI_nat (j := 0) (iv_at (z := 2) rfl), rfl, _, rfl, ?_⟩
      refine iteVF (by decide) ?_
      refine ⟨_, rfl, q, _, _, _, rfl, rfl, hq, atI_nat (j := 0) (iv_at (z := 2) rfl), rfl, _, rfl, ?_⟩
      refine iteVF (by decide) ?_
      refine ⟨_, rfl, q, _, _, _, rfl, rfl, hq, atI_nat (j := 0) (iv_at (z := 2) rfl), rfl, _, rfl, ?_⟩
      refine iteVT rfl ?_
      exact ⟨_, rfl, p, dx, _, rfl, hp, no_Booth_close _ _ _ _, p, own, b, rfl, B0, k⟩
    | c3 kk x =>
      refine ⟨_, rfl, q, _, _, _, rfl, rfl, hq, atI_nat (j := 0) (iv_at (z := 3) rfl), rfl, _, rfl, ?_⟩
      refine iteVF (by decide) ?_
      refine ⟨_, rfl, q, _, _, _, rfl, rfl, hq, atI_nat (j := 0) (iv_at (z := 3) rfl), rfl, _, rfl, ?_⟩
      refine iteVF (by decide) ?_
      refine ⟨_, rfl, q, _, _, _, rfl, rfl, hq, atI_nat (j := 0) (iv_at (z := 3) rfl), rfl, _, rfl, ?_⟩
      refine iteVF (by decide) ?_
      refine ⟨_, rfl, p, dx, _, rfl, hp, no_Booth_again _ _ _ _, _, rfl, q, _, _, _, rfl, rfl, hq, atI_nat (j := 2) (iv_at (z := (x : Int)) rfl), ?_⟩
      exact ⟨p, own, b, x, rfl, B0, k⟩
theorem ok_office_answer (T : Txt K mg a) : FnOk P w K mg base CX0 7 a.f_office_answer a.d_office_answer ["call", "office"] (spOAns K a.c_Office) := by
  refine T.F_office_answer.ok sc_office_answer (fun vs H Q E h => ?_) (fun cdv A outer s H vs Q E hr h => ?_)
  · obtain ⟨q, p, own, o, c, k, x, rfl, _⟩ := h
    rfl
  · obtain ⟨q, p, own, o, c, kk, x, rfl, hq, hx, B, G, k⟩ := h
    refine ⟨_, (pss_cons (ps_if (pt_cmpR op_eq (pe_ix (r := rIxL K) ix_list (pv 0) pe_int (fun _ _ => rfl)) (pgi rfl T.g_VO_START) (nomark _)) (pss_one (ps_ret (pe_meth (pv 1) T.cl_Office T.M_Office_start (ok_Office_start T) (hr.mono (by decide)) T.b_Office_start .nil pass0 (pa_cons (pe_ix (r := rIxL K) ix_list (pv 0) pe_int (fun _ _ => rfl)) (pa_cons (pe_ix (r := rIxL K) ix_list (pv 0) pe_int (fun _ _ => rfl)) pa_nil))))) pss_nil)
      (pss_cons (ps_if (pt_cmpR op_eq (pe_ix (r := rIxL K) ix_list (pv 0) pe_int (fun _ _ => rfl)) (pgi rfl T.g_VO_HEARD) (nomark _)) (pss_one (ps_ret (pe_meth (pv 1) T.cl_Office T.M_Office_heard (ok_Office_heard T) (hr.mono (by decide)) T.b_Office_heard .nil pass0 (pa_cons (pe_slice sl_list (pv 0) (po_some pe_int) po_none) pa_nil)))) pss_nil)
      (pss_cons (ps_if (pt_cmpR op_eq (pe_ix (r := rIxL K) ix_list (pv 0) pe_int (fun _ _ => rfl)) (pgi rfl T.g_VO_LACKS) (nomark _)) (pss_one (ps_ret (pe_meth (pv 1) T.cl_Office T.M_Office_lacks (ok_Office_lacks T) (hr.mono (by decide)) T.b_Office_lacks .nil pass0 (pa_cons (pe_ix (r := rIxL K) ix_list (pv 0) pe_int (fun _ _ => rfl)) pa_nil)))) pss_nil)
      (pss_cons (ps_if (pt_cmpR op_eq (pe_ix (r := rIxL K) ix_list (pv 0) pe_int (fun _ _ => rfl)) (pgi rfl T.g_VO_PREFER) (nomark _)) (pss_one (ps_ret (pe_meth (pv 1) T.cl_Office T.M_Office_prefer (ok_Office_prefer T) (hr.mono (by decide)) T.b_Office_prefer .nil pass0 (pa_cons (pe_ix (r := rIxL K) ix_list (pv 0) pe_int (fun _ _ => rfl)) (pa_cons (pe_ix (r := rIxL K) ix_list (pv 0) pe_int (fun _ _ => rfl)) pa_nil))))) pss_nil)
      (pss_cons (ps_if (pt_cmpR op_eq (pe_ix (r := rIxL K) ix_list (pv 0) pe_int (fun _ _ => rfl)) (pgi rfl T.g_VO_ORDER) (nomark _)) (pss_one (ps_ret (pe_meth0 (pv 1) T.cl_Office T.M_Office_order (ok_Office_order T) (hr.mono (by decide)) T.b_Office_order .nil pass0))) pss_nil)
      (pss_one (ps_ret (pe_meth (pv 1) T.cl_Office T.M_Office_against (ok_Office_against T) (hr.mono (by decide)) T.b_Office_against .nil pass0 (pa_cons (pe_slice sl_list (pv 0) (po_some pe_int) po_none) pa_nil))))))))), ?_⟩
    have B0 := B
    obtain ⟨dx, d1, d2, m, fd, rws, kvs, cvs, fl, eo, B⟩ := B
    have hp := B.self
    cases hx with
    | c4 kk x y =>
      refine ⟨_, rfl, q, _, _, _, rfl, rfl, hq, atI_nat (j := 0) (iv_at (z := 4) rfl), rfl, _, rfl, ?_⟩
      refine iteVT rfl ?_
      refine ⟨_, rfl, p, dx, _, rfl, hp, no_Office_start _ _ _ _ _ _, _, rfl, q, _, _, _, rfl, rfl, hq, atI_nat (j := 2) (iv_at (z := (x : Int)) rfl), _, rfl, q, _, _, _, rfl, rfl, hq, atI_nat (j := 3) (iv_at (z := (y : Int)) rfl), ?_⟩
      exact ⟨p, own, o, x, y, rfl, B0, k⟩
    | c5 kk l hl hb =>
      refine ⟨_, rfl, q, _, _, _, rfl, rfl, hq, atI_nat (j := 0) (iv_at (z := 5) rfl), rfl, _, rfl, ?_⟩
      refine iteVF (by decide) ?_
      refine ⟨_, rfl, q, _, _, _, rfl, rfl, hq, atI_nat (j := 0) (iv_at (z := 5) rfl), rfl, _, rfl, ?_⟩
      refine iteVT rfl ?_
      refine ⟨_, rfl, p, dx, _, rfl, hp, no_Office_heard _ _ _ _ _ _, _, rfl, _, rfl, q, _, rfl, hq, fun r nr => ?_⟩
      have e : cutV (iv (flat [[5, (kk : Int)], Km349Neutral.nums l])) (some (3 : Int)) none = iv (nums l) := cut_from (flat [[5, (kk : Int)], Km349Neutral.nums l]) 3
      rw [e]
      have s1 := Same.new (o := .lst (iv (nums l))) nr
      exact ⟨p, r, own, o, l, rfl, B0.stay (fun x _ u e => s1 x u e), G rfl, SqL.of upd_same, hl, hb, AfterO.later k s1⟩
    | c6 kk x =>
      refine ⟨_, rfl, q, _, _, _, rfl, rfl, hq, atI_nat (j := 0) (iv_at (z := 6) rfl), rfl, _, rfl, ?_⟩
      refine iteVF (by decide) ?_
      refine ⟨_, rfl, q, _, _, _, rfl, rfl, hq, atI_nat (j := 0) (iv_at (z := 6) rfl), rfl, _, rfl, ?_⟩
      refine iteVF (by decide) ?_
      refine ⟨_, rfl, q, _, _, _, rfl, rfl, hq, atI_nat (j := 0) (iv_at (z := 6) rfl), rfl, _, rfl, ?_⟩
      refine iteVT rfl ?_
      refine ⟨_, rfl, p, dx, _, rfl, hp, no_Office_lacks _ _ _ _ _ _, _, rfl, q, _, _, _, rfl, rfl, hq, atI_nat (j := 2) (iv_at (z := (x : Int)) rfl), ?_⟩
      exact ⟨p, own, o, x, rfl, B0, k⟩
    | c7 kk x y =>
      refine ⟨_, rfl, q, _, _, _, rfl, rfl, hq, atI_nat (j := 0) (iv_at (z := 7) rfl), rfl, _, rfl, ?_⟩
      refine iteVF (by decide) ?_
      refine ⟨_, rfl, q, _, _, _, rfl, rfl, hq, atI_nat (j := 0) (iv_at (z := 7) rfl), rfl, _, rfl, ?_⟩
      refine iteVF (by decide) ?_
      refine ⟨_, rfl, q, _, _, _, rfl, rfl, hq, atI_nat (j := 0) (iv_at (z := 7) rfl), rfl, _, rfl, ?_⟩
      refine iteVF (by decide) ?_
      refine ⟨_, rfl, q, _, _, _, rfl, rfl, hq, atI_nat (j := 0) (iv_at (z := 7) rfl), rfl, _, rfl, ?_⟩
      refine iteVT rfl ?_
      refine ⟨_, rfl, p, dx, _, rfl, hp, no_Office_prefer _ _ _ _ _ _, _, rfl, q, _, _, _, rfl, rfl, hq, atI_nat (j := 2) (iv_at (z := (x : Int)) rfl), _, rfl, q, _, _, _, rfl, rfl, hq, atI_nat (j := 3) (iv_at (z := (y : Int)) rfl), ?_⟩
      exact ⟨p, own, o, x, y, rfl, B0, k⟩
    | c8 kk =>
      refine ⟨_, rfl, q, _, _, _, rfl, rfl, hq, atI_nat (j := 0) (iv_at (z := 8) rfl), rfl, _, rfl, ?_⟩
      refine iteVF (by decide) ?_
      refine ⟨_, rfl, q, _, _, _, rfl, rfl, hq, atI_nat (j := 0) (iv_at (z := 8) rfl), rfl, _, rfl, ?_⟩
      refine iteVF (by decide) ?_
      refine ⟨_, rfl, q, _, _, _, rfl, rfl, hq, atI_nat (j := 0) (iv_at (z := 8) rfl), rfl, _, rfl, ?_⟩
      refine iteVF (by decide) ?_
      refine ⟨_, rfl, q, _, _, _, rfl, rfl, hq, atI_nat (j := 0) (iv_at (z := 8) rfl), rfl, _, rfl, ?_⟩
      refine iteVF (by decide) ?_
      refine ⟨_, rfl, q, _, _, _, rfl, rfl, hq, atI_nat (j := 0) (iv_at (z := 8) rfl), rfl, _, rfl, ?_⟩
      refine iteVT rfl ?_
      exact ⟨_, rfl, p, dx, _, rfl, hp, no_Office_order _ _ _ _ _ _, p, own, o, rfl, B0, G rfl, k⟩
    | c9 kk l hl =>
      refine ⟨_, rfl, q, _, _, _, rfl, rfl, hq, atI_nat (j := 0) (iv_at (z := 9) rfl), rfl, _, rfl, ?_⟩
      refine iteVF (by decide) ?_
      refine ⟨_, rfl, q, _, _, _, rfl, rfl, hq, atI_nat (j := 0) (iv_at (z := 9) rfl), rfl, _, rfl, ?_⟩
      refine iteVF (by decide) ?_
      refine ⟨_, rfl, q, _, _, _, rfl, rfl, hq, atI_nat (j := 0) (iv_at (z := 9) rfl), rfl, _, rfl, ?_⟩
      refine iteVF (by decide) ?_
      refine ⟨_, rfl, q, _, _, _, rfl, rfl, hq, atI_nat (j := 0) (iv_at (z := 9) rfl), rfl, _, rfl, ?_⟩
      refine iteVF (by decide) ?_
      refine ⟨_, rfl, q, _, _, _, rfl, rfl, hq, atI_nat (j := 0) (iv_at (z := 9) rfl), rfl, _, rfl, ?_⟩
      refine iteVF (by decide) ?_
      refine ⟨_, rfl, p, dx, _, rfl, hp, no_Office_against _ _ _ _ _ _, _, rfl, _, rfl, q, _, rfl, hq, fun r nr => ?_⟩
      have e : cutV (iv (flat [[9, (kk : Int)], Km349Neutral.nums l])) (some (3 : Int)) none = iv (nums l) := cut_from (flat [[9, (kk : Int)], Km349Neutral.nums l]) 3
      rw [e]
      have s1 := Same.new (o := .lst (iv (nums l))) nr
      exact ⟨p, r, own, o, l, rfl, B0.stay (fun x _ u e => s1 x u e), G rfl, SqL.of upd_same, hl, AfterO.later k s1⟩
end
end My
/-! All calls: four booths, one office. -/
namespace My
open PySem PySem.Spec PyProof.Rows L2
open Km349 (bDoes oDoes only)
open Km349Neutral (told S step step0 step1 asked1 may start)
open Of (Good)
open Fm (IsB IsO Len)
open Fl (flat)
/-- four booths and one office stand as st tells -/
structure Wd (C1 C2 : Addr) (H : Hp) (bl : Addr) (ps : List Addr) (po : Addr) (own : Nat → List Addr) (st : S) : Prop where
  l1 : st.1.length = 4
  l2 : st.2.length = 1
  top : H bl = some (.lst (ps.map V.ref))
  len : ps.length = 4
  sys : Sys H 6 own
  o5 : bl ∈ own 5
  booth : ∀ (i : Nat) (p : Addr), ps[i]? = some p → ∃ b, BoothAt C1 H p (own i) b ∧ b.candidates ≤ 8 ∧ ∀ x, st.1.getD i none = some x → b = x
  office : ∃ o, OfficeAt C2 H po (own 4) o ∧ ∀ x, st.2.getD 0 none = some x → o = x ∧ Good x
def spAns (K : PySem.W.Frag) (C1 C2 : Addr) : Sp := fun vs H Q _ => ∃ (q bl po : Addr) (ps : List Addr) (own : Nat → List Addr) (st : S) (c : List (List Int)), vs = [.ref q, .ref bl, .ref po] ∧ SqL K H q (iv (flat c)) ∧ Wd C1 C2 H bl ps po own st ∧ asked1 c = true ∧ (step st c).2 ≠ [] ∧
  ∀ (H' : Hp) (own' : Nat → List Addr) (r : Addr), Wd C1 C2 H' bl ps po own' (step st c).1 → own' 5 = own 5 → (∀ i, i < 5 → ∀ x ∈ own' i, x ∈ own i ∨ H x = none) → (∀ x u, H x = some u → (∀ i, i < 5 → x ∉ own i) → H' x = some u) → H r = none → (∀ i, i < 6 → r ∉ own' i) → (step st c).2.length ≤ 21 →
    H' r = some (.lst (iv (step st c).2)) → Q (.ref r) H'
def sp_answers (K : PySem.W.Frag) : Sp := fun vs H Q _ => ∃ (p : Addr) (l : List Int), vs = [.ref p] ∧ SqL K H p (iv l) ∧ PyKm349.answers_asked l = true ∧ l.length ≤ 30000 ∧ ∀ (H' : Hp) (r : Addr), H' r = some (.lst (iv (PyKm349.answers l))) → Q (.ref r) H'
theorem getD_set {α : Type} {l : List (Option α)} {k i : Nat} {y : α} (h : k < l.length) : (l.set k (some y)).getD i none = if i = k then some y else l.getD i none := by
  rw [List.getD_eq_getElem?_getD, List.getElem?_set]
  by_cases e : i = k
  · subst e
    rw [if_pos rfl, if_pos rfl, if_pos h]
    rfl
  · rw [if_neg fun z => e z.symm, if_neg e, List.getD_eq_getElem?_getD]
theorem step0_is {st : S} {c : List (List Int)} {k : Nat} {x : Km349.Call} (hx : IsB c k x) (hk : k < 4) (hne : (step0 st k x).2 ≠ []) {b : Km349.Booth} (hb : ∀ y, st.1.getD k none = some y → b = y) :
    (step0 st k x).2 = told (bDoes b x).2 ∧ ((step0 st k x).1 = (st.1.set k (some (bDoes b x).1), st.2) ∨ ((step0 st k x).1 = st ∧ (bDoes b x).1 = b)) := by
  cases hx with
  | c0 _ me n =>
    rw [Fl.step_bStart st hk]
    unfold bDoes
    dsimp only
    by_cases c : Km349.BOOTHS ≤ me ∨ Km349.okCandidates n = false
    · rw [if_pos c, if_pos c]
      exact ⟨rfl, .inr ⟨rfl, rfl⟩⟩
    · rw [if_neg c, if_neg c]
      exact ⟨rfl, .inl rfl⟩
  | c1 _ l _ _ =>
    obtain ⟨_, y, e1, e2⟩ := Fl.step0_some hne rfl
    have := hb y e1
    subst this
    rw [e2]
    exact ⟨rfl, .inl rfl⟩
  | c2 _ =>
    obtain ⟨_, y, e1, e2⟩ := Fl.step0_some hne rfl
    have := hb y e1
    subst this
    rw [e2]
    exact ⟨rfl, .inl rfl⟩
  | c3 _ n =>
    obtain ⟨_, y, e1, e2⟩ := Fl.step0_some hne rfl
    have := hb y e1
    subst this
    rw [e2]
    exact ⟨rfl, .inl rfl⟩
theorem cand_does {b : Km349.Booth} {c : List (List Int)} {k : Nat} {x : Km349.Call} (hx : IsB c k x) (h : b.candidates ≤ 8) : (bDoes b x).1.candidates ≤ 8 := by
  cases hx with
  | c0 _ me n =>
    unfold bDoes
    dsimp only
    split
    · exact h
    · rename_i c
      have hn : Km349.okCandidates n = true := by
        cases q : Km349.okCandidates n with
        | true => rfl
        | false => exact absurd (.inr q) c
      unfold Km349.okCandidates at hn
      rw [Bool.and_eq_true, decide_eq_true_eq, decide_eq_true_eq] at hn
      exact hn.2
  | c1 _ l _ _ =>
    unfold bDoes
    dsimp only
    split
    · exact h
    · split
      · exact h
      · split
        · exact h
        · exact h
  | c2 _ => exact h
  | c3 _ n => exact h
theorem start_good {o : Km349.Office} {n m : Nat} (h : ¬ (Km349.okCandidates n = false ∨ m = 0 ∨ Km349.BOOTHS < m)) : Good (Km349.office0 n m) := by
  have h1 : Km349.okCandidates n = true := by
    cases q : Km349.okCandidates n with
    | true => rfl
    | false => exact absurd (.inl q) h
  unfold Km349.okCandidates at h1
  rw [Bool.and_eq_true, decide_eq_true_eq, decide_eq_true_eq] at h1
  exact Of.good0 h1.1 h1.2 (Nat.le_of_not_lt fun z => h (.inr (.inr z)))
theorem step1_is {st : S} {c : List (List Int)} {k : Nat} {x : Km349.Call} (hx : IsO c k x) (hk : k < 1) (hne : (step1 st k x).2 ≠ []) {o : Km349.Office} (ho : ∀ y, st.2.getD 0 none = some y → o = y ∧ Good y) :
    (Km349.isStart x = false → Good o) ∧ (step1 st k x).2 = told (oDoes o x).2 ∧ (((step1 st k x).1 = (st.1, st.2.set 0 (some (oDoes o x).1)) ∧ Good (oDoes o x).1) ∨ ((step1 st k x).1 = st ∧ (oDoes o x).1 = o)) := by
  have hk0 : k = 0 := by omega
  subst hk0
  have gen : Km349.isStart x = false → Good o ∧ (step1 st 0 x).2 = told (oDoes o x).2 ∧ (((step1 st 0 x).1 = (st.1, st.2.set 0 (some (oDoes o x).1)) ∧ Good (oDoes o x).1) ∨ ((step1 st 0 x).1 = st ∧ (oDoes o x).1 = o)) := fun hs => by
    obtain ⟨_, y, e1, e2⟩ := Fl.step1_some hne hs
    obtain ⟨e3, g⟩ := ho y e1
    subst e3
    rw [e2]
    exact ⟨g, rfl, .inl ⟨rfl, Of.good_does g x⟩⟩
  cases hs : Km349.isStart x with
  | false => exact ⟨fun _ => (gen hs).1, (gen hs).2⟩
  | true =>
    refine ⟨(fun z => by cases z), ?_⟩
    cases hx with
    | c4 _ n m =>
      rw [Fl.step_oStart st hk]
      unfold oDoes
      dsimp only
      by_cases c : Km349.okCandidates n = false ∨ m = 0 ∨ Km349.BOOTHS < m
      · rw [if_pos c, if_pos c]
        exact ⟨rfl, .inr ⟨rfl, rfl⟩⟩
      · rw [if_neg c, if_neg c]
        exact ⟨rfl, .inl ⟨rfl, start_good (o := o) c⟩⟩
    | c5 => cases hs
    | c6 => cases hs
    | c7 => cases hs
    | c8 => cases hs
    | c9 => cases hs
section
variable {P : Program} {w : World} {K : PySem.W.Frag} {mg : Str → Option Value} {base : Heap} {a : Ad}
theorem ok_answer_of (T : Txt K mg a) : FnOk P w K mg base CX0 8 a.f_answer_of a.d_answer_of ["call", "booths", "office"] (spAns K a.c_Booth a.c_Office) := by
  refine T.F_answer_of.ok sc_answer_of (fun vs H Q E h => ?_) (fun cdv A outer s H vs Q E hr h => ?_)
  · obtain ⟨q, bl, po, ps, own, st, c, rfl, _⟩ := h
    rfl
  · obtain ⟨q, bl, po, ps, own, st, c, rfl, hq, W, hc, hne, k⟩ := h
    refine ⟨_, (pss_cons (ps_if (pt_cmpR op_le (pe_ix (r := rIxL K) ix_list (pv 0) pe_int (fun _ _ => rfl)) (pgi rfl T.g_VB_AGAIN) (nomark _)) (pss_one (ps_ret (pe_call (ok_booth_answer T) (hr.mono (by decide)) rfl T.m_booth_answer T.F_booth_answer.kp T.b_booth_answer .nil pass0 (pa_cons (pv 0) (pa_cons (pe_ix (r := rIxL K) ix_list (pv 1) (pe_ix (r := rIxL K) ix_list (pv 0) pe_int (fun _ _ => rfl)) (fun _ _ => rfl)) pa_nil))))) pss_nil)
      (pss_one (ps_ret (pe_call (ok_office_answer T) (hr.mono (by decide)) rfl T.m_office_answer T.F_office_answer.kp T.b_office_answer .nil pass0 (pa_cons (pv 0) (pa_cons (pv 2) pa_nil)))))), ?_⟩
    rcases Fm.kind_of hc with ⟨kk, x, hx, hst⟩ | ⟨kk, x, hx, hst⟩
    · obtain ⟨hlen, h1, z, hz3, h0⟩ := Fm.lenB hx
      refine ⟨_, rfl, q, _, _, _, rfl, rfl, hq, atI_nat (j := 0) (iv_at h0), _, _, rfl, rfl, _, rfl, ?_⟩
      refine ite2 (fun c3 => ?_) (fun c3 => absurd (decide_eq_true (by (first | decide | exact Nat.lt_of_lt_of_le (by assumption) (by decide) | exact Nat.ne_of_lt (by assumption) | exact Nat.le_of_lt (by assumption) | omega))) c3)
      rw [hst] at hne k
      have hk4 := Fl.step0_lt hne
      obtain ⟨p, hp⟩ : ∃ p, ps[kk]? = some p := ⟨ps[kk]'(by rw [W.len]; exact hk4), List.getElem?_eq_getElem _⟩
      have hp' : (ps.map V.ref)[kk]? = some (.ref p) := by rw [List.getElem?_map, hp]; rfl
      obtain ⟨b, B, h8, hb⟩ := W.booth kk p hp
      obtain ⟨e1, e2⟩ := step0_is hx hk4 hne hb
      rw [e1] at k
      refine ⟨_, rfl, _, rfl, _, rfl, q, _, _, _, rfl, rfl, hq, atI_nat (j := 1) (iv_at h1), bl, _, _, _, rfl, rfl, SqL.of W.top, atI_nat hp', q, p, own kk, b, c, kk, x, rfl, hq, hx, B, h8, fun H' own' r B' ho hk hr hro hn hr' => ?_⟩
      have S' := W.sys.step (i := kk) (o' := own') (by (first | decide | exact Nat.lt_of_lt_of_le (by assumption) (by decide) | exact Nat.ne_of_lt (by assumption) | exact Nat.le_of_lt (by assumption) | omega)) ho B'.trk hk
      refine k H' (sysSet own kk own') r ⟨?_, ?_, ?_, W.len, S', ?_, fun i p' hp2 => ?_, ?_⟩ (sysSet_ne (by (first | decide | exact Nat.lt_of_lt_of_le (by assumption) (by decide) | exact Nat.ne_of_lt (by assumption) | exact Nat.le_of_lt (by assumption) | omega))) (fun i hi y hy => ?_) (fun y u e hy => hk y u e (hy kk (by (first | decide | exact Nat.lt_of_lt_of_le (by assumption) (by decide) | exact Nat.ne_of_lt (by assumption) | exact Nat.le_of_lt (by assumption) | omega)))) hr (fun i hi => ?_) hn hr'
      · rcases e2 with e | ⟨e, _⟩ <;> rw [e]
        · show (st.1.set kk _).length = 4
          rw [List.length_set]
          exact W.l1
        · exact W.l1
      · rcases e2 with e | ⟨e, _⟩ <;> rw [e] <;> exact W.l2
      · exact W.sys.other (i := kk) (j := 5) (by (first | decide | exact Nat.lt_of_lt_of_le (by assumption) (by decide) | exact Nat.ne_of_lt (by assumption) | exact Nat.le_of_lt (by assumption) | omega)) (by (first | decide | exact Nat.lt_of_lt_of_le (by assumption) (by decide) | exact Nat.ne_of_lt (by assumption) | exact Nat.le_of_lt (by assumption) | omega)) (by (first | decide | exact Nat.lt_of_lt_of_le (by assumption) (by decide) | exact Nat.ne_of_lt (by assumption) | exact Nat.le_of_lt (by assumption) | omega)) hk bl W.o5 _ W.top
      · rw [sysSet_ne (by (first | decide | exact Nat.lt_of_lt_of_le (by assumption) (by decide) | exact Nat.ne_of_lt (by assumption) | exact Nat.le_of_lt (by assumption) | omega))]
        exact W.o5
      · by_cases ei : i = kk
        · subst ei
          rw [hp] at hp2
          cases hp2
          refine ⟨_, by rw [sysSet_same]; exact B', cand_does hx h8, fun y hy => ?_⟩
          rcases e2 with e | ⟨e, e3⟩
          · rw [e] at hy
            have hy' : (st.1.set i (some (bDoes b x).1)).getD i none = some y := hy
            rw [getD_set (by rw [W.l1]; exact hk4), if_pos rfl] at hy'
            exact Option.some.inj hy'
          · rw [e] at hy
            rw [e3]
            exact hb y hy
        · have hi4 : i < 4 := by
            have := (List.getElem?_eq_some_iff.mp hp2).1
            rw [W.len] at this
            exact this
          obtain ⟨b2, B2, h82, hb2⟩ := W.booth i p' hp2
          refine ⟨b2, by rw [sysSet_ne ei]; exact B2.stay (W.sys.other (i := kk) (j := i) (by (first | decide | exact Nat.lt_of_lt_of_le (by assumption) (by decide) | exact Nat.ne_of_lt (by assumption) | exact Nat.le_of_lt (by assumption) | omega)) (by (first | decide | exact Nat.lt_of_lt_of_le (by assumption) (by decide) | exact Nat.ne_of_lt (by assumption) | exact Nat.le_of_lt (by assumption) | omega)) ei hk), h82, fun y hy => ?_⟩
          rcases e2 with e | ⟨e, _⟩
          · rw [e] at hy
            have hy' : (st.1.set kk (some (bDoes b x).1)).getD i none = some y := hy
            rw [getD_set (by rw [W.l1]; exact hk4), if_neg ei] at hy'
            exact hb2 y hy'
          · rw [e] at hy
            exact hb2 y hy
      · obtain ⟨o, O, ho2⟩ := W.office
        refine ⟨o, by rw [sysSet_ne (by (first | decide | exact Nat.lt_of_lt_of_le (by assumption) (by decide) | exact Nat.ne_of_lt (by assumption) | exact Nat.le_of_lt (by assumption) | omega))]; exact O.stay (W.sys.other (i := kk) (j := 4) (by (first | decide | exact Nat.lt_of_lt_of_le (by assumption) (by decide) | exact Nat.ne_of_lt (by assumption) | exact Nat.le_of_lt (by assumption) | omega)) (by (first | decide | exact Nat.lt_of_lt_of_le (by assumption) (by decide) | exact Nat.ne_of_lt (by assumption) | exact Nat.le_of_lt (by assumption) | omega)) (by (first | decide | exact Nat.lt_of_lt_of_le (by assumption) (by decide) | exact Nat.ne_of_lt (by assumption) | exact Nat.le_of_lt (by assumption) | omega)) hk), fun y hy => ?_⟩
        rcases e2 with e | ⟨e, _⟩ <;> rw [e] at hy <;> exact ho2 y hy
      · by_cases ei : i = kk
        · rw [ei, sysSet_same] at hy
          rw [ei]
          exact ho y hy
        · rw [sysSet_ne ei] at hy
          exact .inl hy
      · by_cases ei : i = kk
        · rw [ei, sysSet_same]
          exact hro
        · rw [sysSet_ne ei]
          intro z
          obtain ⟨u, hu⟩ := W.sys.trk i hi r z
          rw [hu] at hr
          cases hr
    · obtain ⟨hlen, z, hz4, h0⟩ := Fm.lenO hx
      refine ⟨_, rfl, q, _, _, _, rfl, rfl, hq, atI_nat (j := 0) (iv_at h0), _, _, rfl, rfl, _, rfl, ?_⟩
      refine ite2 (fun c3 => absurd (of_decide_eq_true c3) (by (first | decide | exact Nat.lt_of_lt_of_le (by assumption) (by decide) | exact Nat.ne_of_lt (by assumption) | exact Nat.le_of_lt (by assumption) | omega))) (fun c3 => ?_)
      rw [hst] at hne k
      have hk1 := Fl.step1_lt hne
      obtain ⟨o, O, ho2⟩ := W.office
      obtain ⟨g0, e1, e2⟩ := step1_is hx hk1 hne ho2
      rw [e1] at k
      refine ⟨_, rfl, _, rfl, q, po, own 4, o, c, kk, x, rfl, hq, hx, O, g0, fun H' own' r O' ho hk hr hro hn hr' => ?_⟩
      have S' := W.sys.step (i := 4) (o' := own') (by (first | decide | exact Nat.lt_of_lt_of_le (by assumption) (by decide) | exact Nat.ne_of_lt (by assumption) | exact Nat.le_of_lt (by assumption) | omega)) ho O'.trk hk
      refine k H' (sysSet own 4 own') r ⟨?_, ?_, ?_, W.len, S', ?_, fun i p' hp2 => ?_, ?_⟩ (sysSet_ne (by (first | decide | exact Nat.lt_of_lt_of_le (by assumption) (by decide) | exact Nat.ne_of_lt (by assumption) | exact Nat.le_of_lt (by assumption) | omega))) (fun i hi y hy => ?_) (fun y u e hy => hk y u e (hy 4 (by (first | decide | exact Nat.lt_of_lt_of_le (by assumption) (by decide) | exact Nat.ne_of_lt (by assumption) | exact Nat.le_of_lt (by assumption) | omega)))) hr (fun i hi => ?_) hn hr'
      · rcases e2 with ⟨e, _⟩ | ⟨e, _⟩ <;> rw [e] <;> exact W.l1
      · rcases e2 with ⟨e, _⟩ | ⟨e, _⟩ <;> rw [e]
        · show (st.2.set 0 _).length = 1
          rw [List.length_set]
          exact W.l2
        · exact W.l2
      · exact W.sys.other (i := 4) (j := 5) (by (first | decide | exact Nat.lt_of_lt_of_le (by assumption) (by decide) | exact Nat.ne_of_lt (by assumption) | exact Nat.le_of_lt (by assumption) | omega)) (by (first | decide | exact Nat.lt_of_lt_of_le (by assumption) (by decide) | exact Nat.ne_of_lt (by assumption) | exact Nat.le_of_lt (by assumption) | omega)) (by (first | decide | exact Nat.lt_of_lt_of_le (by assumption) (by decide) | exact Nat.ne_of_lt (by assumption) | exact Nat.le_of_lt (by assumption) | omega)) hk bl W.o5 _ W.top
      · rw [sysSet_ne (by (first | decide | exact Nat.lt_of_lt_of_le (by assumption) (by decide) | exact Nat.ne_of_lt (by assumption) | exact Nat.le_of_lt (by assumption) | omega))]
        exact W.o5
      · have hi4 : i < 4 := by
          have := (List.getElem?_eq_some_iff.mp hp2).1
          rw [W.len] at this
          exact this
        have ei : i ≠ 4 := by omega
        obtain ⟨b2, B2, h82, hb2⟩ := W.booth i p' hp2
        refine ⟨b2, by rw [sysSet_ne ei]; exact B2.stay (W.sys.other (i := 4) (j := i) (by (first | decide | exact Nat.lt_of_lt_of_le (by assumption) (by decide) | exact Nat.ne_of_lt (by assumption) | exact Nat.le_of_lt (by assumption) | omega)) (by (first | decide | exact Nat.lt_of_lt_of_le (by assumption) (by decide) | exact Nat.ne_of_lt (by assumption) | exact Nat.le_of_lt (by assumption) | omega)) ei hk), h82, fun y hy => ?_⟩
        rcases e2 with ⟨e, _⟩ | ⟨e, _⟩ <;> rw [e] at hy <;> exact hb2 y hy
      · refine ⟨_, by rw [sysSet_same]; exact O', fun y hy => ?_⟩
        rcases e2 with ⟨e, g⟩ | ⟨e, e3⟩
        · rw [e] at hy
          have hy' : (st.2.set 0 (some (oDoes o x).1)).getD 0 none = some y := hy
          rw [getD_set (by rw [W.l2]; decide), if_pos rfl] at hy'
          have e4 := Option.some.inj hy'
          exact ⟨e4, e4 ▸ g⟩
        · rw [e] at hy
          rw [e3]
          exact ho2 y hy
      · by_cases ei : i = 4
        · rw [ei, sysSet_same] at hy
          rw [ei]
          exact ho y hy
        · rw [sysSet_ne ei] at hy
          exact .inl hy
      · by_cases ei : i = 4
        · rw [ei, sysSet_same]
          exact hro
        · rw [sysSet_ne ei]
          intro z
          obtain ⟨u, hu⟩ := W.sys.trk i hi r z
          rw [hu] at hr
          cases hr
end
end My
/-! All calls of a list. -/
namespace My
open PySem PySem.Spec PyProof.Rows L2
open Km349 (bDoes oDoes only)
open Km349Neutral (told S step step0 step1 asked1 may start)
open Of (Good)
open Fm (IsB IsO Len)
open Fl (flat)
theorem made_free {H : Hp} {x dx C q : Addr} (hx : H x = none) (hd : H dx = none) (h : (upd (upd H dx (.own x)) x (.ins C dx [])) q = none) : H q = none := by
  cases e : H q with
  | none => rfl
  | some u =>
    rw [upd_ne (ne_of_none e hx), upd_ne (ne_of_none e hd), e] at h
    cases h
/-- what no booth and not the office owns may change -/
theorem Wd.put {C1 C2 : Addr} {H : Hp} {bl : Addr} {ps : List Addr} {po : Addr} {own : Nat → List Addr} {st : S} (W : Wd C1 C2 H bl ps po own st) {x : Addr} (hx : x ∈ own 5) (hb : x ≠ bl) (u : HO) : Wd C1 C2 (upd H x u) bl ps po own st := by
  have out : ∀ i, i < 5 → ∀ y ∈ own i, y ≠ x := fun i hi y hy z => W.sys.dis i 5 (by (first | decide | exact Nat.lt_of_lt_of_le (by assumption) (by decide) | exact Nat.ne_of_lt (by assumption) | exact Nat.le_of_lt (by assumption) | omega)) (by (first | decide | exact Nat.lt_of_lt_of_le (by assumption) (by decide) | exact Nat.ne_of_lt (by assumption) | exact Nat.le_of_lt (by assumption) | omega)) (by (first | decide | exact Nat.lt_of_lt_of_le (by assumption) (by decide) | exact Nat.ne_of_lt (by assumption) | exact Nat.le_of_lt (by assumption) | omega)) y hy (z ▸ hx)
  refine ⟨W.l1, W.l2, by rw [upd_ne hb.symm]; exact W.top, W.len, ⟨fun i hi y hy => ?_, W.sys.dis⟩, W.o5, fun i p hp => ?_, ?_⟩
  · by_cases e : y = x
    · exact ⟨u, by rw [e]; exact upd_same⟩
    · obtain ⟨v, hv⟩ := W.sys.trk i hi y hy
      exact ⟨v, by rw [upd_ne e]; exact hv⟩
  · have hi : i < 4 := by
      have := (List.getElem?_eq_some_iff.mp hp).1
      rw [W.len] at this
      exact this
    obtain ⟨b, B, h⟩ := W.booth i p hp
    exact ⟨b, B.stay (fun y hy v e => by rw [upd_ne (out i (by (first | decide | exact Nat.lt_of_lt_of_le (by assumption) (by decide) | exact Nat.ne_of_lt (by assumption) | exact Nat.le_of_lt (by assumption) | omega)) y hy)]; exact e), h⟩
  · obtain ⟨o, O, h⟩ := W.office
    exact ⟨o, O.stay (fun y hy v e => by rw [upd_ne (out 4 (by (first | decide | exact Nat.lt_of_lt_of_le (by assumption) (by decide) | exact Nat.ne_of_lt (by assumption) | exact Nat.le_of_lt (by assumption) | omega)) y hy)]; exact e), h⟩
theorem Wd.same {C1 C2 : Addr} {H H' : Hp} {bl : Addr} {ps : List Addr} {po : Addr} {own : Nat → List Addr} {st : S} (W : Wd C1 C2 H bl ps po own st) (s : Same H H') : Wd C1 C2 H' bl ps po own st := by
  refine ⟨W.l1, W.l2, s _ _ W.top, W.len, ⟨fun i hi y hy => ?_, W.sys.dis⟩, W.o5, fun i p hp => ?_, ?_⟩
  · obtain ⟨v, hv⟩ := W.sys.trk i hi y hy
    exact ⟨v, s _ _ hv⟩
  · obtain ⟨b, B, h⟩ := W.booth i p hp
    exact ⟨b, B.stay (fun y hy v e => s y v e), h⟩
  · obtain ⟨o, O, h⟩ := W.office
    exact ⟨o, O.stay (fun y hy v e => s y v e), h⟩
theorem out_small {n d : Nat} (h : n ≤ 22 * (5000 - (d + 1))) : n ≤ 1000000 := by omega
theorem out_small2 {n d m : Nat} (h : n ≤ 22 * (5000 - (d + 1))) (hm : m ≤ 21) : n + 1 + m ≤ 1000000 := by omega
theorem out_next {n d m : Nat} (h : n ≤ 22 * (5000 - (d + 1))) (hd : d + 1 ≤ 5000) (hm : m ≤ 21) : n + (m + 1) ≤ 22 * (5000 - d) := by omega
theorem sub_less {n i k : Nat} (h : i < n) (hk : 0 < k) : n - (i + k) < n - i := by omega
theorem six {i : Nat} (h : i < 6) : i < 4 ∨ i = 4 ∨ i = 5 := by omega
theorem four {i : Nat} (h : i < 4) : i = 0 ∨ i = 1 ∨ i = 2 ∨ i = 3 := by omega
theorem sub_pos' {n i : Nat} (h : i < n) : ¬ n - i = 0 := by omega
section
variable {P : Program} {w : World} {K : PySem.W.Frag} {mg : Str → Option Value} {base : Heap} {a : Ad}
theorem ok_answers (T : Txt K mg a) : FnOk P w K mg base CX0 9 a.f_answers a.d_answers ["calls"] (sp_answers K) := by
  refine T.F_answers.ok sc_answers (fun vs H Q E h => ?_) (fun cdv A outer s H vs Q E hr h => ?_)
  · obtain ⟨p, l, rfl, _⟩ := h
    rfl
  · obtain ⟨p, l, rfl, hp, hask, hl, k⟩ := h
    refine ⟨_, (pss_cons (ps_setLc (i := 1) rfl sc_answers.nd rfl rfl (sw_true rfl rfl rfl rfl) (pi_range1 rfl T.z_range (pa_cons (pgi rfl T.g_BOOTHS_OF_A_LIST) pa_nil)) blk_answers_0 (fun _ _ _ _ _ => (pg_name (i := 7) sc_answers.nd rfl (Or.inl rfl))) (fun _ _ _ _ _ => pts_nil) (fun _ _ _ _ _ => (pe_make0 T.mk_Booth (ok_Booth_init T) (hr.mono (by decide)) rfl T.m_Booth T.b_Booth_init .nil pass0)))
      (pss_cons (ps_set (i := 2) sc_answers.nd rfl (Or.inl rfl) (pe_make0 T.mk_Office (ok_Office_init T) (hr.mono (by decide)) rfl T.m_Office T.b_Office_init .nil pass0))
      (pss_cons (ps_set (i := 3) sc_answers.nd rfl (Or.inl rfl) (pe_lst pa_nil))
      (pss_cons (ps_set (i := 4) sc_answers.nd rfl (Or.inl rfl) pe_int)
      (pss_cons (ps_while PassesOwn.never (pt_cmpR op_lt (pv 4) (pe_callB call_len_seq (by rfl) T.z_len PySem.boot_len (pa_cons (pv 0) pa_nil)) (nomark _)) (pss_cons (ps_set (i := 5) sc_answers.nd rfl (Or.inl rfl) (pe_call (ok_end_of_call T) (hr.mono (by decide)) rfl T.m_end_of_call T.F_end_of_call.kp T.b_end_of_call .nil pass0 (pa_cons (pv 0) (pa_cons (pv 4) pa_nil))))
      (pss_cons (ps_set (i := 6) sc_answers.nd rfl (Or.inl rfl) (pe_call (ok_answer_of T) (hr.mono (by decide)) rfl T.m_answer_of T.F_answer_of.kp T.b_answer_of .nil pass0 (pa_cons (pe_slice sl_list (pv 0) (po_some (pv 4)) (po_some (pv 5))) (pa_cons (pv 1) (pa_cons (pv 2) pa_nil)))))
      (pss_cons (ps_expr (pe_bm PySem.F.plainAttrs_list PySem.F.slot_list_append PySem.F.type_list_append mt_append (pv 3) (pa_cons (pe_callB call_len_seq (by rfl) T.z_len PySem.boot_len (pa_cons (pv 6) pa_nil)) pa_nil)))
      (pss_cons (ps_expr (pe_bm PySem.F.plainAttrs_list PySem.F.slot_list_extend PySem.F.type_list_extend mt_extend (pv 3) (pa_cons (pv 6) pa_nil)))
      (pss_one (ps_set (i := 4) sc_answers.nd rfl (Or.inl rfl) (pv 5))))))))
      (pss_one (ps_ret (pv 3)))))))), ?_⟩
    obtain ⟨cs0, hcs0, hans0, hlen0, hall0, hmay0⟩ := Fl.asked_of hask
    refine ⟨(4 : Int), rfl, by decide, by decide, fun D hD => ?_⟩
    refine lc_range (n := 4) (fun i H' => Same H H' ∧ ∃ (ps : List Addr) (ow : Nat → List Addr), H' D = some (.lst (ps.map V.ref)) ∧ ps.length = i ∧ (∀ (j : Nat) (q : Addr), ps[j]? = some q → BoothAt a.c_Booth H' q (ow j) b0) ∧ Sys H' i ow ∧ ∀ j, j < i → ∀ x ∈ ow j, H x = none ∧ x ≠ D) ?_ ?_ ?_
    · exact ⟨Same.new hD, [], fun _ => [], upd_same, rfl, (fun j q e => by cases e), ⟨fun i hi => absurd hi (Nat.not_lt_zero _), fun i j hi => absurd hi (Nat.not_lt_zero _)⟩, fun j hj => absurd hj (Nat.not_lt_zero _)⟩
    · rintro i H' hi ⟨sm, ps, ow, e1, e2, e3, e4, e5⟩
      refine ⟨rfl, ?_⟩
      intro x dx nx ndx nex
      refine ⟨x, dx, rfl, upd_same, fun H3 q nq B k3 => ⟨rfl, ?_⟩⟩
      have s3 := Same.made nx ndx k3
      have nq' := made_free nx ndx nq
      have xD : x ≠ D := fun z => by rw [z, e1] at nx; cases nx
      have qD : q ≠ D := fun z => by rw [z, e1] at nq'; cases nq'
      have old : ∀ j, j < i → ∀ y ∈ ow j, y ≠ x ∧ y ≠ q := fun j hj y hy => by
        obtain ⟨u, hu⟩ := e4.trk j hj y hy
        exact ⟨ne_of_none hu nx, ne_of_none hu nq'⟩
      refine ⟨_, s3 _ _ e1, smallL (by rw [List.length_map, e2]; exact Nat.le_trans (Nat.le_of_lt hi) (by decide)), fun b u e => ?_, ps ++ [x], sysSet ow i [x, q], ?_, by rw [List.length_append, e2]; rfl, fun j y hy => ?_, ⟨fun j hj y hy => ?_, fun j m hj hm hjm y hy hy2 => ?_⟩, fun j hj y hy => ?_⟩
      · rw [upd_ne (ne_of_none e hD)]
        exact s3 _ _ (sm b u e)
      · rw [upd_same, List.map_append]
        rfl
      · by_cases c : j < ps.length
        · rw [List.getElem?_append_left c] at hy
          have hji : j ≠ i := Nat.ne_of_lt (e2 ▸ c)
          rw [sysSet_ne hji]
          refine (e3 j y hy).stay fun z hz u e => ?_
          rw [upd_ne (e5 j (by (first | decide | exact Nat.lt_of_lt_of_le (by assumption) (by decide) | exact Nat.ne_of_lt (by assumption) | exact Nat.le_of_lt (by assumption) | omega)) z hz).2]
          exact s3 _ _ e
        · rw [List.getElem?_append_right (by (first | decide | exact Nat.lt_of_lt_of_le (by assumption) (by decide) | exact Nat.ne_of_lt (by assumption) | exact Nat.le_of_lt (by assumption) | omega))] at hy
          have hj0 : j - ps.length = 0 := by
            cases t : j - ps.length with
            | zero => rfl
            | succ t' => rw [t] at hy; cases hy
          rw [hj0] at hy
          have ey : x = y := Option.some.inj hy
          have ej : j = i := by omega
          subst ey ej
          rw [sysSet_same]
          refine B.stay fun z hz u e => ?_
          rcases List.mem_cons.mp hz with rfl | hz
          · rw [upd_ne xD]
            exact e
          · have : z = q := by simpa using hz
            rw [this, upd_ne qD, ← this]
            exact e
      · by_cases c : j = i
        · rw [c, sysSet_same] at hy
          obtain ⟨u, hu⟩ := B.trk y hy
          have yD : y ≠ D := by
            rcases List.mem_cons.mp hy with rfl | hy
            · exact xD
            · have : y = q := by simpa using hy
              rw [this]
              exact qD
          exact ⟨u, by rw [upd_ne yD]; exact hu⟩
        · rw [sysSet_ne c] at hy
          obtain ⟨u, hu⟩ := e4.trk j (by (first | decide | exact Nat.lt_of_lt_of_le (by assumption) (by decide) | exact Nat.ne_of_lt (by assumption) | exact Nat.le_of_lt (by assumption) | omega)) y hy
          exact ⟨u, by rw [upd_ne (e5 j (by (first | decide | exact Nat.lt_of_lt_of_le (by assumption) (by decide) | exact Nat.ne_of_lt (by assumption) | exact Nat.le_of_lt (by assumption) | omega)) y hy).2]; exact s3 _ _ hu⟩
      · by_cases c : j = i
        · rw [c, sysSet_same] at hy
          have hmi : m ≠ i := fun z => hjm (c.trans z.symm)
          rw [sysSet_ne hmi] at hy2
          obtain ⟨n1, n2⟩ := old m (by (first | decide | exact Nat.lt_of_lt_of_le (by assumption) (by decide) | exact Nat.ne_of_lt (by assumption) | exact Nat.le_of_lt (by assumption) | omega)) y hy2
          rcases List.mem_cons.mp hy with h | h
          · exact n1 h
          · exact n2 (by simpa using h)
        · rw [sysSet_ne c] at hy
          by_cases c2 : m = i
          · rw [c2, sysSet_same] at hy2
            obtain ⟨n1, n2⟩ := old j (by (first | decide | exact Nat.lt_of_lt_of_le (by assumption) (by decide) | exact Nat.ne_of_lt (by assumption) | exact Nat.le_of_lt (by assumption) | omega)) y hy
            rcases List.mem_cons.mp hy2 with h | h
            · exact n1 h
            · exact n2 (by simpa using h)
          · rw [sysSet_ne c2] at hy2
            exact e4.dis j m (by (first | decide | exact Nat.lt_of_lt_of_le (by assumption) (by decide) | exact Nat.ne_of_lt (by assumption) | exact Nat.le_of_lt (by assumption) | omega)) (by (first | decide | exact Nat.lt_of_lt_of_le (by assumption) (by decide) | exact Nat.ne_of_lt (by assumption) | exact Nat.le_of_lt (by assumption) | omega)) hjm y hy hy2
      · by_cases c : j = i
        · rw [c, sysSet_same] at hy
          rcases List.mem_cons.mp hy with rfl | hy
          · exact ⟨sm.free nx, xD⟩
          · have : y = q := by simpa using hy
            rw [this]
            exact ⟨sm.free nq', qD⟩
        · rw [sysSet_ne c] at hy
          exact e5 j (by (first | decide | exact Nat.lt_of_lt_of_le (by assumption) (by decide) | exact Nat.ne_of_lt (by assumption) | exact Nat.le_of_lt (by assumption) | omega)) y hy
    · rintro H1 ⟨s1, ps, ow, e1, e2, e3, e4, e5⟩
      intro po dx nx ndx nex
      refine ⟨po, dx, rfl, upd_same, fun H2 oown fo O k2 => ⟨rfl, ?_⟩⟩
      have s2 := Same.made nx ndx k2
      have fo' : ∀ y ∈ oown, H1 y = none := fun y hy => by
        rcases fo y hy with rfl | h
        · exact nx
        · exact made_free nx ndx h
      refine ⟨(by show 0 ≤ sizeLine; decide), fun ans nans => ?_⟩
      have s3 := Same.new (o := .lst []) nans
      have nans1 : H1 ans = none := s2.free nans
      have nansH : H ans = none := s1.free nans1
      have e1' := s3 _ _ (s2 _ _ e1)
      have ansD : ans ≠ D := fun z => by rw [z, s2 _ _ e1] at nans; cases nans
      generalize hown : (fun i => if i = 4 then oown else if i = 5 then [D, ans] else ow i : Nat → List Addr) = own
      have o4 : own 4 = oown := by rw [← hown]; rfl
      have o5 : own 5 = [D, ans] := by rw [← hown]; rfl
      have oi : ∀ i, i < 4 → own i = ow i := fun i hi => by
        rw [← hown]
        show (if i = 4 then oown else if i = 5 then [D, ans] else ow i) = _
        rw [if_neg (by (first | decide | exact Nat.lt_of_lt_of_le (by assumption) (by decide) | exact Nat.ne_of_lt (by assumption) | exact Nat.le_of_lt (by assumption) | omega)), if_neg (by (first | decide | exact Nat.lt_of_lt_of_le (by assumption) (by decide) | exact Nat.ne_of_lt (by assumption) | exact Nat.le_of_lt (by assumption) | omega))]
      generalize hH3 : upd H2 ans (.lst []) = H3 at s3 e1'
      have hans3 : H3 ans = some (.lst []) := by rw [← hH3]; exact upd_same
      -- who owns what: fresh to the call, no address with two
      have cases6 : ∀ i, i < 6 → i < 4 ∨ i = 4 ∨ i = 5 := fun i hi => six hi
      have trk1 : ∀ i, i < 4 → ∀ y ∈ own i, ∃ u, H1 y = some u := fun i hi y hy => e4.trk i hi y (by rw [← oi i hi]; exact hy)
      have fresh : ∀ i, i < 6 → ∀ y ∈ own i, H y = none := fun i hi y hy => by
        rcases cases6 i hi with c | rfl | rfl
        · rw [oi i c] at hy
          exact (e5 i c y hy).1
        · rw [o4] at hy
          exact s1.free (fo' y hy)
        · rw [o5] at hy
          rcases List.mem_cons.mp hy with rfl | hy
          · exact hD
          · have : y = ans := by simpa using hy
            rw [this]
            exact nansH
      have sysO : ∀ y ∈ oown, ∃ u, H2 y = some u := O.trk
      have dis45 : ∀ y ∈ oown, y ≠ D ∧ y ≠ ans := fun y hy => by
        refine ⟨fun z => ?_, fun z => ?_⟩
        · have := fo' y hy
          rw [z, e1] at this
          cases this
        · obtain ⟨u, hu⟩ := sysO y hy
          rw [z, nans] at hu
          cases hu
      have half : ∀ i j, i < j → j < 6 → ∀ y ∈ own i, y ∉ own j := fun i j hij hj y hy hy2 => by
        rcases cases6 j hj with c | rfl | rfl
        · rw [oi j c] at hy2
          rw [oi i (by (first | decide | exact Nat.lt_of_lt_of_le (by assumption) (by decide) | exact Nat.ne_of_lt (by assumption) | exact Nat.le_of_lt (by assumption) | omega))] at hy
          exact e4.dis i j (by (first | decide | exact Nat.lt_of_lt_of_le (by assumption) (by decide) | exact Nat.ne_of_lt (by assumption) | exact Nat.le_of_lt (by assumption) | omega)) c (by (first | decide | exact Nat.lt_of_lt_of_le (by assumption) (by decide) | exact Nat.ne_of_lt (by assumption) | exact Nat.le_of_lt (by assumption) | omega)) y hy hy2
        · obtain ⟨u, hu⟩ := trk1 i hij y hy
          rw [o4] at hy2
          rw [fo' y hy2] at hu
          cases hu
        · rw [o5] at hy2
          rcases cases6 i (by (first | decide | exact Nat.lt_of_lt_of_le (by assumption) (by decide) | exact Nat.ne_of_lt (by assumption) | exact Nat.le_of_lt (by assumption) | omega)) with c | rfl | rfl
          · obtain ⟨u, hu⟩ := trk1 i c y hy
            rw [oi i c] at hy
            rcases List.mem_cons.mp hy2 with h | h
            · exact (e5 i c y hy).2 h
            · have : y = ans := by simpa using h
              rw [this, nans1] at hu
              cases hu
          · rw [o4] at hy
            rcases List.mem_cons.mp hy2 with h | h
            · exact (dis45 y hy).1 h
            · exact (dis45 y hy).2 (by simpa using h)
          · omega
      have W0 : Wd a.c_Booth a.c_Office H3 D ps po own start := by
        refine ⟨rfl, rfl, e1', e2, ⟨fun i hi y hy => ?_, fun i j hi hj hij y hy hy2 => ?_⟩, by rw [o5]; simp, fun i q hq => ?_, ?_⟩
        · rcases cases6 i hi with c | rfl | rfl
          · obtain ⟨u, hu⟩ := trk1 i c y hy
            exact ⟨u, s3 _ _ (s2 _ _ hu)⟩
          · rw [o4] at hy
            obtain ⟨u, hu⟩ := sysO y hy
            exact ⟨u, s3 _ _ hu⟩
          · rw [o5] at hy
            rcases List.mem_cons.mp hy with rfl | hy
            · exact ⟨_, e1'⟩
            · have : y = ans := by simpa using hy
              rw [this]
              exact ⟨_, hans3⟩
        · rcases Nat.lt_or_gt_of_ne hij with h | h
          · exact half i j h hj y hy hy2
          · exact half j i h hi y hy2 hy
        · have hi4 : i < 4 := by
            have := (List.getElem?_eq_some_iff.mp hq).1
            rw [e2] at this
            exact this
          refine ⟨b0, ?_, (by show 0 ≤ 8; decide), fun y hy => ?_⟩
          · rw [oi i hi4]
            exact (e3 i q hq).stay fun y _ u e => s3 _ _ (s2 _ _ e)
          · exfalso
            have := four hi4
            rcases this with rfl | rfl | rfl | rfl <;> cases hy
        · refine ⟨o0, ?_, fun y hy => by cases hy⟩
          rw [o4]
          exact O.stay fun y _ u e => s3 _ _ e
      have sH3 : Same H H3 := (s1.trans s2).trans s3
      -- the loop
      refine ⟨fun mm σ H' => ∃ (i : Nat) (st : S) (own' : Nat → List Addr) (f : Nat) (cs : List (List (List Int))) (out : List Int) (v5 v6 v7 : Option V), mm = l.length - i ∧ i ≤ l.length ∧ Wd a.c_Booth a.c_Office H' D ps po own' st ∧ own' 5 = [D, ans] ∧ (∀ j, j < 6 → ∀ y ∈ own' j, H y = none) ∧ Same H H' ∧
        PyFlat.calls PyKm349.shape f (l.drop i) = some cs ∧ may st cs = true ∧ cs.all asked1 = true ∧ cs.length ≤ 5000 ∧ out.length ≤ 22 * (5000 - cs.length) ∧ H' ans = some (.lst (iv out)) ∧ out ++ PyFlat.told (PyFlat.played step st cs) = PyKm349.answers l ∧
        σ = [some (.ref p), some (.ref D), some (.ref po), some (.ref ans), some (.int (i : Nat)), v5, v6, v7], ⟨l.length, 0, start, own, l.length, cs0, [], none, none, none, rfl, Nat.zero_le _, W0, o5, fresh, sH3, hcs0, hmay0, hall0, hlen0, Nat.zero_le _, hans3, hans0.symm, rfl⟩, ?_⟩
      rintro mm σ H4 ⟨i, st, own4, f, cs, out, v5, v6, v7, rfl, hi, W, h5, fr, sm, hcs, hmay, hall, hlen, hout, hans, hdue, rfl⟩
      have hp4 := sm.seq hp
      refine ⟨_, rfl, _, rfl, p, _, rfl, .inl hp4, _, _, rfl, rfl, _, rfl, ?_⟩
      refine ite2 (fun c => ?_) (fun c => ?_)
      · have hil : i < l.length := by
          have := of_decide_eq_true c
          rw [iv_length] at this
          omega
        refine ⟨_, fun σ' H'' h => h, ?_⟩
        have hne : l.drop i ≠ [] := fun z => by
          have := congrArg List.length z
          rw [List.length_drop] at this
          have : l.length - i = 0 := this
          exact sub_pos' hil this
        obtain ⟨g, cl, t, ds, hcall, hds, rfl⟩ := Fl.calls_cons hne hcs
        have hflat := Fl.call_flat hcall
        obtain ⟨hstep, hmay'⟩ := Fl.may_cons hmay
        rw [List.all_cons, Bool.and_eq_true] at hall
        have hL : Len (flat cl) := by
          rcases Fm.kind_of hall.1 with ⟨kk, x, hx, _⟩ | ⟨kk, x, hx, _⟩
          · exact (Fm.lenB hx).1
          · exact (Fm.lenO hx).1
        have hpos := hL.pos
        have hle : i + (flat cl).length ≤ l.length := by
          have := congrArg List.length hflat
          rw [List.length_drop, List.length_append] at this
          omega
        refine ⟨_, rfl, _, rfl, p, l, flat cl, t, i, rfl, hp4, hflat, hL, fun H5 s5 => ?_⟩
        refine ⟨_, rfl, _, rfl, _, rfl, _, rfl, _, rfl, p, _, rfl, s5.seq hp4, fun q nq => ?_⟩
        have ecut : cutV (iv l) (some (i : Int)) (some ((i + (flat cl).length : Nat) : Int)) = iv (flat cl) := by
          rw [cut_mid (Nat.le_add_right _ _) hle, Nat.add_sub_cancel_left, hflat, List.take_left]
        rw [ecut]
        have s6 := s5.trans (Same.new (o := .lst (iv (flat cl))) nq)
        refine ⟨_, rfl, _, rfl, q, D, po, ps, own4, st, cl, rfl, SqL.of upd_same, W.same s6, hall.1, hstep, fun H7 own7 r W7 h75 hsub hkeep hrn hro hn7 hr7 => ?_⟩
        have sm6 : Same H (upd H5 q (.lst (iv (flat cl)))) := sm.trans s6
        have out4 : ∀ j, j < 5 → ans ∉ own4 j := fun j hj z => W.sys.dis j 5 (by (first | decide | exact Nat.lt_of_lt_of_le (by assumption) (by decide) | exact Nat.ne_of_lt (by assumption) | exact Nat.le_of_lt (by assumption) | omega)) (by (first | decide | exact Nat.lt_of_lt_of_le (by assumption) (by decide) | exact Nat.ne_of_lt (by assumption) | exact Nat.le_of_lt (by assumption) | omega)) (by (first | decide | exact Nat.lt_of_lt_of_le (by assumption) (by decide) | exact Nat.ne_of_lt (by assumption) | exact Nat.le_of_lt (by assumption) | omega)) ans z (by rw [h5]; simp)
        have hans7 : H7 ans = some (.lst (iv out)) := hkeep ans _ (s6 _ _ hans) out4
        have sm7 : Same H H7 := fun y u e => hkeep y u (sm6 y u e) fun j hj z => by
          rw [fr j (by (first | decide | exact Nat.lt_of_lt_of_le (by assumption) (by decide) | exact Nat.ne_of_lt (by assumption) | exact Nat.le_of_lt (by assumption) | omega)) y z] at e
          cases e
        have fr7 : ∀ j, j < 6 → ∀ y ∈ own7 j, H y = none := fun j hj y hy => by
          by_cases c5 : j = 5
          · subst c5
            rw [h75] at hy
            exact fr 5 (by (first | decide | exact Nat.lt_of_lt_of_le (by assumption) (by decide) | exact Nat.ne_of_lt (by assumption) | exact Nat.le_of_lt (by assumption) | omega)) y hy
          · rcases hsub j (by (first | decide | exact Nat.lt_of_lt_of_le (by assumption) (by decide) | exact Nat.ne_of_lt (by assumption) | exact Nat.le_of_lt (by assumption) | omega)) y hy with z | z
            · exact fr j (by (first | decide | exact Nat.lt_of_lt_of_le (by assumption) (by decide) | exact Nat.ne_of_lt (by assumption) | exact Nat.le_of_lt (by assumption) | omega)) y z
            · exact sm6.free z
        have ra : r ≠ ans := fun z => hro 5 (by (first | decide | exact Nat.lt_of_lt_of_le (by assumption) (by decide) | exact Nat.ne_of_lt (by assumption) | exact Nat.le_of_lt (by assumption) | omega)) (by rw [h75, h5, z]; simp)
        have hcl : ds.length + 1 ≤ 5000 := hlen
        have hol : out.length ≤ 22 * (5000 - (ds.length + 1)) := hout
        refine ⟨_, rfl, .inl ⟨rfl, _, SqL.of hans7⟩, _, rfl, r, _, rfl, .inl (SqL.of hr7), ans, _, _, rfl, rfl, hans7, smallL (by rw [iv_length]; exact out_small hol), ?_⟩
        refine ⟨_, rfl, .inl ⟨rfl, _, SqL.of upd_same⟩, _, rfl, ans, r, _, _, rfl, rfl, upd_same, (by rw [upd_ne ra]; exact hr7), small (by rw [List.length_append, iv_length, iv_length]; exact out_small2 hol hn7), ?_⟩
        refine ⟨_, rfl, ?_⟩
        have W8 := (W7.put (x := ans) (by rw [h75, h5]; simp) ansD (.lst (iv out ++ [.int ((iv (step st cl).2).length : Nat)]))).put (x := ans) (by rw [h75, h5]; simp) ansD (.lst ((iv out ++ [.int ((iv (step st cl).2).length : Nat)]) ++ iv (step st cl).2))
        refine ⟨l.length - (i + (flat cl).length), sub_less hil hpos, i + (flat cl).length, (step st cl).1, own7, g, ds, out ++ (((step st cl).2.length : Int) :: (step st cl).2), _, _, v7, rfl, hle, W8, h75.trans h5, fr7, fun y u e => ?_, ?_, hmay', hall.2, Nat.le_of_succ_le hcl, ?_, ?_, ?_, rfl⟩
        · have ya : y ≠ ans := ne_of_none e nansH
          rw [upd_ne ya, upd_ne ya]
          exact sm7 y u e
        · rw [← List.drop_drop, hflat, List.drop_left]
          exact hds
        · rw [List.length_append, List.length_cons]
          exact out_next hol hcl hn7
        · rw [upd_same, iv_append, iv_length, List.append_assoc]
          rfl
        · rw [← hdue, List.append_assoc]
          congr 1
      · have hil : i = l.length := by
          have : ¬ (i : Int) < ((iv l).length : Nat) := fun z => c (decide_eq_true z)
          rw [iv_length] at this
          omega
        subst hil
        rw [List.drop_length] at hcs
        have ecs := Fl.calls_nil hcs
        subst ecs
        have hd : out = PyKm349.answers l := by
          rw [← hdue]
          show out = out ++ []
          rw [List.append_nil]
        rw [hd] at hans
        exact ⟨_, rfl, k H4 ans hans⟩
end
end My
namespace My
open PySem PySem.Spec PyProof.Rows L2
theorem all_mk {P : Program} {w : World} {K : PySem.W.Frag} {h : Heap} {mg : Str → Option Value} {fa c_Booth c_Office r_BITS r_LENGTHS f_candidates_fit f_rank_fits f_ranks_fit f_before_without_ballots f_count_ballot f_padded f_order_fits f_how_much_against f_sums_of_sets f_sums_if_ahead f_least_if_ahead f_members_of f_least_of_sets f_best_ahead f_order_of f_shifted_by_a_byte f_check_of f_low_byte_first f_from_low_byte_first f_with_check f_ballot_message f_closing_message f_kind_of f_booth_of f_number_of f_ranks_of f_is_right f_Booth_init f_Booth_start f_Booth_vote f_Booth_close f_Booth_again f_Office_init f_Office_start f_Office_heard f_Office_heard_closing f_Office_heard_ballot f_Office_first_not_heard f_Office_is_whole f_Office_is_final f_Office_lacks f_Office_prefer f_Office_order f_Office_against f_end_of_call f_booth_answer f_office_answer f_answer_of f_answers : Addr} (X : K.In h) (G : h.Ns mainGlobals mg) (hfa : mg "answers" = some (.ref fa))
    {od_candidates_fit an_candidates_fit od_rank_fits an_rank_fits od_ranks_fit an_ranks_fit od_before_without_ballots an_before_without_ballots od_count_ballot an_count_ballot od_padded an_padded od_order_fits an_order_fits od_how_much_against an_how_much_against od_sums_of_sets an_sums_of_sets od_sums_if_ahead an_sums_if_ahead od_least_if_ahead an_least_if_ahead od_members_of an_members_of od_least_of_sets an_least_of_sets od_best_ahead an_best_ahead od_order_of an_order_of od_shifted_by_a_byte an_shifted_by_a_byte od_check_of an_check_of od_low_byte_first an_low_byte_first od_from_low_byte_first an_from_low_byte_first od_with_check an_with_check od_ballot_message an_ballot_message od_closing_message an_closing_message od_kind_of an_kind_of od_booth_of an_booth_of od_number_of an_number_of od_ranks_of an_ranks_of od_is_right an_is_right od_Booth_init an_Booth_init od_Booth_start an_Booth_start od_Booth_vote an_Booth_vote od_Booth_close an_Booth_close od_Booth_again an_Booth_again od_Office_init an_Office_init od_Office_start an_Office_start od_Office_heard an_Office_heard od_Office_heard_closing an_Office_heard_closing od_Office_heard_ballot an_Office_heard_ballot od_Office_first_not_heard an_Office_first_not_heard od_Office_is_whole an_Office_is_whole od_Office_is_final an_Office_is_final od_Office_lacks an_Office_lacks od_Office_prefer an_Office_prefer od_Office_order an_Office_order od_Office_against an_Office_against od_end_of_call an_end_of_call od_booth_answer an_booth_answer od_office_answer an_office_answer od_answer_of an_answer_of od_answers an_answers : Option Addr} {sl_candidates_fit sl_rank_fits sl_ranks_fit sl_before_without_ballots sl_count_ballot sl_padded sl_order_fits sl_how_much_against sl_sums_of_sets sl_sums_if_ahead sl_least_if_ahead sl_members_of sl_least_of_sets sl_best_ahead sl_order_of sl_shifted_by_a_byte sl_check_of sl_low_byte_first sl_from_low_byte_first sl_with_check sl_ballot_message sl_closing_message sl_kind_of sl_booth_of sl_number_of sl_ranks_of sl_is_right sl_Booth_init sl_Booth_start sl_Booth_vote sl_Booth_close sl_Booth_again sl_Office_init sl_Office_start sl_Office_heard sl_Office_heard_closing sl_Office_heard_ballot sl_Office_first_not_heard sl_Office_is_whole sl_Office_is_final sl_Office_lacks sl_Office_prefer sl_Office_order sl_Office_against sl_end_of_call sl_booth_answer sl_office_answer sl_answer_of sl_answers : Array (Option Value)} {oc_candidates_fit kV_candidates_fit dc_candidates_fit pm_candidates_fit cd_candidates_fit ct_candidates_fit oc_rank_fits kV_rank_fits dc_rank_fits pm_rank_fits cd_rank_fits ct_rank_fits oc_ranks_fit kV_ranks_fit dc_ranks_fit pm_ranks_fit cd_ranks_fit ct_ranks_fit oc_before_without_ballots kV_before_without_ballots dc_before_without_ballots pm_before_without_ballots cd_before_without_ballots ct_before_without_ballots oc_count_ballot kV_count_ballot dc_count_ballot pm_count_ballot cd_count_ballot ct_count_ballot oc_padded kV_padded dc_padded pm_padded cd_padded ct_padded oc_order_fits kV_order_fits dc_order_fits pm_order_fits cd_order_fits ct_order_fits oc_how_much_against kV_how_much_against dc_how_much_against pm_how_much_against cd_how_much_against ct_how_much_against oc_sums_of_sets kV_sums_of_sets dc_sums_of_sets pm_sums_of_sets cd_sums_of_sets ct_sums_of_sets oc_sums_if_ahead kV_sums_if_ahead dc_sums_if_ahead pm_sums_if_ahead cd_sums_if_ahead ct_sums_if_ahead oc_least_if_ahead kV_least_if_ahead dc_least_if_ahead pm_least_if_ahead cd_least_if_ahead ct_least_if_ahead oc_members_of kV_members_of dc_members_of pm_members_of cd_members_of ct_members_of oc_least_of_sets kV_least_of_sets dc_least_of_sets pm_least_of_sets cd_least_of_sets ct_least_of_sets oc_best_ahead kV_best_ahead dc_best_ahead pm_best_ahead cd_best_ahead ct_best_ahead oc_order_of kV_order_of dc_order_of pm_order_of cd_order_of ct_order_of oc_shifted_by_a_byte kV_shifted_by_a_byte dc_shifted_by_a_byte pm_shifted_by_a_byte cd_shifted_by_a_byte ct_shifted_by_a_byte oc_check_of kV_check_of dc_check_of pm_check_of cd_check_of ct_check_of oc_low_byte_first kV_low_byte_first dc_low_byte_first pm_low_byte_first cd_low_byte_first ct_low_byte_first oc_from_low_byte_first kV_from_low_byte_first dc_from_low_byte_first pm_from_low_byte_first cd_from_low_byte_first ct_from_low_byte_first oc_with_check kV_with_check dc_with_check pm_with_check cd_with_check ct_with_check oc_ballot_message kV_ballot_message dc_ballot_message pm_ballot_message cd_ballot_message ct_ballot_message oc_closing_message kV_closing_message dc_closing_message pm_closing_message cd_closing_message ct_closing_message oc_kind_of kV_kind_of dc_kind_of pm_kind_of cd_kind_of ct_kind_of oc_booth_of kV_booth_of dc_booth_of pm_booth_of cd_booth_of ct_booth_of oc_number_of kV_number_of dc_number_of pm_number_of cd_number_of ct_number_of oc_ranks_of kV_ranks_of dc_ranks_of pm_ranks_of cd_ranks_of ct_ranks_of oc_is_right kV_is_right dc_is_right pm_is_right cd_is_right ct_is_right oc_Booth_init kV_Booth_init dc_Booth_init pm_Booth_init cd_Booth_init ct_Booth_init oc_Booth_start kV_Booth_start dc_Booth_start pm_Booth_start cd_Booth_start ct_Booth_start oc_Booth_vote kV_Booth_vote dc_Booth_vote pm_Booth_vote cd_Booth_vote ct_Booth_vote oc_Booth_close kV_Booth_close dc_Booth_close pm_Booth_close cd_Booth_close ct_Booth_close oc_Booth_again kV_Booth_again dc_Booth_again pm_Booth_again cd_Booth_again ct_Booth_again oc_Office_init kV_Office_init dc_Office_init pm_Office_init cd_Office_init ct_Office_init oc_Office_start kV_Office_start dc_Office_start pm_Office_start cd_Office_start ct_Office_start oc_Office_heard kV_Office_heard dc_Office_heard pm_Office_heard cd_Office_heard ct_Office_heard oc_Office_heard_closing kV_Office_heard_closing dc_Office_heard_closing pm_Office_heard_closing cd_Office_heard_closing ct_Office_heard_closing oc_Office_heard_ballot kV_Office_heard_ballot dc_Office_heard_ballot pm_Office_heard_ballot cd_Office_heard_ballot ct_Office_heard_ballot oc_Office_first_not_heard kV_Office_first_not_heard dc_Office_first_not_heard pm_Office_first_not_heard cd_Office_first_not_heard ct_Office_first_not_heard oc_Office_is_whole kV_Office_is_whole dc_Office_is_whole pm_Office_is_whole cd_Office_is_whole ct_Office_is_whole oc_Office_is_final kV_Office_is_final dc_Office_is_final pm_Office_is_final cd_Office_is_final ct_Office_is_final oc_Office_lacks kV_Office_lacks dc_Office_lacks pm_Office_lacks cd_Office_lacks ct_Office_lacks oc_Office_prefer kV_Office_prefer dc_Office_prefer pm_Office_prefer cd_Office_prefer ct_Office_prefer oc_Office_order kV_Office_order dc_Office_order pm_Office_order cd_Office_order ct_Office_order oc_Office_against kV_Office_against dc_Office_against pm_Office_against cd_Office_against ct_Office_against oc_end_of_call kV_end_of_call dc_end_of_call pm_end_of_call cd_end_of_call ct_end_of_call oc_booth_answer kV_booth_answer dc_booth_answer pm_booth_answer cd_booth_answer ct_booth_answer oc_office_answer kV_office_answer dc_office_answer pm_office_answer cd_office_answer ct_office_answer oc_answer_of kV_answer_of dc_answer_of pm_answer_of cd_answer_of ct_answer_of oc_answers kV_answers dc_answers pm_answers cd_answers ct_answers : Value} {t_LEAST_CANDIDATES t_MOST_CANDIDATES t_NOBODY t_BALLOT t_CLOSING t_MOST_BOOTHS t_MOST_BALLOTS t_ONES t_POLYNOMIAL t_NOT_THERE t_CLOSED t_NOTHING_LACKS t_NOT_CLOSED t_WRONG t_FULL t_NOT_RIGHT t_VB_START t_VB_VOTE t_VB_CLOSE t_VB_AGAIN t_VO_START t_VO_HEARD t_VO_LACKS t_VO_PREFER t_VO_ORDER t_VO_AGAINST t_BOOTHS_OF_A_LIST : Tok} {ob_BITS ob_LENGTHS : Obj}
    (h1 : PySem.W.nsIn K mainGlobals "LEAST_CANDIDATES" = some (some (.int 2 t_LEAST_CANDIDATES)))
    (h2 : PySem.W.nsIn K mainGlobals "MOST_CANDIDATES" = some (some (.int 8 t_MOST_CANDIDATES)))
    (h3 : PySem.W.nsIn K mainGlobals "NOBODY" = some (some (.int 255 t_NOBODY)))
    (h4 : PySem.W.nsIn K mainGlobals "BALLOT" = some (some (.int 1 t_BALLOT)))
    (h5 : PySem.W.nsIn K mainGlobals "CLOSING" = some (some (.int 2 t_CLOSING)))
    (h6 : PySem.W.nsIn K mainGlobals "MOST_BOOTHS" = some (some (.int 8 t_MOST_BOOTHS)))
    (h7 : PySem.W.nsIn K mainGlobals "MOST_BALLOTS" = some (some (.int 4096 t_MOST_BALLOTS)))
    (h8 : PySem.W.nsIn K mainGlobals "ONES" = some (some (.int 4294967295 t_ONES)))
    (h9 : PySem.W.nsIn K mainGlobals "POLYNOMIAL" = some (some (.int 2197175160 t_POLYNOMIAL)))
    (h10 : PySem.W.nsIn K mainGlobals "NOT_THERE" = some (some (.int (-2) t_NOT_THERE)))
    (h11 : PySem.W.nsIn K mainGlobals "CLOSED" = some (some (.int (-11) t_CLOSED)))
    (h12 : PySem.W.nsIn K mainGlobals "NOTHING_LACKS" = some (some (.int (-11) t_NOTHING_LACKS)))
    (h13 : PySem.W.nsIn K mainGlobals "NOT_CLOSED" = some (some (.int (-16) t_NOT_CLOSED)))
    (h14 : PySem.W.nsIn K mainGlobals "WRONG" = some (some (.int (-22) t_WRONG)))
    (h15 : PySem.W.nsIn K mainGlobals "FULL" = some (some (.int (-28) t_FULL)))
    (h16 : PySem.W.nsIn K mainGlobals "NOT_RIGHT" = some (some (.int (-71) t_NOT_RIGHT)))
    (h17 : PySem.W.nsIn K mainGlobals "VB_START" = some (some (.int 0 t_VB_START)))
    (h18 : PySem.W.nsIn K mainGlobals "VB_VOTE" = some (some (.int 1 t_VB_VOTE)))
    (h19 : PySem.W.nsIn K mainGlobals "VB_CLOSE" = some (some (.int 2 t_VB_CLOSE)))
    (h20 : PySem.W.nsIn K mainGlobals "VB_AGAIN" = some (some (.int 3 t_VB_AGAIN)))
    (h21 : PySem.W.nsIn K mainGlobals "VO_START" = some (some (.int 4 t_VO_START)))
    (h22 : PySem.W.nsIn K mainGlobals "VO_HEARD" = some (some (.int 5 t_VO_HEARD)))
    (h23 : PySem.W.nsIn K mainGlobals "VO_LACKS" = some (some (.int 6 t_VO_LACKS)))
    (h24 : PySem.W.nsIn K mainGlobals "VO_PREFER" = some (some (.int 7 t_VO_PREFER)))
    (h25 : PySem.W.nsIn K mainGlobals "VO_ORDER" = some (some (.int 8 t_VO_ORDER)))
    (h26 : PySem.W.nsIn K mainGlobals "VO_AGAINST" = some (some (.int 9 t_VO_AGAINST)))
    (h27 : PySem.W.nsIn K mainGlobals "BOOTHS_OF_A_LIST" = some (some (.int 4 t_BOOTHS_OF_A_LIST)))
    (h28 : PySem.W.nsIn K mainGlobals "BITS" = some (some (.ref r_BITS)))
    (h29 : K.lookup r_BITS = some ob_BITS)
    (h30 : tupObj ob_BITS tab_BITS = true)
    (h31 : PySem.W.nsIn K mainGlobals "LENGTHS" = some (some (.ref r_LENGTHS)))
    (h32 : K.lookup r_LENGTHS = some ob_LENGTHS)
    (h33 : tupObj ob_LENGTHS tab_LENGTHS = true)
    (h34 : PySem.W.nsIn K mainGlobals "len" = some none)
    (h35 : PySem.W.nsIn K mainGlobals "range" = some none)
    (h36 : PySem.W.nsIn K mainGlobals "list" = some none)
    (h37 : PySem.W.nsIn K mainGlobals "enumerate" = some none)
    (h38 : PySem.W.nsIn K mainGlobals "sorted" = some none)
    (h39 : PySem.W.nsIn K mainGlobals "min" = some none)
    (h40 : PySem.W.nsIn K mainGlobals "all" = some none)
    (h41 : PySem.W.nsIn K mainGlobals "Booth" = some (some (.ref c_Booth)))
    (h42 : PySem.W.plainGet K c_Booth Str.empty = true)
    (h43 : PySem.W.hasDictIn K c_Booth = true)
    (h44 : PySem.W.plainOver K c_Booth = true)
    (h45 : PySem.W.findIn K (.ref c_Booth) "__setattr__" = some (some (.builtin "object.__setattr__")))
    (h46 : PySem.W.makesIn K c_Booth = true)
    (h47 : PySem.W.keepIn K (.ref c_Booth) = true)
    (h48 : PySem.W.findIn K (.ref c_Booth) "__init__" = some (some (.ref f_Booth_init)))
    (h49 : PySem.W.isFn K (.ref f_Booth_init) = true)
    (h50 : PySem.W.findIn K (.ref c_Booth) "me" = some none)
    (h51 : PySem.W.findIn K (.ref c_Booth) "candidates" = some none)
    (h52 : PySem.W.findIn K (.ref c_Booth) "ballots" = some none)
    (h53 : PySem.W.findIn K (.ref c_Booth) "closed" = some none)
    (h54 : PySem.W.nsIn K mainGlobals "Office" = some (some (.ref c_Office)))
    (h55 : PySem.W.plainGet K c_Office Str.empty = true)
    (h56 : PySem.W.hasDictIn K c_Office = true)
    (h57 : PySem.W.plainOver K c_Office = true)
    (h58 : PySem.W.findIn K (.ref c_Office) "__setattr__" = some (some (.builtin "object.__setattr__")))
    (h59 : PySem.W.makesIn K c_Office = true)
    (h60 : PySem.W.keepIn K (.ref c_Office) = true)
    (h61 : PySem.W.findIn K (.ref c_Office) "__init__" = some (some (.ref f_Office_init)))
    (h62 : PySem.W.isFn K (.ref f_Office_init) = true)
    (h63 : PySem.W.findIn K (.ref c_Office) "candidates" = some none)
    (h64 : PySem.W.findIn K (.ref c_Office) "booths" = some none)
    (h65 : PySem.W.findIn K (.ref c_Office) "ballots" = some none)
    (h66 : PySem.W.findIn K (.ref c_Office) "closings" = some none)
    (h67 : PySem.W.findIn K (.ref c_Office) "before" = some none)
    (h68 : PySem.W.findIn K (.ref c_Office) "found" = some none)
    (h69 : PySem.W.nsIn K mainGlobals "candidates_fit" = some (some (.ref f_candidates_fit)))
    (h70 : K.lookup f_candidates_fit = some ⟨oc_candidates_fit, od_candidates_fit, .func (PySem.W.fnOf "candidates_fit" "candidates_fit" (defArgs s_candidates_fit) (defBody s_candidates_fit) (defScope s_candidates_fit) .none kV_candidates_fit dc_candidates_fit pm_candidates_fit an_candidates_fit cd_candidates_fit ct_candidates_fit), sl_candidates_fit⟩)
    (h71 : PySem.W.codeIn K cd_candidates_fit "candidates_fit" = true)
    (h72 : PySem.W.keepIn K (.ref f_candidates_fit) = true)
    (h73 : PySem.W.nsIn K mainGlobals "rank_fits" = some (some (.ref f_rank_fits)))
    (h74 : K.lookup f_rank_fits = some ⟨oc_rank_fits, od_rank_fits, .func (PySem.W.fnOf "rank_fits" "rank_fits" (defArgs s_rank_fits) (defBody s_rank_fits) (defScope s_rank_fits) .none kV_rank_fits dc_rank_fits pm_rank_fits an_rank_fits cd_rank_fits ct_rank_fits), sl_rank_fits⟩)
    (h75 : PySem.W.codeIn K cd_rank_fits "rank_fits" = true)
    (h76 : PySem.W.keepIn K (.ref f_rank_fits) = true)
    (h77 : PySem.W.nsIn K mainGlobals "ranks_fit" = some (some (.ref f_ranks_fit)))
    (h78 : K.lookup f_ranks_fit = some ⟨oc_ranks_fit, od_ranks_fit, .func (PySem.W.fnOf "ranks_fit" "ranks_fit" (defArgs s_ranks_fit) (defBody s_ranks_fit) (defScope s_ranks_fit) .none kV_ranks_fit dc_ranks_fit pm_ranks_fit an_ranks_fit cd_ranks_fit ct_ranks_fit), sl_ranks_fit⟩)
    (h79 : PySem.W.codeIn K cd_ranks_fit "ranks_fit" = true)
    (h80 : PySem.W.keepIn K (.ref f_ranks_fit) = true)
    (h81 : PySem.W.nsIn K mainGlobals "before_without_ballots" = some (some (.ref f_before_without_ballots)))
    (h82 : K.lookup f_before_without_ballots = some ⟨oc_before_without_ballots, od_before_without_ballots, .func (PySem.W.fnOf "before_without_ballots" "before_without_ballots" (defArgs s_before_without_ballots) (defBody s_before_without_ballots) (defScope s_before_without_ballots) .none kV_before_without_ballots dc_before_without_ballots pm_before_without_ballots an_before_without_ballots cd_before_without_ballots ct_before_without_ballots), sl_before_without_ballots⟩)
    (h83 : PySem.W.codeIn K cd_before_without_ballots "before_without_ballots" = true)
    (h84 : PySem.W.keepIn K (.ref f_before_without_ballots) = true)
    (h85 : PySem.W.nsIn K mainGlobals "count_ballot" = some (some (.ref f_count_ballot)))
    (h86 : K.lookup f_count_ballot = some ⟨oc_count_ballot, od_count_ballot, .func (PySem.W.fnOf "count_ballot" "count_ballot" (defArgs s_count_ballot) (defBody s_count_ballot) (defScope s_count_ballot) .none kV_count_ballot dc_count_ballot pm_count_ballot an_count_ballot cd_count_ballot ct_count_ballot), sl_count_ballot⟩)
    (h87 : PySem.W.codeIn K cd_count_ballot "count_ballot" = true)
    (h88 : PySem.W.keepIn K (.ref f_count_ballot) = true)
    (h89 : PySem.W.nsIn K mainGlobals "padded" = some (some (.ref f_padded)))
    (h90 : K.lookup f_padded = some ⟨oc_padded, od_padded, .func (PySem.W.fnOf "padded" "padded" (defArgs s_padded) (defBody s_padded) (defScope s_padded) .none kV_padded dc_padded pm_padded an_padded cd_padded ct_padded), sl_padded⟩)
    (h91 : PySem.W.codeIn K cd_padded "padded" = true)
    (h92 : PySem.W.keepIn K (.ref f_padded) = true)
    (h93 : PySem.W.nsIn K mainGlobals "order_fits" = some (some (.ref f_order_fits)))
    (h94 : K.lookup f_order_fits = some ⟨oc_order_fits, od_order_fits, .func (PySem.W.fnOf "order_fits" "order_fits" (defArgs s_order_fits) (defBody s_order_fits) (defScope s_order_fits) .none kV_order_fits dc_order_fits pm_order_fits an_order_fits cd_order_fits ct_order_fits), sl_order_fits⟩)
    (h95 : PySem.W.codeIn K cd_order_fits "order_fits" = true)
    (h96 : PySem.W.keepIn K (.ref f_order_fits) = true)
    (h97 : PySem.W.nsIn K mainGlobals "how_much_against" = some (some (.ref f_how_much_against)))
    (h98 : K.lookup f_how_much_against = some ⟨oc_how_much_against, od_how_much_against, .func (PySem.W.fnOf "how_much_against" "how_much_against" (defArgs s_how_much_against) (defBody s_how_much_against) (defScope s_how_much_against) .none kV_how_much_against dc_how_much_against pm_how_much_against an_how_much_against cd_how_much_against ct_how_much_against), sl_how_much_against⟩)
    (h99 : PySem.W.codeIn K cd_how_much_against "how_much_against" = true)
    (h100 : PySem.W.keepIn K (.ref f_how_much_against) = true)
    (h101 : PySem.W.nsIn K mainGlobals "sums_of_sets" = some (some (.ref f_sums_of_sets)))
    (h102 : K.lookup f_sums_of_sets = some ⟨oc_sums_of_sets, od_sums_of_sets, .func (PySem.W.fnOf "sums_of_sets" "sums_of_sets" (defArgs s_sums_of_sets) (defBody s_sums_of_sets) (defScope s_sums_of_sets) .none kV_sums_of_sets dc_sums_of_sets pm_sums_of_sets an_sums_of_sets cd_sums_of_sets ct_sums_of_sets), sl_sums_of_sets⟩)
    (h103 : PySem.W.codeIn K cd_sums_of_sets "sums_of_sets" = true)
    (h104 : PySem.W.keepIn K (.ref f_sums_of_sets) = true)
    (h105 : PySem.W.nsIn K mainGlobals "sums_if_ahead" = some (some (.ref f_sums_if_ahead)))
    (h106 : K.lookup f_sums_if_ahead = some ⟨oc_sums_if_ahead, od_sums_if_ahead, .func (PySem.W.fnOf "sums_if_ahead" "sums_if_ahead" (defArgs s_sums_if_ahead) (defBody s_sums_if_ahead) (defScope s_sums_if_ahead) .none kV_sums_if_ahead dc_sums_if_ahead pm_sums_if_ahead an_sums_if_ahead cd_sums_if_ahead ct_sums_if_ahead), sl_sums_if_ahead⟩)
    (h107 : PySem.W.codeIn K cd_sums_if_ahead "sums_if_ahead" = true)
    (h108 : PySem.W.keepIn K (.ref f_sums_if_ahead) = true)
    (h109 : PySem.W.nsIn K mainGlobals "least_if_ahead" = some (some (.ref f_least_if_ahead)))
    (h110 : K.lookup f_least_if_ahead = some ⟨oc_least_if_ahead, od_least_if_ahead, .func (PySem.W.fnOf "least_if_ahead" "least_if_ahead" (defArgs s_least_if_ahead) (defBody s_least_if_ahead) (defScope s_least_if_ahead) .none kV_least_if_ahead dc_least_if_ahead pm_least_if_ahead an_least_if_ahead cd_least_if_ahead ct_least_if_ahead), sl_least_if_ahead⟩)
    (h111 : PySem.W.codeIn K cd_least_if_ahead "least_if_ahead" = true)
    (h112 : PySem.W.keepIn K (.ref f_least_if_ahead) = true)
    (h113 : PySem.W.nsIn K mainGlobals "members_of" = some (some (.ref f_members_of)))
    (h114 : K.lookup f_members_of = some ⟨oc_members_of, od_members_of, .func (PySem.W.fnOf "members_of" "members_of" (defArgs s_members_of) (defBody s_members_of) (defScope s_members_of) .none kV_members_of dc_members_of pm_members_of an_members_of cd_members_of ct_members_of), sl_members_of⟩)
    (h115 : PySem.W.codeIn K cd_members_of "members_of" = true)
    (h116 : PySem.W.keepIn K (.ref f_members_of) = true)
    (h117 : PySem.W.nsIn K mainGlobals "least_of_sets" = some (some (.ref f_least_of_sets)))
    (h118 : K.lookup f_least_of_sets = some ⟨oc_least_of_sets, od_least_of_sets, .func (PySem.W.fnOf "least_of_sets" "least_of_sets" (defArgs s_least_of_sets) (defBody s_least_of_sets) (defScope s_least_of_sets) .none kV_least_of_sets dc_least_of_sets pm_least_of_sets an_least_of_sets cd_least_of_sets ct_least_of_sets), sl_least_of_sets⟩)
    (h119 : PySem.W.codeIn K cd_least_of_sets "least_of_sets" = true)
    (h120 : PySem.W.keepIn K (.ref f_least_of_sets) = true)
    (h121 : PySem.W.nsIn K mainGlobals "best_ahead" = some (some (.ref f_best_ahead)))
    (h122 : K.lookup f_best_ahead = some ⟨oc_best_ahead, od_best_ahead, .func (PySem.W.fnOf "best_ahead" "best_ahead" (defArgs s_best_ahead) (defBody s_best_ahead) (defScope s_best_ahead) .none kV_best_ahead dc_best_ahead pm_best_ahead an_best_ahead cd_best_ahead ct_best_ahead), sl_best_ahead⟩)
    (h123 : PySem.W.codeIn K cd_best_ahead "best_ahead" = true)
    (h124 : PySem.W.keepIn K (.ref f_best_ahead) = true)
    (h125 : PySem.W.nsIn K mainGlobals "order_of" = some (some (.ref f_order_of)))
    (h126 : K.lookup f_order_of = some ⟨oc_order_of, od_order_of, .func (PySem.W.fnOf "order_of" "order_of" (defArgs s_order_of) (defBody s_order_of) (defScope s_order_of) .none kV_order_of dc_order_of pm_order_of an_order_of cd_order_of ct_order_of), sl_order_of⟩)
    (h127 : PySem.W.codeIn K cd_order_of "order_of" = true)
    (h128 : PySem.W.keepIn K (.ref f_order_of) = true)
    (h129 : PySem.W.nsIn K mainGlobals "shifted_by_a_byte" = some (some (.ref f_shifted_by_a_byte)))
    (h130 : K.lookup f_shifted_by_a_byte = some ⟨oc_shifted_by_a_byte, od_shifted_by_a_byte, .func (PySem.W.fnOf "shifted_by_a_byte" "shifted_by_a_byte" (defArgs s_shifted_by_a_byte) (defBody s_shifted_by_a_byte) (defScope s_shifted_by_a_byte) .none kV_shifted_by_a_byte dc_shifted_by_a_byte pm_shifted_by_a_byte an_shifted_by_a_byte cd_shifted_by_a_byte ct_shifted_by_a_byte), sl_shifted_by_a_byte⟩)
    (h131 : PySem.W.codeIn K cd_shifted_by_a_byte "shifted_by_a_byte" = true)
    (h132 : PySem.W.keepIn K (.ref f_shifted_by_a_byte) = true)
    (h133 : PySem.W.nsIn K mainGlobals "check_of" = some (some (.ref f_check_of)))
    (h134 : K.lookup f_check_of = some ⟨oc_check_of, od_check_of, .func (PySem.W.fnOf "check_of" "check_of" (defArgs s_check_of) (defBody s_check_of) (defScope s_check_of) .none kV_check_of dc_check_of pm_check_of an_check_of cd_check_of ct_check_of), sl_check_of⟩)
    (h135 : PySem.W.codeIn K cd_check_of "check_of" = true)
    (h136 : PySem.W.keepIn K (.ref f_check_of) = true)
    (h137 : PySem.W.nsIn K mainGlobals "low_byte_first" = some (some (.ref f_low_byte_first)))
    (h138 : K.lookup f_low_byte_first = some ⟨oc_low_byte_first, od_low_byte_first, .func (PySem.W.fnOf "low_byte_first" "low_byte_first" (defArgs s_low_byte_first) (defBody s_low_byte_first) (defScope s_low_byte_first) .none kV_low_byte_first dc_low_byte_first pm_low_byte_first an_low_byte_first cd_low_byte_first ct_low_byte_first), sl_low_byte_first⟩)
    (h139 : PySem.W.codeIn K cd_low_byte_first "low_byte_first" = true)
    (h140 : PySem.W.keepIn K (.ref f_low_byte_first) = true)
    (h141 : PySem.W.nsIn K mainGlobals "from_low_byte_first" = some (some (.ref f_from_low_byte_first)))
    (h142 : K.lookup f_from_low_byte_first = some ⟨oc_from_low_byte_first, od_from_low_byte_first, .func (PySem.W.fnOf "from_low_byte_first" "from_low_byte_first" (defArgs s_from_low_byte_first) (defBody s_from_low_byte_first) (defScope s_from_low_byte_first) .none kV_from_low_byte_first dc_from_low_byte_first pm_from_low_byte_first an_from_low_byte_first cd_from_low_byte_first ct_from_low_byte_first), sl_from_low_byte_first⟩)
    (h143 : PySem.W.codeIn K cd_from_low_byte_first "from_low_byte_first" = true)
    (h144 : PySem.W.keepIn K (.ref f_from_low_byte_first) = true)
    (h145 : PySem.W.nsIn K mainGlobals "with_check" = some (some (.ref f_with_check)))
    (h146 : K.lookup f_with_check = some ⟨oc_with_check, od_with_check, .func (PySem.W.fnOf "with_check" "with_check" (defArgs s_with_check) (defBody s_with_check) (defScope s_with_check) .none kV_with_check dc_with_check pm_with_check an_with_check cd_with_check ct_with_check), sl_with_check⟩)
    (h147 : PySem.W.codeIn K cd_with_check "with_check" = true)
    (h148 : PySem.W.keepIn K (.ref f_with_check) = true)
    (h149 : PySem.W.nsIn K mainGlobals "ballot_message" = some (some (.ref f_ballot_message)))
    (h150 : K.lookup f_ballot_message = some ⟨oc_ballot_message, od_ballot_message, .func (PySem.W.fnOf "ballot_message" "ballot_message" (defArgs s_ballot_message) (defBody s_ballot_message) (defScope s_ballot_message) .none kV_ballot_message dc_ballot_message pm_ballot_message an_ballot_message cd_ballot_message ct_ballot_message), sl_ballot_message⟩)
    (h151 : PySem.W.codeIn K cd_ballot_message "ballot_message" = true)
    (h152 : PySem.W.keepIn K (.ref f_ballot_message) = true)
    (h153 : PySem.W.nsIn K mainGlobals "closing_message" = some (some (.ref f_closing_message)))
    (h154 : K.lookup f_closing_message = some ⟨oc_closing_message, od_closing_message, .func (PySem.W.fnOf "closing_message" "closing_message" (defArgs s_closing_message) (defBody s_closing_message) (defScope s_closing_message) .none kV_closing_message dc_closing_message pm_closing_message an_closing_message cd_closing_message ct_closing_message), sl_closing_message⟩)
    (h155 : PySem.W.codeIn K cd_closing_message "closing_message" = true)
    (h156 : PySem.W.keepIn K (.ref f_closing_message) = true)
    (h157 : PySem.W.nsIn K mainGlobals "kind_of" = some (some (.ref f_kind_of)))
    (h158 : K.lookup f_kind_of = some ⟨oc_kind_of, od_kind_of, .func (PySem.W.fnOf "kind_of" "kind_of" (defArgs s_kind_of) (defBody s_kind_of) (defScope s_kind_of) .none kV_kind_of dc_kind_of pm_kind_of an_kind_of cd_kind_of ct_kind_of), sl_kind_of⟩)
    (h159 : PySem.W.codeIn K cd_kind_of "kind_of" = true)
    (h160 : PySem.W.keepIn K (.ref f_kind_of) = true)
    (h161 : PySem.W.nsIn K mainGlobals "booth_of" = some (some (.ref f_booth_of)))
    (h162 : K.lookup f_booth_of = some ⟨oc_booth_of, od_booth_of, .func (PySem.W.fnOf "booth_of" "booth_of" (defArgs s_booth_of) (defBody s_booth_of) (defScope s_booth_of) .none kV_booth_of dc_booth_of pm_booth_of an_booth_of cd_booth_of ct_booth_of), sl_booth_of⟩)
    (h163 : PySem.W.codeIn K cd_booth_of "booth_of" = true)
    (h164 : PySem.W.keepIn K (.ref f_booth_of) = true)
    (h165 : PySem.W.nsIn K mainGlobals "number_of" = some (some (.ref f_number_of)))
    (h166 : K.lookup f_number_of = some ⟨oc_number_of, od_number_of, .func (PySem.W.fnOf "number_of" "number_of" (defArgs s_number_of) (defBody s_number_of) (defScope s_number_of) .none kV_number_of dc_number_of pm_number_of an_number_of cd_number_of ct_number_of), sl_number_of⟩)
    (h167 : PySem.W.codeIn K cd_number_of "number_of" = true)
    (h168 : PySem.W.keepIn K (.ref f_number_of) = true)
    (h169 : PySem.W.nsIn K mainGlobals "ranks_of" = some (some (.ref f_ranks_of)))
    (h170 : K.lookup f_ranks_of = some ⟨oc_ranks_of, od_ranks_of, .func (PySem.W.fnOf "ranks_of" "ranks_of" (defArgs s_ranks_of) (defBody s_ranks_of) (defScope s_ranks_of) .none kV_ranks_of dc_ranks_of pm_ranks_of an_ranks_of cd_ranks_of ct_ranks_of), sl_ranks_of⟩)
    (h171 : PySem.W.codeIn K cd_ranks_of "ranks_of" = true)
    (h172 : PySem.W.keepIn K (.ref f_ranks_of) = true)
    (h173 : PySem.W.nsIn K mainGlobals "is_right" = some (some (.ref f_is_right)))
    (h174 : K.lookup f_is_right = some ⟨oc_is_right, od_is_right, .func (PySem.W.fnOf "is_right" "is_right" (defArgs s_is_right) (defBody s_is_right) (defScope s_is_right) .none kV_is_right dc_is_right pm_is_right an_is_right cd_is_right ct_is_right), sl_is_right⟩)
    (h175 : PySem.W.codeIn K cd_is_right "is_right" = true)
    (h176 : PySem.W.keepIn K (.ref f_is_right) = true)
    (h177 : K.lookup f_Booth_init = some ⟨oc_Booth_init, od_Booth_init, .func (PySem.W.fnOf "__init__" "Booth.__init__" (defArgs s_Booth_init) (defBody s_Booth_init) (defScope s_Booth_init) .none kV_Booth_init dc_Booth_init pm_Booth_init an_Booth_init cd_Booth_init ct_Booth_init), sl_Booth_init⟩)
    (h178 : PySem.W.codeIn K cd_Booth_init "Booth.__init__" = true)
    (h179 : PySem.W.keepIn K (.ref f_Booth_init) = true)
    (h180 : PySem.W.findIn K (.ref c_Booth) "start" = some (some (.ref f_Booth_start)))
    (h181 : PySem.W.isFn K (.ref f_Booth_start) = true)
    (h182 : K.lookup f_Booth_start = some ⟨oc_Booth_start, od_Booth_start, .func (PySem.W.fnOf "start" "Booth.start" (defArgs s_Booth_start) (defBody s_Booth_start) (defScope s_Booth_start) .none kV_Booth_start dc_Booth_start pm_Booth_start an_Booth_start cd_Booth_start ct_Booth_start), sl_Booth_start⟩)
    (h183 : PySem.W.codeIn K cd_Booth_start "Booth.start" = true)
    (h184 : PySem.W.keepIn K (.ref f_Booth_start) = true)
    (h185 : PySem.W.findIn K (.ref c_Booth) "vote" = some (some (.ref f_Booth_vote)))
    (h186 : PySem.W.isFn K (.ref f_Booth_vote) = true)
    (h187 : K.lookup f_Booth_vote = some ⟨oc_Booth_vote, od_Booth_vote, .func (PySem.W.fnOf "vote" "Booth.vote" (defArgs s_Booth_vote) (defBody s_Booth_vote) (defScope s_Booth_vote) .none kV_Booth_vote dc_Booth_vote pm_Booth_vote an_Booth_vote cd_Booth_vote ct_Booth_vote), sl_Booth_vote⟩)
    (h188 : PySem.W.codeIn K cd_Booth_vote "Booth.vote" = true)
    (h189 : PySem.W.keepIn K (.ref f_Booth_vote) = true)
    (h190 : PySem.W.findIn K (.ref c_Booth) "close" = some (some (.ref f_Booth_close)))
    (h191 : PySem.W.isFn K (.ref f_Booth_close) = true)
    (h192 : K.lookup f_Booth_close = some ⟨oc_Booth_close, od_Booth_close, .func (PySem.W.fnOf "close" "Booth.close" (defArgs s_Booth_close) (defBody s_Booth_close) (defScope s_Booth_close) .none kV_Booth_close dc_Booth_close pm_Booth_close an_Booth_close cd_Booth_close ct_Booth_close), sl_Booth_close⟩)
    (h193 : PySem.W.codeIn K cd_Booth_close "Booth.close" = true)
    (h194 : PySem.W.keepIn K (.ref f_Booth_close) = true)
    (h195 : PySem.W.findIn K (.ref c_Booth) "again" = some (some (.ref f_Booth_again)))
    (h196 : PySem.W.isFn K (.ref f_Booth_again) = true)
    (h197 : K.lookup f_Booth_again = some ⟨oc_Booth_again, od_Booth_again, .func (PySem.W.fnOf "again" "Booth.again" (defArgs s_Booth_again) (defBody s_Booth_again) (defScope s_Booth_again) .none kV_Booth_again dc_Booth_again pm_Booth_again an_Booth_again cd_Booth_again ct_Booth_again), sl_Booth_again⟩)
    (h198 : PySem.W.codeIn K cd_Booth_again "Booth.again" = true)
    (h199 : PySem.W.keepIn K (.ref f_Booth_again) = true)
    (h200 : K.lookup f_Office_init = some ⟨oc_Office_init, od_Office_init, .func (PySem.W.fnOf "__init__" "Office.__init__" (defArgs s_Office_init) (defBody s_Office_init) (defScope s_Office_init) .none kV_Office_init dc_Office_init pm_Office_init an_Office_init cd_Office_init ct_Office_init), sl_Office_init⟩)
    (h201 : PySem.W.codeIn K cd_Office_init "Office.__init__" = true)
    (h202 : PySem.W.keepIn K (.ref f_Office_init) = true)
    (h203 : PySem.W.findIn K (.ref c_Office) "start" = some (some (.ref f_Office_start)))
    (h204 : PySem.W.isFn K (.ref f_Office_start) = true)
    (h205 : K.lookup f_Office_start = some ⟨oc_Office_start, od_Office_start, .func (PySem.W.fnOf "start" "Office.start" (defArgs s_Office_start) (defBody s_Office_start) (defScope s_Office_start) .none kV_Office_start dc_Office_start pm_Office_start an_Office_start cd_Office_start ct_Office_start), sl_Office_start⟩)
    (h206 : PySem.W.codeIn K cd_Office_start "Office.start" = true)
    (h207 : PySem.W.keepIn K (.ref f_Office_start) = true)
    (h208 : PySem.W.findIn K (.ref c_Office) "heard" = some (some (.ref f_Office_heard)))
    (h209 : PySem.W.isFn K (.ref f_Office_heard) = true)
    (h210 : K.lookup f_Office_heard = some ⟨oc_Office_heard, od_Office_heard, .func (PySem.W.fnOf "heard" "Office.heard" (defArgs s_Office_heard) (defBody s_Office_heard) (defScope s_Office_heard) .none kV_Office_heard dc_Office_heard pm_Office_heard an_Office_heard cd_Office_heard ct_Office_heard), sl_Office_heard⟩)
    (h211 : PySem.W.codeIn K cd_Office_heard "Office.heard" = true)
    (h212 : PySem.W.keepIn K (.ref f_Office_heard) = true)
    (h213 : PySem.W.findIn K (.ref c_Office) "heard_closing" = some (some (.ref f_Office_heard_closing)))
    (h214 : PySem.W.isFn K (.ref f_Office_heard_closing) = true)
    (h215 : K.lookup f_Office_heard_closing = some ⟨oc_Office_heard_closing, od_Office_heard_closing, .func (PySem.W.fnOf "heard_closing" "Office.heard_closing" (defArgs s_Office_heard_closing) (defBody s_Office_heard_closing) (defScope s_Office_heard_closing) .none kV_Office_heard_closing dc_Office_heard_closing pm_Office_heard_closing an_Office_heard_closing cd_Office_heard_closing ct_Office_heard_closing), sl_Office_heard_closing⟩)
    (h216 : PySem.W.codeIn K cd_Office_heard_closing "Office.heard_closing" = true)
    (h217 : PySem.W.keepIn K (.ref f_Office_heard_closing) = true)
    (h218 : PySem.W.findIn K (.ref c_Office) "heard_ballot" = some (some (.ref f_Office_heard_ballot)))
    (h219 : PySem.W.isFn K (.ref f_Office_heard_ballot) = true)
    (h220 : K.lookup f_Office_heard_ballot = some ⟨oc_Office_heard_ballot, od_Office_heard_ballot, .func (PySem.W.fnOf "heard_ballot" "Office.heard_ballot" (defArgs s_Office_heard_ballot) (defBody s_Office_heard_ballot) (defScope s_Office_heard_ballot) .none kV_Office_heard_ballot dc_Office_heard_ballot pm_Office_heard_ballot an_Office_heard_ballot cd_Office_heard_ballot ct_Office_heard_ballot), sl_Office_heard_ballot⟩)
    (h221 : PySem.W.codeIn K cd_Office_heard_ballot "Office.heard_ballot" = true)
    (h222 : PySem.W.keepIn K (.ref f_Office_heard_ballot) = true)
    (h223 : PySem.W.findIn K (.ref c_Office) "first_not_heard" = some (some (.ref f_Office_first_not_heard)))
    (h224 : PySem.W.isFn K (.ref f_Office_first_not_heard) = true)
    (h225 : K.lookup f_Office_first_not_heard = some ⟨oc_Office_first_not_heard, od_Office_first_not_heard, .func (PySem.W.fnOf "first_not_heard" "Office.first_not_heard" (defArgs s_Office_first_not_heard) (defBody s_Office_first_not_heard) (defScope s_Office_first_not_heard) .none kV_Office_first_not_heard dc_Office_first_not_heard pm_Office_first_not_heard an_Office_first_not_heard cd_Office_first_not_heard ct_Office_first_not_heard), sl_Office_first_not_heard⟩)
    (h226 : PySem.W.codeIn K cd_Office_first_not_heard "Office.first_not_heard" = true)
    (h227 : PySem.W.keepIn K (.ref f_Office_first_not_heard) = true)
    (h228 : PySem.W.findIn K (.ref c_Office) "is_whole" = some (some (.ref f_Office_is_whole)))
    (h229 : PySem.W.isFn K (.ref f_Office_is_whole) = true)
    (h230 : K.lookup f_Office_is_whole = some ⟨oc_Office_is_whole, od_Office_is_whole, .func (PySem.W.fnOf "is_whole" "Office.is_whole" (defArgs s_Office_is_whole) (defBody s_Office_is_whole) (defScope s_Office_is_whole) .none kV_Office_is_whole dc_Office_is_whole pm_Office_is_whole an_Office_is_whole cd_Office_is_whole ct_Office_is_whole), sl_Office_is_whole⟩)
    (h231 : PySem.W.codeIn K cd_Office_is_whole "Office.is_whole" = true)
    (h232 : PySem.W.keepIn K (.ref f_Office_is_whole) = true)
    (h233 : PySem.W.findIn K (.ref c_Office) "is_final" = some (some (.ref f_Office_is_final)))
    (h234 : PySem.W.isFn K (.ref f_Office_is_final) = true)
    (h235 : K.lookup f_Office_is_final = some ⟨oc_Office_is_final, od_Office_is_final, .func (PySem.W.fnOf "is_final" "Office.is_final" (defArgs s_Office_is_final) (defBody s_Office_is_final) (defScope s_Office_is_final) .none kV_Office_is_final dc_Office_is_final pm_Office_is_final an_Office_is_final cd_Office_is_final ct_Office_is_final), sl_Office_is_final⟩)
    (h236 : PySem.W.codeIn K cd_Office_is_final "Office.is_final" = true)
    (h237 : PySem.W.keepIn K (.ref f_Office_is_final) = true)
    (h238 : PySem.W.findIn K (.ref c_Office) "lacks" = some (some (.ref f_Office_lacks)))
    (h239 : PySem.W.isFn K (.ref f_Office_lacks) = true)
    (h240 : K.lookup f_Office_lacks = some ⟨oc_Office_lacks, od_Office_lacks, .func (PySem.W.fnOf "lacks" "Office.lacks" (defArgs s_Office_lacks) (defBody s_Office_lacks) (defScope s_Office_lacks) .none kV_Office_lacks dc_Office_lacks pm_Office_lacks an_Office_lacks cd_Office_lacks ct_Office_lacks), sl_Office_lacks⟩)
    (h241 : PySem.W.codeIn K cd_Office_lacks "Office.lacks" = true)
    (h242 : PySem.W.keepIn K (.ref f_Office_lacks) = true)
    (h243 : PySem.W.findIn K (.ref c_Office) "prefer" = some (some (.ref f_Office_prefer)))
    (h244 : PySem.W.isFn K (.ref f_Office_prefer) = true)
    (h245 : K.lookup f_Office_prefer = some ⟨oc_Office_prefer, od_Office_prefer, .func (PySem.W.fnOf "prefer" "Office.prefer" (defArgs s_Office_prefer) (defBody s_Office_prefer) (defScope s_Office_prefer) .none kV_Office_prefer dc_Office_prefer pm_Office_prefer an_Office_prefer cd_Office_prefer ct_Office_prefer), sl_Office_prefer⟩)
    (h246 : PySem.W.codeIn K cd_Office_prefer "Office.prefer" = true)
    (h247 : PySem.W.keepIn K (.ref f_Office_prefer) = true)
    (h248 : PySem.W.findIn K (.ref c_Office) "order" = some (some (.ref f_Office_order)))
    (h249 : PySem.W.isFn K (.ref f_Office_order) = true)
    (h250 : K.lookup f_Office_order = some ⟨oc_Office_order, od_Office_order, .func (PySem.W.fnOf "order" "Office.order" (defArgs s_Office_order) (defBody s_Office_order) (defScope s_Office_order) .none kV_Office_order dc_Office_order pm_Office_order an_Office_order cd_Office_order ct_Office_order), sl_Office_order⟩)
    (h251 : PySem.W.codeIn K cd_Office_order "Office.order" = true)
    (h252 : PySem.W.keepIn K (.ref f_Office_order) = true)
    (h253 : PySem.W.findIn K (.ref c_Office) "against" = some (some (.ref f_Office_against)))
    (h254 : PySem.W.isFn K (.ref f_Office_against) = true)
    (h255 : K.lookup f_Office_against = some ⟨oc_Office_against, od_Office_against, .func (PySem.W.fnOf "against" "Office.against" (defArgs s_Office_against) (defBody s_Office_against) (defScope s_Office_against) .none kV_Office_against dc_Office_against pm_Office_against an_Office_against cd_Office_against ct_Office_against), sl_Office_against⟩)
    (h256 : PySem.W.codeIn K cd_Office_against "Office.against" = true)
    (h257 : PySem.W.keepIn K (.ref f_Office_against) = true)
    (h258 : PySem.W.nsIn K mainGlobals "end_of_call" = some (some (.ref f_end_of_call)))
    (h259 : K.lookup f_end_of_call = some ⟨oc_end_of_call, od_end_of_call, .func (PySem.W.fnOf "end_of_call" "end_of_call" (defArgs s_end_of_call) (defBody s_end_of_call) (defScope s_end_of_call) .none kV_end_of_call dc_end_of_call pm_end_of_call an_end_of_call cd_end_of_call ct_end_of_call), sl_end_of_call⟩)
    (h260 : PySem.W.codeIn K cd_end_of_call "end_of_call" = true)
    (h261 : PySem.W.keepIn K (.ref f_end_of_call) = true)
    (h262 : PySem.W.nsIn K mainGlobals "booth_answer" = some (some (.ref f_booth_answer)))
    (h263 : K.lookup f_booth_answer = some ⟨oc_booth_answer, od_booth_answer, .func (PySem.W.fnOf "booth_answer" "booth_answer" (defArgs s_booth_answer) (defBody s_booth_answer) (defScope s_booth_answer) .none kV_booth_answer dc_booth_answer pm_booth_answer an_booth_answer cd_booth_answer ct_booth_answer), sl_booth_answer⟩)
    (h264 : PySem.W.codeIn K cd_booth_answer "booth_answer" = true)
    (h265 : PySem.W.keepIn K (.ref f_booth_answer) = true)
    (h266 : PySem.W.nsIn K mainGlobals "office_answer" = some (some (.ref f_office_answer)))
    (h267 : K.lookup f_office_answer = some ⟨oc_office_answer, od_office_answer, .func (PySem.W.fnOf "office_answer" "office_answer" (defArgs s_office_answer) (defBody s_office_answer) (defScope s_office_answer) .none kV_office_answer dc_office_answer pm_office_answer an_office_answer cd_office_answer ct_office_answer), sl_office_answer⟩)
    (h268 : PySem.W.codeIn K cd_office_answer "office_answer" = true)
    (h269 : PySem.W.keepIn K (.ref f_office_answer) = true)
    (h270 : PySem.W.nsIn K mainGlobals "answer_of" = some (some (.ref f_answer_of)))
    (h271 : K.lookup f_answer_of = some ⟨oc_answer_of, od_answer_of, .func (PySem.W.fnOf "answer_of" "answer_of" (defArgs s_answer_of) (defBody s_answer_of) (defScope s_answer_of) .none kV_answer_of dc_answer_of pm_answer_of an_answer_of cd_answer_of ct_answer_of), sl_answer_of⟩)
    (h272 : PySem.W.codeIn K cd_answer_of "answer_of" = true)
    (h273 : PySem.W.keepIn K (.ref f_answer_of) = true)
    (h274 : PySem.W.nsIn K mainGlobals "answers" = some (some (.ref f_answers)))
    (h275 : K.lookup f_answers = some ⟨oc_answers, od_answers, .func (PySem.W.fnOf "answers" "answers" (defArgs s_answers) (defBody s_answers) (defScope s_answers) .none kV_answers dc_answers pm_answers an_answers cd_answers ct_answers), sl_answers⟩)
    (h276 : PySem.W.codeIn K cd_answers "answers" = true)
    (h277 : PySem.W.keepIn K (.ref f_answers) = true)
    : ∃ fd : FuncData, (∀ (s : Shared) (us : List Value), us.length = (["calls"] : List Str).length → BindsTo s fd ⟨us, []⟩ ((["calls"] : List Str).zip us)) ∧ ∀ base : Heap, K.In base → base.Ns mainGlobals mg → FnOk P w K mg base CX0 9 fa fd ["calls"] (sp_answers K) := by
  have F_candidates_fit := fun_mk (st := s_candidates_fit) h70 h71 h72
  have F_rank_fits := fun_mk (st := s_rank_fits) h74 h75 h76
  have F_ranks_fit := fun_mk (st := s_ranks_fit) h78 h79 h80
  have F_before_without_ballots := fun_mk (st := s_before_without_ballots) h82 h83 h84
  have F_count_ballot := fun_mk (st := s_count_ballot) h86 h87 h88
  have F_padded := fun_mk (st := s_padded) h90 h91 h92
  have F_order_fits := fun_mk (st := s_order_fits) h94 h95 h96
  have F_how_much_against := fun_mk (st := s_how_much_against) h98 h99 h100
  have F_sums_of_sets := fun_mk (st := s_sums_of_sets) h102 h103 h104
  have F_sums_if_ahead := fun_mk (st := s_sums_if_ahead) h106 h107 h108
  have F_least_if_ahead := fun_mk (st := s_least_if_ahead) h110 h111 h112
  have F_members_of := fun_mk (st := s_members_of) h114 h115 h116
  have F_least_of_sets := fun_mk (st := s_least_of_sets) h118 h119 h120
  have F_best_ahead := fun_mk (st := s_best_ahead) h122 h123 h124
  have F_order_of := fun_mk (st := s_order_of) h126 h127 h128
  have F_shifted_by_a_byte := fun_mk (st := s_shifted_by_a_byte) h130 h131 h132
  have F_check_of := fun_mk (st := s_check_of) h134 h135 h136
  have F_low_byte_first := fun_mk (st := s_low_byte_first) h138 h139 h140
  have F_from_low_byte_first := fun_mk (st := s_from_low_byte_first) h142 h143 h144
  have F_with_check := fun_mk (st := s_with_check) h146 h147 h148
  have F_ballot_message := fun_mk (st := s_ballot_message) h150 h151 h152
  have F_closing_message := fun_mk (st := s_closing_message) h154 h155 h156
  have F_kind_of := fun_mk (st := s_kind_of) h158 h159 h160
  have F_booth_of := fun_mk (st := s_booth_of) h162 h163 h164
  have F_number_of := fun_mk (st := s_number_of) h166 h167 h168
  have F_ranks_of := fun_mk (st := s_ranks_of) h170 h171 h172
  have F_is_right := fun_mk (st := s_is_right) h174 h175 h176
  have F_Booth_init := fun_mk (st := s_Booth_init) h177 h178 h179
  have F_Booth_start := fun_mk (st := s_Booth_start) h182 h183 h184
  have F_Booth_vote := fun_mk (st := s_Booth_vote) h187 h188 h189
  have F_Booth_close := fun_mk (st := s_Booth_close) h192 h193 h194
  have F_Booth_again := fun_mk (st := s_Booth_again) h197 h198 h199
  have F_Office_init := fun_mk (st := s_Office_init) h200 h201 h202
  have F_Office_start := fun_mk (st := s_Office_start) h205 h206 h207
  have F_Office_heard := fun_mk (st := s_Office_heard) h210 h211 h212
  have F_Office_heard_closing := fun_mk (st := s_Office_heard_closing) h215 h216 h217
  have F_Office_heard_ballot := fun_mk (st := s_Office_heard_ballot) h220 h221 h222
  have F_Office_first_not_heard := fun_mk (st := s_Office_first_not_heard) h225 h226 h227
  have F_Office_is_whole := fun_mk (st := s_Office_is_whole) h230 h231 h232
  have F_Office_is_final := fun_mk (st := s_Office_is_final) h235 h236 h237
  have F_Office_lacks := fun_mk (st := s_Office_lacks) h240 h241 h242
  have F_Office_prefer := fun_mk (st := s_Office_prefer) h245 h246 h247
  have F_Office_order := fun_mk (st := s_Office_order) h250 h251 h252
  have F_Office_against := fun_mk (st := s_Office_against) h255 h256 h257
  have F_end_of_call := fun_mk (st := s_end_of_call) h259 h260 h261
  have F_booth_answer := fun_mk (st := s_booth_answer) h263 h264 h265
  have F_office_answer := fun_mk (st := s_office_answer) h267 h268 h269
  have F_answer_of := fun_mk (st := s_answer_of) h271 h272 h273
  have F_answers := fun_mk (st := s_answers) h275 h276 h277
  have T : Txt K mg ⟨c_Booth, c_Office, r_BITS, r_LENGTHS, f_candidates_fit, PySem.W.fnOf "candidates_fit" "candidates_fit" (defArgs s_candidates_fit) (defBody s_candidates_fit) (defScope s_candidates_fit) .none kV_candidates_fit dc_candidates_fit pm_candidates_fit an_candidates_fit cd_candidates_fit ct_candidates_fit, f_rank_fits, PySem.W.fnOf "rank_fits" "rank_fits" (defArgs s_rank_fits) (defBody s_rank_fits) (defScope s_rank_fits) .none kV_rank_fits dc_rank_fits pm_rank_fits an_rank_fits cd_rank_fits ct_rank_fits, f_ranks_fit, PySem.W.fnOf "ranks_fit" "ranks_fit" (defArgs s_ranks_fit) (defBody s_ranks_fit) (defScope s_ranks_fit) .none kV_ranks_fit dc_ranks_fit pm_ranks_fit an_ranks_fit cd_ranks_fit ct_ranks_fit, f_before_without_ballots, PySem.W.fnOf "before_without_ballots" "before_without_ballots" (defArgs s_before_without_ballots) (defBody s_before_without_ballots) (defScope s_before_without_ballots) .none kV_before_without_ballots dc_before_without_ballots pm_before_without_ballots an_before_without_ballots cd_before_without_ballots ct_before_without_ballots, f_count_ballot, PySem.W.fnOf "count_ballot" "count_ballot" (defArgs s_count_ballot) (defBody s_count_ballot) (defScope s_count_ballot) .none kV_count_ballot dc_count_ballot pm_count_ballot an_count_ballot cd_count_ballot ct_count_ballot, f_padded, PySem.W.fnOf "padded" "padded" (defArgs s_padded) (defBody s_padded) (defScope s_padded) .none kV_padded dc_padded pm_padded an_padded cd_padded ct_padded, f_order_fits, PySem.W.fnOf "order_fits" "order_fits" (defArgs s_order_fits) (defBody s_order_fits) (defScope s_order_fits) .none kV_order_fits dc_order_fits pm_order_fits an_order_fits cd_order_fits ct_order_fits, f_how_much_against, PySem.W.fnOf "how_much_against" "how_much_against" (defArgs s_how_much_against) (defBody s_how_much_against) (defScope s_how_much_against) .none kV_how_much_against dc_how_much_against pm_how_much_against an_how_much_against cd_how_much_against ct_how_much_against, f_sums_of_sets, PySem.W.fnOf "sums_of_sets" "sums_of_sets" (defArgs s_sums_of_sets) (defBody s_sums_of_sets) (defScope s_sums_of_sets) .none kV_sums_of_sets dc_sums_of_sets pm_sums_of_sets an_sums_of_sets cd_sums_of_sets ct_sums_of_sets, f_sums_if_ahead, PySem.W.fnOf "sums_if_ahead" "sums_if_ahead" (defArgs s_sums_if_ahead) (defBody s_sums_if_ahead) (defScope s_sums_if_ahead) .none kV_sums_if_ahead dc_sums_if_ahead pm_sums_if_ahead an_sums_if_ahead cd_sums_if_ahead ct_sums_if_ahead, f_least_if_ahead, PySem.W.fnOf "least_if_ahead" "least_if_ahead" (defArgs s_least_if_ahead) (defBody s_least_if_ahead) (defScope s_least_if_ahead) .none kV_least_if_ahead dc_least_if_ahead pm_least_if_ahead an_least_if_ahead cd_least_if_ahead ct_least_if_ahead, f_members_of, PySem.W.fnOf "members_of" "members_of" (defArgs s_members_of) (defBody s_members_of) (defScope s_members_of) .none kV_members_of dc_members_of pm_members_of an_members_of cd_members_of ct_members_of, f_least_of_sets, PySem.W.fnOf "least_of_sets" "least_of_sets" (defArgs s_least_of_sets) (defBody s_least_of_sets) (defScope s_least_of_sets) .none kV_least_of_sets dc_least_of_sets pm_least_of_sets an_least_of_sets cd_least_of_sets ct_least_of_sets, f_best_ahead, PySem.W.fnOf "best_ahead" "best_ahead" (defArgs s_best_ahead) (defBody s_best_ahead) (defScope s_best_ahead) .none kV_best_ahead dc_best_ahead pm_best_ahead an_best_ahead cd_best_ahead ct_best_ahead, f_order_of, PySem.W.fnOf "order_of" "order_of" (defArgs s_order_of) (defBody s_order_of) (defScope s_order_of) .none kV_order_of dc_order_of pm_order_of an_order_of cd_order_of ct_order_of, f_shifted_by_a_byte, PySem.W.fnOf "shifted_by_a_byte" "shifted_by_a_byte" (defArgs s_shifted_by_a_byte) (defBody s_shifted_by_a_byte) (defScope s_shifted_by_a_byte) .none kV_shifted_by_a_byte dc_shifted_by_a_byte pm_shifted_by_a_byte an_shifted_by_a_byte cd_shifted_by_a_byte ct_shifted_by_a_byte, f_check_of, PySem.W.fnOf "check_of" "check_of" (defArgs s_check_of) (defBody s_check_of) (defScope s_check_of) .none kV_check_of dc_check_of pm_check_of an_check_of cd_check_of ct_check_of, f_low_byte_first, PySem.W.fnOf "low_byte_first" "low_byte_first" (defArgs s_low_byte_first) (defBody s_low_byte_first) (defScope s_low_byte_first) .none kV_low_byte_first dc_low_byte_first pm_low_byte_first an_low_byte_first cd_low_byte_first ct_low_byte_first, f_from_low_byte_first, PySem.W.fnOf "from_low_byte_first" "from_low_byte_first" (defArgs s_from_low_byte_first) (defBody s_from_low_byte_first) (defScope s_from_low_byte_first) .none kV_from_low_byte_first dc_from_low_byte_first pm_from_low_byte_first an_from_low_byte_first cd_from_low_byte_first ct_from_low_byte_first, f_with_check, PySem.W.fnOf "with_check" "with_check" (defArgs s_with_check) (defBody s_with_check) (defScope s_with_check) .none kV_with_check dc_with_check pm_with_check an_with_check cd_with_check ct_with_check, f_ballot_message, PySem.W.fnOf "ballot_message" "ballot_message" (defArgs s_ballot_message) (defBody s_ballot_message) (defScope s_ballot_message) .none kV_ballot_message dc_ballot_message pm_ballot_message an_ballot_message cd_ballot_message ct_ballot_message, f_closing_message, PySem.W.fnOf "closing_message" "closing_message" (defArgs s_closing_message) (defBody s_closing_message) (defScope s_closing_message) .none kV_closing_message dc_closing_message pm_closing_message an_closing_message cd_closing_message ct_closing_message, f_kind_of, PySem.W.fnOf "kind_of" "kind_of" (defArgs s_kind_of) (defBody s_kind_of) (defScope s_kind_of) .none kV_kind_of dc_kind_of pm_kind_of an_kind_of cd_kind_of ct_kind_of, f_booth_of, PySem.W.fnOf "booth_of" "booth_of" (defArgs s_booth_of) (defBody s_booth_of) (defScope s_booth_of) .none kV_booth_of dc_booth_of pm_booth_of an_booth_of cd_booth_of ct_booth_of, f_number_of, PySem.W.fnOf "number_of" "number_of" (defArgs s_number_of) (defBody s_number_of) (defScope s_number_of) .none kV_number_of dc_number_of pm_number_of an_number_of cd_number_of ct_number_of, f_ranks_of, PySem.W.fnOf "ranks_of" "ranks_of" (defArgs s_ranks_of) (defBody s_ranks_of) (defScope s_ranks_of) .none kV_ranks_of dc_ranks_of pm_ranks_of an_ranks_of cd_ranks_of ct_ranks_of, f_is_right, PySem.W.fnOf "is_right" "is_right" (defArgs s_is_right) (defBody s_is_right) (defScope s_is_right) .none kV_is_right dc_is_right pm_is_right an_is_right cd_is_right ct_is_right, f_Booth_init, PySem.W.fnOf "__init__" "Booth.__init__" (defArgs s_Booth_init) (defBody s_Booth_init) (defScope s_Booth_init) .none kV_Booth_init dc_Booth_init pm_Booth_init an_Booth_init cd_Booth_init ct_Booth_init, f_Booth_start, PySem.W.fnOf "start" "Booth.start" (defArgs s_Booth_start) (defBody s_Booth_start) (defScope s_Booth_start) .none kV_Booth_start dc_Booth_start pm_Booth_start an_Booth_start cd_Booth_start ct_Booth_start, f_Booth_vote, PySem.W.fnOf "vote" "Booth.vote" (defArgs s_Booth_vote) (defBody s_Booth_vote) (defScope s_Booth_vote) .none kV_Booth_vote dc_Booth_vote pm_Booth_vote an_Booth_vote cd_Booth_vote ct_Booth_vote, f_Booth_close, PySem.W.fnOf "close" "Booth.close" (defArgs s_Booth_close) (defBody s_Booth_close) (defScope s_Booth_close) .none kV_Booth_close dc_Booth_close pm_Booth_close an_Booth_close cd_Booth_close ct_Booth_close, f_Booth_again, PySem.W.fnOf "again" "Booth.again" (defArgs s_Booth_again) (defBody s_Booth_again) (defScope s_Booth_again) .none kV_Booth_again dc_Booth_again pm_Booth_again an_Booth_again cd_Booth_again ct_Booth_again, f_Office_init, PySem.W.fnOf "__init__" "Office.__init__" (defArgs s_Office_init) (defBody s_Office_init) (defScope s_Office_init) .none kV_Office_init dc_Office_init pm_Office_init an_Office_init cd_Office_init ct_Office_init, f_Office_start, PySem.W.fnOf "start" "Office.start" (defArgs s_Office_start) (defBody s_Office_start) (defScope s_Office_start) .none kV_Office_start dc_Office_start pm_Office_start an_Office_start cd_Office_start ct_Office_start, f_Office_heard, PySem.W.fnOf "heard" "Office.heard" (defArgs s_Office_heard) (defBody s_Office_heard) (defScope s_Office_heard) .none kV_Office_heard dc_Office_heard pm_Office_heard an_Office_heard cd_Office_heard ct_Office_heard, f_Office_heard_closing, PySem.W.fnOf "heard_closing" "Office.heard_closing" (defArgs s_Office_heard_closing) (defBody s_Office_heard_closing) (defScope s_Office_heard_closing) .none kV_Office_heard_closing dc_Office_heard_closing pm_Office_heard_closing an_Office_heard_closing cd_Office_heard_closing ct_Office_heard_closing, f_Office_heard_ballot, PySem.W.fnOf "heard_ballot" "Office.heard_ballot" (defArgs s_Office_heard_ballot) (defBody s_Office_heard_ballot) (defScope s_Office_heard_ballot) .none kV_Office_heard_ballot dc_Office_heard_ballot pm_Office_heard_ballot an_Office_heard_ballot cd_Office_heard_ballot ct_Office_heard_ballot, f_Office_first_not_heard, PySem.W.fnOf "first_not_heard" "Office.first_not_heard" (defArgs s_Office_first_not_heard) (defBody s_Office_first_not_heard) (defScope s_Office_first_not_heard) .none kV_Office_first_not_heard dc_Office_first_not_heard pm_Office_first_not_heard an_Office_first_not_heard cd_Office_first_not_heard ct_Office_first_not_heard, f_Office_is_whole, PySem.W.fnOf "is_whole" "Office.is_whole" (defArgs s_Office_is_whole) (defBody s_Office_is_whole) (defScope s_Office_is_whole) .none kV_Office_is_whole dc_Office_is_whole pm_Office_is_whole an_Office_is_whole cd_Office_is_whole ct_Office_is_whole, f_Office_is_final, PySem.W.fnOf "is_final" "Office.is_final" (defArgs s_Office_is_final) (defBody s_Office_is_final) (defScope s_Office_is_final) .none kV_Office_is_final dc_Office_is_final pm_Office_is_final an_Office_is_final cd_Office_is_final ct_Office_is_final, f_Office_lacks, PySem.W.fnOf "lacks" "Office.lacks" (defArgs s_Office_lacks) (defBody s_Office_lacks) (defScope s_Office_lacks) .none kV_Office_lacks dc_Office_lacks pm_Office_lacks an_Office_lacks cd_Office_lacks ct_Office_lacks, f_Office_prefer, PySem.W.fnOf "prefer" "Office.prefer" (defArgs s_Office_prefer) (defBody s_Office_prefer) (defScope s_Office_prefer) .none kV_Office_prefer dc_Office_prefer pm_Office_prefer an_Office_prefer cd_Office_prefer ct_Office_prefer, f_Office_order, PySem.W.fnOf "order" "Office.order" (defArgs s_Office_order) (defBody s_Office_order) (defScope s_Office_order) .none kV_Office_order dc_Office_order pm_Office_order an_Office_order cd_Office_order ct_Office_order, f_Office_against, PySem.W.fnOf "against" "Office.against" (defArgs s_Office_against) (defBody s_Office_against) (defScope s_Office_against) .none kV_Office_against dc_Office_against pm_Office_against an_Office_against cd_Office_against ct_Office_against, f_end_of_call, PySem.W.fnOf "end_of_call" "end_of_call" (defArgs s_end_of_call) (defBody s_end_of_call) (defScope s_end_of_call) .none kV_end_of_call dc_end_of_call pm_end_of_call an_end_of_call cd_end_of_call ct_end_of_call, f_booth_answer, PySem.W.fnOf "booth_answer" "booth_answer" (defArgs s_booth_answer) (defBody s_booth_answer) (defScope s_booth_answer) .none kV_booth_answer dc_booth_answer pm_booth_answer an_booth_answer cd_booth_answer ct_booth_answer, f_office_answer, PySem.W.fnOf "office_answer" "office_answer" (defArgs s_office_answer) (defBody s_office_answer) (defScope s_office_answer) .none kV_office_answer dc_office_answer pm_office_answer an_office_answer cd_office_answer ct_office_answer, f_answer_of, PySem.W.fnOf "answer_of" "answer_of" (defArgs s_answer_of) (defBody s_answer_of) (defScope s_answer_of) .none kV_answer_of dc_answer_of pm_answer_of an_answer_of cd_answer_of ct_answer_of, f_answers, PySem.W.fnOf "answers" "answers" (defArgs s_answers) (defBody s_answers) (defScope s_answers) .none kV_answers dc_answers pm_answers an_answers cd_answers ct_answers⟩ := ⟨⟨_, PySem.W.mg_of X G h1⟩,
    ⟨_, PySem.W.mg_of X G h2⟩,
    ⟨_, PySem.W.mg_of X G h3⟩,
    ⟨_, PySem.W.mg_of X G h4⟩,
    ⟨_, PySem.W.mg_of X G h5⟩,
    ⟨_, PySem.W.mg_of X G h6⟩,
    ⟨_, PySem.W.mg_of X G h7⟩,
    ⟨_, PySem.W.mg_of X G h8⟩,
    ⟨_, PySem.W.mg_of X G h9⟩,
    ⟨_, PySem.W.mg_of X G h10⟩,
    ⟨_, PySem.W.mg_of X G h11⟩,
    ⟨_, PySem.W.mg_of X G h12⟩,
    ⟨_, PySem.W.mg_of X G h13⟩,
    ⟨_, PySem.W.mg_of X G h14⟩,
    ⟨_, PySem.W.mg_of X G h15⟩,
    ⟨_, PySem.W.mg_of X G h16⟩,
    ⟨_, PySem.W.mg_of X G h17⟩,
    ⟨_, PySem.W.mg_of X G h18⟩,
    ⟨_, PySem.W.mg_of X G h19⟩,
    ⟨_, PySem.W.mg_of X G h20⟩,
    ⟨_, PySem.W.mg_of X G h21⟩,
    ⟨_, PySem.W.mg_of X G h22⟩,
    ⟨_, PySem.W.mg_of X G h23⟩,
    ⟨_, PySem.W.mg_of X G h24⟩,
    ⟨_, PySem.W.mg_of X G h25⟩,
    ⟨_, PySem.W.mg_of X G h26⟩,
    ⟨_, PySem.W.mg_of X G h27⟩,
    PySem.W.mg_of X G h28,
    ⟨_, h29, h30⟩,
    PySem.W.mg_of X G h31,
    ⟨_, h32, h33⟩,
    PySem.W.mg_none_of X G h34,
    PySem.W.mg_none_of X G h35,
    PySem.W.mg_none_of X G h36,
    PySem.W.mg_none_of X G h37,
    PySem.W.mg_none_of X G h38,
    PySem.W.mg_none_of X G h39,
    PySem.W.mg_none_of X G h40,
    ⟨h42, h43, h44, h45⟩,
    PySem.W.mg_of X G h41,
    ⟨h46, h48, h49, h47⟩,
    h50,
    h51,
    h52,
    h53,
    ⟨h55, h56, h57, h58⟩,
    PySem.W.mg_of X G h54,
    ⟨h59, h61, h62, h60⟩,
    h63,
    h64,
    h65,
    h66,
    h67,
    h68,
    F_candidates_fit,
    F_candidates_fit.b1 (fun _ _ _ _ _ _ _ => rfl),
    PySem.W.mg_of X G h69,
    F_rank_fits,
    F_rank_fits.b3 (fun _ _ _ _ _ _ _ _ _ => rfl),
    PySem.W.mg_of X G h73,
    F_ranks_fit,
    F_ranks_fit.b2 (fun _ _ _ _ _ _ _ _ => rfl),
    PySem.W.mg_of X G h77,
    F_before_without_ballots,
    F_before_without_ballots.b1 (fun _ _ _ _ _ _ _ => rfl),
    PySem.W.mg_of X G h81,
    F_count_ballot,
    F_count_ballot.b2 (fun _ _ _ _ _ _ _ _ => rfl),
    PySem.W.mg_of X G h85,
    F_padded,
    F_padded.b1 (fun _ _ _ _ _ _ _ => rfl),
    PySem.W.mg_of X G h89,
    F_order_fits,
    F_order_fits.b2 (fun _ _ _ _ _ _ _ _ => rfl),
    PySem.W.mg_of X G h93,
    F_how_much_against,
    F_how_much_against.b2 (fun _ _ _ _ _ _ _ _ => rfl),
    PySem.W.mg_of X G h97,
    F_sums_of_sets,
    F_sums_of_sets.b1 (fun _ _ _ _ _ _ _ => rfl),
    PySem.W.mg_of X G h101,
    F_sums_if_ahead,
    F_sums_if_ahead.b1 (fun _ _ _ _ _ _ _ => rfl),
    PySem.W.mg_of X G h105,
    F_least_if_ahead,
    F_least_if_ahead.b4 (fun _ _ _ _ _ _ _ _ _ _ => rfl),
    PySem.W.mg_of X G h109,
    F_members_of,
    F_members_of.b2 (fun _ _ _ _ _ _ _ _ => rfl),
    PySem.W.mg_of X G h113,
    F_least_of_sets,
    F_least_of_sets.b1 (fun _ _ _ _ _ _ _ => rfl),
    PySem.W.mg_of X G h117,
    F_best_ahead,
    F_best_ahead.b3 (fun _ _ _ _ _ _ _ _ _ => rfl),
    PySem.W.mg_of X G h121,
    F_order_of,
    F_order_of.b1 (fun _ _ _ _ _ _ _ => rfl),
    PySem.W.mg_of X G h125,
    F_shifted_by_a_byte,
    F_shifted_by_a_byte.b1 (fun _ _ _ _ _ _ _ => rfl),
    PySem.W.mg_of X G h129,
    F_check_of,
    F_check_of.b1 (fun _ _ _ _ _ _ _ => rfl),
    PySem.W.mg_of X G h133,
    F_low_byte_first,
    F_low_byte_first.b1 (fun _ _ _ _ _ _ _ => rfl),
    PySem.W.mg_of X G h137,
    F_from_low_byte_first,
    F_from_low_byte_first.b1 (fun _ _ _ _ _ _ _ => rfl),
    PySem.W.mg_of X G h141,
    F_with_check,
    F_with_check.b1 (fun _ _ _ _ _ _ _ => rfl),
    PySem.W.mg_of X G h145,
    F_ballot_message,
    F_ballot_message.b3 (fun _ _ _ _ _ _ _ _ _ => rfl),
    PySem.W.mg_of X G h149,
    F_closing_message,
    F_closing_message.b2 (fun _ _ _ _ _ _ _ _ => rfl),
    PySem.W.mg_of X G h153,
    F_kind_of,
    F_kind_of.b1 (fun _ _ _ _ _ _ _ => rfl),
    PySem.W.mg_of X G h157,
    F_booth_of,
    F_booth_of.b1 (fun _ _ _ _ _ _ _ => rfl),
    PySem.W.mg_of X G h161,
    F_number_of,
    F_number_of.b1 (fun _ _ _ _ _ _ _ => rfl),
    PySem.W.mg_of X G h165,
    F_ranks_of,
    F_ranks_of.b1 (fun _ _ _ _ _ _ _ => rfl),
    PySem.W.mg_of X G h169,
    F_is_right,
    F_is_right.b2 (fun _ _ _ _ _ _ _ _ => rfl),
    PySem.W.mg_of X G h173,
    F_Booth_init,
    F_Booth_init.b1 (fun _ _ _ _ _ _ _ => rfl),
    F_Booth_start,
    F_Booth_start.b3 (fun _ _ _ _ _ _ _ _ _ => rfl),
    ⟨h180, h181, h184⟩,
    F_Booth_vote,
    F_Booth_vote.b2 (fun _ _ _ _ _ _ _ _ => rfl),
    ⟨h185, h186, h189⟩,
    F_Booth_close,
    F_Booth_close.b1 (fun _ _ _ _ _ _ _ => rfl),
    ⟨h190, h191, h194⟩,
    F_Booth_again,
    F_Booth_again.b2 (fun _ _ _ _ _ _ _ _ => rfl),
    ⟨h195, h196, h199⟩,
    F_Office_init,
    F_Office_init.b1 (fun _ _ _ _ _ _ _ => rfl),
    F_Office_start,
    F_Office_start.b3 (fun _ _ _ _ _ _ _ _ _ => rfl),
    ⟨h203, h204, h207⟩,
    F_Office_heard,
    F_Office_heard.b2 (fun _ _ _ _ _ _ _ _ => rfl),
    ⟨h208, h209, h212⟩,
    F_Office_heard_closing,
    F_Office_heard_closing.b3 (fun _ _ _ _ _ _ _ _ _ => rfl),
    ⟨h213, h214, h217⟩,
    F_Office_heard_ballot,
    F_Office_heard_ballot.b3 (fun _ _ _ _ _ _ _ _ _ => rfl),
    ⟨h218, h219, h222⟩,
    F_Office_first_not_heard,
    F_Office_first_not_heard.b2 (fun _ _ _ _ _ _ _ _ => rfl),
    ⟨h223, h224, h227⟩,
    F_Office_is_whole,
    F_Office_is_whole.b2 (fun _ _ _ _ _ _ _ _ => rfl),
    ⟨h228, h229, h232⟩,
    F_Office_is_final,
    F_Office_is_final.b1 (fun _ _ _ _ _ _ _ => rfl),
    ⟨h233, h234, h237⟩,
    F_Office_lacks,
    F_Office_lacks.b2 (fun _ _ _ _ _ _ _ _ => rfl),
    ⟨h238, h239, h242⟩,
    F_Office_prefer,
    F_Office_prefer.b3 (fun _ _ _ _ _ _ _ _ _ => rfl),
    ⟨h243, h244, h247⟩,
    F_Office_order,
    F_Office_order.b1 (fun _ _ _ _ _ _ _ => rfl),
    ⟨h248, h249, h252⟩,
    F_Office_against,
    F_Office_against.b2 (fun _ _ _ _ _ _ _ _ => rfl),
    ⟨h253, h254, h257⟩,
    F_end_of_call,
    F_end_of_call.b2 (fun _ _ _ _ _ _ _ _ => rfl),
    PySem.W.mg_of X G h258,
    F_booth_answer,
    F_booth_answer.b2 (fun _ _ _ _ _ _ _ _ => rfl),
    PySem.W.mg_of X G h262,
    F_office_answer,
    F_office_answer.b2 (fun _ _ _ _ _ _ _ _ => rfl),
    PySem.W.mg_of X G h266,
    F_answer_of,
    F_answer_of.b3 (fun _ _ _ _ _ _ _ _ _ => rfl),
    PySem.W.mg_of X G h270,
    F_answers,
    F_answers.b1 (fun _ _ _ _ _ _ _ => rfl),
    PySem.W.mg_of X G h274⟩
  have e := hfa.symm.trans T.m_answers
  cases e
  exact ⟨PySem.W.fnOf "answers" "answers" (defArgs s_answers) (defBody s_answers) (defScope s_answers) .none kV_answers dc_answers pm_answers an_answers cd_answers ct_answers, fun s us hu => match us, hu with | [_], _ => .of_eq rfl, fun base _ _ => ok_answers T⟩
end My
def PySem.W.Fast.tw1782011343588492174 : Nat := 0
def PySem.W.Fast.tw7441765833456611190 : Nat := 0
def PySem.W.Fast.tw13925660625263862444 : Nat := 0
def PySem.W.Fast.tw8467116410407629230 : Nat := 0
def PySem.W.Fast.tw16564651508708894423 : Nat := 0
def PySem.W.Fast.tw17063681612466514578 : Nat := 0
open PySem PySem.W PyProof.Rows
set_option maxRecDepth 100000 in
set_option maxHeartbeats 0 in
theorem PySem.Challenge.cw_oneorder_s01_answers_holds : PySem.Challenge.rw_oneorder_s01_answers.Holds := by
  w_on; k_headS; (case hw => exact ⟨[.list [.int 0, .int 0, .int 0, .int 2]], by decide +kernel, by decide +kernel⟩)
  k_fillS
  refine L2.walk_specK (r := PySem.Challenge.rw_oneorder_s01_answers) (k := 9) (CX := L2.CX0) (ps := ["calls"]) (sp := My.sp_answers) (by decide +kernel) rfl rfl ⟨rfl, by decide, by decide⟩ (fun w h Y => PySem.W.kIn_of Y) ?F ?S (fun _ _ _ _ z => z)
  case F =>
    intro w mg fa h Y KX G hmg
    refine' My.all_mk KX G hmg ?h1 ?h2 ?h3 ?h4 ?h5 ?h6 ?h7 ?h8 ?h9 ?h10 ?h11 ?h12 ?h13 ?h14 ?h15 ?h16 ?h17 ?h18 ?h19 ?h20 ?h21 ?h22 ?h23 ?h24 ?h25 ?h26 ?h27 ?h28 ?h29 ?h30 ?h31 ?h32 ?h33 ?h34 ?h35 ?h36 ?h37 ?h38 ?h39 ?h40 ?h41 ?h42 ?h43 ?h44 ?h45 ?h46 ?h47 ?h48 ?h49 ?h50 ?h51 ?h52 ?h53 ?h54 ?h55 ?h56 ?h57 ?h58 ?h59 ?h60 ?h61 ?h62 ?h63 ?h64 ?h65 ?h66 ?h67 ?h68 ?h69 ?h70 ?h71 ?h72 ?h73 ?h74 ?h75 ?h76 ?h77 ?h78 ?h79 ?h80 ?h81 ?h82 ?h83 ?h84 ?h85 ?h86 ?h87 ?h88 ?h89 ?h90 ?h91 ?h92 ?h93 ?h94 ?h95 ?h96 ?h97 ?h98 ?h99 ?h100 ?h101 ?h102 ?h103 ?h104 ?h105 ?h106 ?h107 ?h108 ?h109 ?h110 ?h111 ?h112 ?h113 ?h114 ?h115 ?h116 ?h117 ?h118 ?h119 ?h120 ?h121 ?h122 ?h123 ?h124 ?h125 ?h126 ?h127 ?h128 ?h129 ?h130 ?h131 ?h132 ?h133 ?h134 ?h135 ?h136 ?h137 ?h138 ?h139 ?h140 ?h141 ?h142 ?h143 ?h144 ?h145 ?h146 ?h147 ?h148 ?h149 ?h150 ?h151 ?h152 ?h153 ?h154 ?h155 ?h156 ?h157 ?h158 ?h159 ?h160 ?h161 ?h162 ?h163 ?h164 ?h165 ?h166 ?h167 ?h168 ?h169 ?h170 ?h171 ?h172 ?h173 ?h174 ?h175 ?h176 ?h177 ?h178 ?h179 ?h180 ?h181 ?h182 ?h183 ?h184 ?h185 ?h186 ?h187 ?h188 ?h189 ?h190 ?h191 ?h192 ?h193 ?h194 ?h195 ?h196 ?h197 ?h198 ?h199 ?h200 ?h201 ?h202 ?h203 ?h204 ?h205 ?h206 ?h207 ?h208 ?h209 ?h210 ?h211 ?h212 ?h213 ?h214 ?h215 ?h216 ?h217 ?h218 ?h219 ?h220 ?h221 ?h222 ?h223 ?h224 ?h225 ?h226 ?h227 ?h228 ?h229 ?h230 ?h231 ?h232 ?h233 ?h234 ?h235 ?h236 ?h237 ?h238 ?h239 ?h240 ?h241 ?h242 ?h243 ?h244 ?h245 ?h246 ?h247 ?h248 ?h249 ?h250 ?h251 ?h252 ?h253 ?h254 ?h255 ?h256 ?h257 ?h258 ?h259 ?h260 ?h261 ?h262 ?h263 ?h264 ?h265 ?h266 ?h267 ?h268 ?h269 ?h270 ?h271 ?h272 ?h273 ?h274 ?h275 ?h276 ?h277
    (case h1 => k_is)
    (case h2 => k_is)
    (case h3 => k_is)
    (case h4 => k_is)
    (case h5 => k_is)
    (case h6 => k_is)
    (case h7 => k_is)
    (case h8 => k_is)
    (case h9 => k_is)
    (case h10 => k_is)
    (case h11 => k_is)
    (case h12 => k_is)
    (case h13 => k_is)
    (case h14 => k_is)
    (case h15 => k_is)
    (case h16 => k_is)
    (case h17 => k_is)
    (case h18 => k_is)
    (case h19 => k_is)
    (case h20 => k_is)
    (case h21 => k_is)
    (case h22 => k_is)
    (case h23 => k_is)
    (case h24 => k_is)
    (case h25 => k_is)
    (case h26 => k_is)
    (case h27 => k_is)
    (case h28 => k_is)
    (case h29 => k_is)
    (case h30 => decide +kernel)
    (case h31 => k_is)
    (case h32 => k_is)
    (case h33 => decide +kernel)
    (case h34 => k_is)
    (case h35 => k_is)
    (case h36 => k_is)
    (case h37 => k_is)
    (case h38 => k_is)
    (case h39 => k_is)
    (case h40 => k_is)
    (case h41 => k_is)
    (case h42 => k_is)
    (case h43 => k_is)
    (case h44 => k_is)
    (case h45 => k_is)
    (case h46 => k_is)
    (case h47 => k_is)
    (case h48 => k_is)
    (case h49 => k_is)
    (case h50 => k_is)
    (case h51 => k_is)
    (case h52 => k_is)
    (case h53 => k_is)
    (case h54 => k_is)
    (case h55 => k_is)
    (case h56 => k_is)
    (case h57 => k_is)
    (case h58 => k_is)
    (case h59 => k_is)
    (case h60 => k_is)
    (case h61 => k_is)
    (case h62 => k_is)
    (case h63 => k_is)
    (case h64 => k_is)
    (case h65 => k_is)
    (case h66 => k_is)
    (case h67 => k_is)
    (case h68 => k_is)
    (case h69 => k_is)
    (case h70 => k_is)
    (case h71 => k_is)
    (case h72 => k_is)
    (case h73 => k_is)
    (case h74 => k_is)
    (case h75 => k_is)
    (case h76 => k_is)
    (case h77 => k_is)
    (case h78 => k_is)
    (case h79 => k_is)
    (case h80 => k_is)
    (case h81 => k_is)
    (case h82 => k_is)
    (case h83 => k_is)
    (case h84 => k_is)
    (case h85 => k_is)
    (case h86 => k_is)
    (case h87 => k_is)
    (case h88 => k_is)
    (case h89 => k_is)
    (case h90 => k_is)
    (case h91 => k_is)
    (case h92 => k_is)
    (case h93 => k_is)
    (case h94 => k_is)
    (case h95 => k_is)
    (case h96 => k_is)
    (case h97 => k_is)
    (case h98 => k_is)
    (case h99 => k_is)
    (case h100 => k_is)
    (case h101 => k_is)
    (case h102 => k_is)
    (case h103 => k_is)
    (case h104 => k_is)
    (case h105 => k_is)
    (case h106 => k_is)
    (case h107 => k_is)
    (case h108 => k_is)
    (case h109 => k_is)
    (case h110 => k_is)
    (case h111 => k_is)
    (case h112 => k_is)
    (case h113 => k_is)
    (case h114 => k_is)
    (case h115 => k_is)
    (case h116 => k_is)
    (case h117 => k_is)
    (case h118 => k_is)
    (case h119 => k_is)
    (case h120 => k_is)
    (case h121 => k_is)
    (case h122 => k_is)
    (case h123 => k_is)
    (case h124 => k_is)
    (case h125 => k_is)
    (case h126 => k_is)
    (case h127 => k_is)
    (case h128 => k_is)
    (case h129 => k_is)
    (case h130 => k_is)
    (case h131 => k_is)
    (case h132 => k_is)
    (case h133 => k_is)
    (case h134 => k_is)
    (case h135 => k_is)
    (case h136 => k_is)
    (case h137 => k_is)
    (case h138 => k_is)
    (case h139 => k_is)
    (case h140 => k_is)
    (case h141 => k_is)
    (case h142 => k_is)
    (case h143 => k_is)
    (case h144 => k_is)
    (case h145 => k_is)
    (case h146 => k_is)
    (case h147 => k_is)
    (case h148 => k_is)
    (case h149 => k_is)
    (case h150 => k_is)
    (case h151 => k_is)
    (case h152 => k_is)
    (case h153 => k_is)
    (case h154 => k_is)
    (case h155 => k_is)
    (case h156 => k_is)
    (case h157 => k_is)
    (case h158 => k_is)
    (case h159 => k_is)
    (case h160 => k_is)
    (case h161 => k_is)
    (case h162 => k_is)
    (case h163 => k_is)
    (case h164 => k_is)
    (case h165 => k_is)
    (case h166 => k_is)
    (case h167 => k_is)
    (case h168 => k_is)
    (case h169 => k_is)
    (case h170 => k_is)
    (case h171 => k_is)
    (case h172 => k_is)
    (case h173 => k_is)
    (case h174 => k_is)
    (case h175 => k_is)
    (case h176 => k_is)
    (case h177 => k_is)
    (case h178 => k_is)
    (case h179 => k_is)
    (case h180 => k_is)
    (case h181 => k_is)
    (case h182 => k_is)
    (case h183 => k_is)
    (case h184 => k_is)
    (case h185 => k_is)
    (case h186 => k_is)
    (case h187 => k_is)
    (case h188 => k_is)
    (case h189 => k_is)
    (case h190 => k_is)
    (case h191 => k_is)
    (case h192 => k_is)
    (case h193 => k_is)
    (case h194 => k_is)
    (case h195 => k_is)
    (case h196 => k_is)
    (case h197 => k_is)
    (case h198 => k_is)
    (case h199 => k_is)
    (case h200 => k_is)
    (case h201 => k_is)
    (case h202 => k_is)
    (case h203 => k_is)
    (case h204 => k_is)
    (case h205 => k_is)
    (case h206 => k_is)
    (case h207 => k_is)
    (case h208 => k_is)
    (case h209 => k_is)
    (case h210 => k_is)
    (case h211 => k_is)
    (case h212 => k_is)
    (case h213 => k_is)
    (case h214 => k_is)
    (case h215 => k_is)
    (case h216 => k_is)
    (case h217 => k_is)
    (case h218 => k_is)
    (case h219 => k_is)
    (case h220 => k_is)
    (case h221 => k_is)
    (case h222 => k_is)
    (case h223 => k_is)
    (case h224 => k_is)
    (case h225 => k_is)
    (case h226 => k_is)
    (case h227 => k_is)
    (case h228 => k_is)
    (case h229 => k_is)
    (case h230 => k_is)
    (case h231 => k_is)
    (case h232 => k_is)
    (case h233 => k_is)
    (case h234 => k_is)
    (case h235 => k_is)
    (case h236 => k_is)
    (case h237 => k_is)
    (case h238 => k_is)
    (case h239 => k_is)
    (case h240 => k_is)
    (case h241 => k_is)
    (case h242 => k_is)
    (case h243 => k_is)
    (case h244 => k_is)
    (case h245 => k_is)
    (case h246 => k_is)
    (case h247 => k_is)
    (case h248 => k_is)
    (case h249 => k_is)
    (case h250 => k_is)
    (case h251 => k_is)
    (case h252 => k_is)
    (case h253 => k_is)
    (case h254 => k_is)
    (case h255 => k_is)
    (case h256 => k_is)
    (case h257 => k_is)
    (case h258 => k_is)
    (case h259 => k_is)
    (case h260 => k_is)
    (case h261 => k_is)
    (case h262 => k_is)
    (case h263 => k_is)
    (case h264 => k_is)
    (case h265 => k_is)
    (case h266 => k_is)
    (case h267 => k_is)
    (case h268 => k_is)
    (case h269 => k_is)
    (case h270 => k_is)
    (case h271 => k_is)
    (case h272 => k_is)
    (case h273 => k_is)
    (case h274 => k_is)
    (case h275 => k_is)
    (case h276 => k_is)
    (case h277 => k_is)
  case S =>
    intro K H xs a hO hwi hask hx
    cases hx with
    | cons h1 h2 =>
      cases h2
      cases h1 with
      | lst hs ha =>
        have e := L2.ints_dw a.1 _ ha
        subst e
        have q : ((Codec.inLen 0 30000 a.1 && a.1.all (Codec.inInt 0 4294967295)) && true) = true := hwi
        rw [Bool.and_eq_true, Bool.and_eq_true] at q
        exact ⟨_, a.1, rfl, hs, hask, (Codec.inNat_iff.mp q.1.1).2, fun H' p hp => .lst (L2.SqL.of hp) (L2.dw_ints _)⟩
