import PyProof.Rows.All
import Wide.All
import OpenK.AllK
import Wide.FinOn
import Lean
import PyProof.EqAt
import PyProof.EqKinds
import PyProof.TupleCall
import PyProof.AttrMissHeap
import KE.KDictOf
import PyProof.ConsumeWalk
import PyProof.ZipIter
import PyProof.EnumMake
import KE.KEqDict
import PySem.Challenge.RW_neverstuck_k01_terms
set_option Elab.async false
set_option linter.all false
set_option maxRecDepth 100000
set_option maxHeartbeats 4000000
/-! THE HAND LAYER, for ints, bools, texts, own classes, LISTS and tuples (index, slices, in, append, pop ..), calls, loops. Paste it whole ahead of your own text; what your proof does not reach may be deleted. -/
namespace L2
open PySem PySem.Spec PyProof.Rows

/-- a key: an int or a str -/
abbrev Key := Sum Int Str
def keyIs : Key → Value → Bool
  | .inl k, v => Value.isInt k v
  | .inr x, v => Value.isStrOf x v
def keyH (w : World) : Key → Int
  | .inl k => hashInt k
  | .inr x => hashStr w x
theorem keyIs_shape : ∀ {k : Key} {v : Value}, keyIs k v = true → (∃ i t, k = Sum.inl i ∧ v = Value.int i t) ∨ (∃ x t, k = Sum.inr x ∧ v = Value.str x t)
  | .inl i, v, h => by
    obtain ⟨t, e⟩ := Value.isInt_shape (k := i) (v := v) h
    exact .inl ⟨i, t, rfl, e⟩
  | .inr x, v, h => by
    obtain ⟨t, e⟩ := Value.isStrOf_shape (x := x) (v := v) h
    exact .inr ⟨x, t, rfl, e⟩
theorem keyIs_int (i : Int) (t : Tok) : keyIs (.inl i) (.int i t) = true := by simp [keyIs, Value.isInt]
theorem keyIs_str (x : Str) (t : Tok) : keyIs (.inr x) (.str x t) = true := by simp [keyIs, Value.isStrOf]
theorem key_ll (a b : Int) : decide ((Sum.inl a : Key) = Sum.inl b) = (a == b) := by
  by_cases e : a = b
  · subst e; simp
  · have h : ¬ (Sum.inl a : Key) = Sum.inl b := fun q => e (Sum.inl.inj q)
    rw [decide_eq_false h]
    exact (beq_eq_false_iff_ne.mpr e).symm
theorem key_rr (a b : Str) : decide ((Sum.inr a : Key) = Sum.inr b) = decide (a = b) := by
  by_cases e : a = b
  · subst e; simp
  · have h : ¬ (Sum.inr a : Key) = Sum.inr b := fun q => e (Sum.inr.inj q)
    rw [decide_eq_false h, decide_eq_false e]
theorem key_lr (a : Int) (b : Str) : decide ((Sum.inl a : Key) = Sum.inr b) = false := decide_eq_false (fun q => nomatch q)
theorem key_rl (a : Str) (b : Int) : decide ((Sum.inr a : Key) = Sum.inl b) = false := decide_eq_false (fun q => nomatch q)

def mixKind (prog : Program) (w : World) : PySem.KeyKind prog w Key where
  is := keyIs
  hash := keyH w
  inj := fun v a b ha hb => by
    rcases keyIs_shape ha with ⟨i, t, rfl, rfl⟩ | ⟨x, t, rfl, rfl⟩
    · rcases keyIs_shape hb with ⟨j, u, rfl, e⟩ | ⟨y, u, rfl, e⟩
      · injection e with e1 _; rw [e1]
      · exact nomatch e
    · rcases keyIs_shape hb with ⟨j, u, rfl, e⟩ | ⟨y, u, rfl, e⟩
      · exact nomatch e
      · injection e with e1 _; rw [e1]
  byValue := fun k v h => by
    rcases keyIs_shape h with ⟨i, t, rfl, rfl⟩ | ⟨x, t, rfl, rfl⟩ <;> rfl
  pyHash := fun hv h => by
    rcases keyIs_shape hv with ⟨i, t, rfl, rfl⟩ | ⟨x, t, rfl, rfl⟩
    · exact wpAny_pyHash_int h
    · exact wpAny_pyHash_str h
  eqBool := fun hu hv h => by
    rcases keyIs_shape hu with ⟨i, t, rfl, rfl⟩ | ⟨x, t, rfl, rfl⟩
    · rcases keyIs_shape hv with ⟨j, u, rfl, rfl⟩ | ⟨y, u, rfl, rfl⟩
      · rw [key_ll] at h; exact wpAny_eqBool_int h
      · rw [key_lr] at h; exact SeqAt.EqAt.int_str i t y u _ _ _ _ h
    · rcases keyIs_shape hv with ⟨j, u, rfl, rfl⟩ | ⟨y, u, rfl, rfl⟩
      · rw [key_rl] at h; exact SeqAt.EqAt.str_int x t j u _ _ _ _ h
      · rw [key_rr] at h; exact wpAny_eqBool_str h
  «strs» := fun k x t v h => by
    rcases keyIs_shape h with ⟨i, u, rfl, e⟩ | ⟨y, u, rfl, e⟩
    · exact nomatch e
    · injection e with e1 _
      subst e1
      cases v <;> rfl

theorem mixKind_is (prog : Program) (w : World) (k : Key) (v : Value) : (mixKind prog w).is k v = keyIs k v := rfl
theorem mixKind_int (prog : Program) (w : World) (i : Int) (t : Tok) : (mixKind prog w).is (.inl i) (.int i t) = true := keyIs_int i t
theorem mixKind_str (prog : Program) (w : World) (x : Str) (t : Tok) : (mixKind prog w).is (.inr x) (.str x t) = true := keyIs_str x t
end L2
namespace L2
open PySem PySem.Spec PyProof.Rows

/-- a value, without the heap -/
inductive V where
  | non | bl (b : Bool) | int (i : Int) | str (x : Str) | byt (b : Array UInt8) | flt (b : UInt64) | ref (a : Addr) | ty (n : String)
  deriving DecidableEq

def RelV : V → Value → Prop
  | .non, u => u = Value.none
  | .bl b, u => u = Value.bool b
  | .int i, u => ∃ t, u = Value.int i t
  | .str x, u => ∃ t, u = Value.str x t
  | .byt b, u => ∃ t, u = Value.bytes b t
  | .flt b, u => ∃ t, u = Value.float b t
  | .ref a, u => u = Value.ref a
  | .ty n, u => u = Value.type n

abbrev Vals : List V → List Value → Prop := Paired RelV
theorem Vals.length {xs : List V} {us : List Value} (r : Vals xs us) : xs.length = us.length := Paired.length r
theorem Vals.get : ∀ {xs : List V} {us : List Value} {i : Nat} {x : V}, Vals xs us → xs[i]? = some x → ∃ u, us[i]? = some u ∧ RelV x u
  | _, _, _, _, .nil, e => by simp at e
  | _, _, 0, _, .cons r _, e => by simp at e; subst e; exact ⟨_, rfl, r⟩
  | _, _, i + 1, x, .cons _ t, e => by
    obtain ⟨u, h1, h2⟩ := Vals.get (i := i) (x := x) t (by simpa using e)
    exact ⟨u, by simpa using h1, h2⟩
theorem Vals.set {x : V} {u : Value} (r : RelV x u) : ∀ {xs : List V} {us : List Value} (i : Nat), Vals xs us → Vals (xs.set i x) (us.set i u)
  | _, _, _, .nil => .nil
  | _, _, 0, .cons _ t => .cons r t
  | _, _, i + 1, .cons q t => .cons q (Vals.set r i t)
theorem Vals.append : ∀ {xs ys : List V} {us ws : List Value}, Vals xs us → Vals ys ws → Vals (xs ++ ys) (us ++ ws)
  | _, _, _, _, .nil, s => s
  | _, _, _, _, .cons r t, s => .cons r (Vals.append t s)
theorem Vals.take : ∀ {xs : List V} {us : List Value} (n : Nat), Vals xs us → Vals (xs.take n) (us.take n)
  | _, _, 0, _ => .nil
  | _, _, _ + 1, .nil => .nil
  | _, _, n + 1, .cons r t => .cons r (Vals.take n t)
theorem Vals.drop : ∀ {xs : List V} {us : List Value} (n : Nat), Vals xs us → Vals (xs.drop n) (us.drop n)
  | _, _, 0, r => r
  | _, _, _ + 1, .nil => .nil
  | _, _, n + 1, .cons _ t => Vals.drop n t
theorem Vals.none_of : ∀ {xs : List V} {us : List Value} {i : Nat}, Vals xs us → xs[i]? = none → us[i]? = none := fun {xs us i} r e => by
  have h1 := r.length
  have h2 : xs.length ≤ i := List.getElem?_eq_none_iff.mp e
  exact List.getElem?_eq_none_iff.mpr (by omega)

def RelO : Option V → Option Value → Prop
  | some v, some u => RelV v u
  | none, none => True
  | _, _ => False
def KV {κ : Type} : List (κ × V) → List (κ × Value) → Prop := Paired fun (p : κ × V) (q : κ × Value) => p.1 = q.1 ∧ RelV p.2 q.2

/-- a key of a dict (00_mix): an int or a text -/
def kV : Key → V
  | .inl i => .int i
  | .inr x => .str x

/-- what stands at a tracked address -/
inductive HO where
  /-- a list -/
  | lst (xs : List V)
  /-- a tuple (never changes) -/
  | tup (xs : List V)
  /-- a dict whose keys are ints and texts; one whose keys are tuples of ints and texts (the empty one is both) -/
  | dK (kvs : List (Key × V)) | dT (kvs : List (List Key × V))
  /-- a set of ints: its members, its size -/
  | set (S : Int → Bool) (n : Nat)
  /-- an instance of the class at C, its dict at dx, its attributes -/
  | ins (C dx : Addr) (fs : List (Str × V))
  /-- the dict of the instance at x -/
  | own (x : Addr)
  /-- the dict of an exception -/
  | xd (fs : List (Str × V))
  /-- a bound method, f of x -/
  | met (f x : Addr)
  /-- a range object lo, lo + 1, .. below hi -/
  | rng (lo hi : Int)
  /-- a thing that is known to the object (the script; a dict while a loop walks it): read, never written while it is so -/
  | frz (o : Obj) (u : HO)
  /-- a code object's table -/
  | tbl (ps : Array Value)
  /-- any other thing, by what is true of its one object (a def of one's own: SetO a S n := HO.ext fun h => ..) -/
  | ext (φ : Heap → Prop)

abbrev Hp := Addr → Option HO
def upd (H : Hp) (a : Addr) (o : HO) : Hp := fun b => if b = a then some o else H b
theorem upd_same {H : Hp} {a : Addr} {o : HO} : upd H a o a = some o := by unfold upd; rw [if_pos rfl]
theorem upd_ne {H : Hp} {a b : Addr} {o : HO} (h : b ≠ a) : upd H a o b = H b := by unfold upd; rw [if_neg h]
theorem upd_upd {H : Hp} {a : Addr} {o u : HO} : upd (upd H a o) a u = upd H a u := by
  funext b; unfold upd; split <;> rfl
/-- two objects of different content stand apart -/
theorem ne_of {H : Hp} {a b : Addr} {o u : HO} (h : H a = some o) (h' : H b = some u) (d : o ≠ u) : a ≠ b := by
  intro e; subst e; rw [h] at h'; exact d (Option.some.inj h')
theorem ne_of_none {H : Hp} {a b : Addr} {o : HO} (h : H a = some o) (h' : H b = none) : a ≠ b := by
  intro e; subst e; rw [h] at h'; cases h'

section
variable (P : Program) (w : World)
def ObjOk (H : Hp) (h : Heap) (a : Addr) : HO → Prop
  | .lst xs => xs.length ≤ sizeLine ∧ ∃ (its : List Value) (n : Nat), Vals xs its ∧ h.get? a = some { cls := .type "list", data := .seq its.toArray n }
  | .tup xs => xs.length ≤ sizeLine ∧ ∃ its : List Value, Vals xs its ∧ IsTup h a its.toArray
  | .dK kvs => kvs.length ≤ sizeLine ∧ (a == sysModules) = false ∧ ∃ vs, KV kvs vs ∧ h.DictOf (mixKind P w) a vs
  | .dT kvs => kvs.length ≤ sizeLine ∧ (a == sysModules) = false ∧ ∃ xs : List (List Key × Addr × Value),
      Paired (fun (p : List Key × V) (q : List Key × Addr × Value) => p.1 = q.1 ∧ H q.2.1 = some (.tup (p.1.map kV)) ∧ RelV p.2 q.2.2) kvs xs ∧
      ∃ o es ep, h.get? a = some o ∧ o.ExactDict ∧ o.data = .dict es ep ∧ es.toList = xs.map (entryOfKey (tupleKind (mixKind P w))) ∧ (xs.map (·.1)).Nodup
  | .set S n => h.SetOf (intKind P w) a S n
  | .ins C dx fs => H dx = some (.own a) ∧ fs.length ≤ 1000 ∧ dx ≠ a ∧ h.get? a = some (PySem.W.instObj C dx) ∧
      ∃ mA, h.Ns1 dx mA ∧ (∀ f, RelO (fs.lookup f) (mA f)) ∧ PySem.Within mA (fs.map (·.1))
  | .own _ => ∃ o, h.get? a = some o
  | .xd fs => ∃ mA, h.Ns1 a mA ∧ ∀ f, RelO (fs.lookup f) (mA f)
  | .rng lo hi => ∃ t u v, h.get? a = some { cls := .type "range", data := .fields #[.int lo t, .int hi u, .int 1 v] }
  | .frz o u => h.get? a = some o ∧ ObjOk H h a u
  | .tbl ps => h.get? a = some { cls := .none, data := .fields ps }
  | .met f x => h.get? a = some (PySem.W.methodObj (.ref f) (.ref x))
  | .ext φ => φ h ∧ (∃ o, h.get? a = some o) ∧ ∀ h1 h2 : Heap, φ h1 → (∀ o, h1.get? a = some o → h2.get? a = some o) → φ h2
/-- the abstract heap is held -/
def HOk (H : Hp) (h : Heap) : Prop := ∀ a o, H a = some o → ObjOk P w H h a o
end

section
variable {P : Program} {w : World} {H H' : Hp} {h h' : Heap} {a : Addr} {o : HO}
theorem ObjOk.lt (x : ObjOk P w H h a o) : a < h.objs.size := by
  cases o with
  | lst xs => obtain ⟨_, _, _, _, e⟩ := x; exact Heap.lt_size e
  | tup xs => obtain ⟨_, _, _, p⟩ := x; exact p.lt
  | dK kvs => obtain ⟨_, _, _, _, o, _, _, e, _⟩ := x; exact Heap.lt_size e
  | dT kvs => obtain ⟨_, _, _, _, o, _, _, e, _⟩ := x; exact Heap.lt_size e
  | set S n => obtain ⟨o, _, _, _, e, _⟩ := x; exact Heap.lt_size e
  | ins C dx fs => obtain ⟨_, _, _, e, _⟩ := x; exact Heap.lt_size e
  | own y => obtain ⟨_, e⟩ := x; exact Heap.lt_size e
  | xd fs => obtain ⟨_, ⟨_, _, _, e, _⟩, _⟩ := x; exact Heap.lt_size e
  | rng lo hi => obtain ⟨_, _, _, e⟩ := x; exact Heap.lt_size e
  | frz ob u => obtain ⟨e, _⟩ := x; exact Heap.lt_size e
  | tbl ps => exact Heap.lt_size (show h.get? a = some _ from x)
  | met f y => exact Heap.lt_size (show h.get? a = some _ from x)
  | ext φ => obtain ⟨_, ⟨_, e⟩, _⟩ := x; exact Heap.lt_size e
theorem Paired.mapP {α β : Type} {F G : α → β → Prop} : ∀ {l₁ : List α} {l₂ : List β}, Paired F l₁ l₂ → (∀ a b, F a b → G a b) → Paired G l₁ l₂
  | _, _, .nil, _ => .nil
  | _, _, .cons r t, f => .cons (f _ _ r) (Paired.mapP t f)
theorem Paired.imp' {α β : Type} {F G : α → β → Prop} (f : ∀ a b, F a b → G a b) {l₁ : List α} {l₂ : List β} (r : Paired F l₁ l₂) : Paired G l₁ l₂ := Paired.mapP r f
/-- what an object's description leans on: its own object, its own dict, the tuples -/
theorem ObjOk.stay (x : ObjOk P w H h a o) (k : ∀ b u, (b = a ∨ H b = some (.own a)) → h.get? b = some u → h'.get? b = some u)
    (ho : ∀ b, H b = some (.own a) → H' b = some (.own a)) (ht : ∀ b xs, H b = some (.tup xs) → H' b = some (.tup xs)) : ObjOk P w H' h' a o := by
  induction o with
  | lst xs => obtain ⟨z, its, n, r, e⟩ := x; exact ⟨z, its, n, r, k _ _ (.inl rfl) e⟩
  | tup xs => obtain ⟨z, its, r, ob, e, c⟩ := x; exact ⟨z, its, r, ob, k _ _ (.inl rfl) e, c⟩
  | dK kvs => obtain ⟨z, y, vs, r, ob, es, ep, e, c⟩ := x; exact ⟨z, y, vs, r, ob, es, ep, k _ _ (.inl rfl) e, c⟩
  | dT kvs =>
    obtain ⟨z, y, xs, r, ob, es, ep, e, c⟩ := x
    exact ⟨z, y, xs, Paired.mapP r fun p q z => ⟨z.1, ht _ _ z.2.1, z.2.2⟩, ob, es, ep, k _ _ (.inl rfl) e, c⟩
  | set S n => obtain ⟨ob, es, ep, t, e, c⟩ := x; exact ⟨ob, es, ep, t, k _ _ (.inl rfl) e, c⟩
  | ins C dx fs =>
    obtain ⟨d, z, ne, e, mA, ⟨od, es, ep, e2, c⟩, r⟩ := x
    exact ⟨ho _ d, z, ne, k _ _ (.inl rfl) e, mA, ⟨od, es, ep, k _ _ (.inr d) e2, c⟩, r⟩
  | own y => obtain ⟨ob, e⟩ := x; exact ⟨ob, k _ _ (.inl rfl) e⟩
  | xd fs => obtain ⟨mA, ⟨od, es, ep, e, c⟩, r⟩ := x; exact ⟨mA, ⟨od, es, ep, k _ _ (.inl rfl) e, c⟩, r⟩
  | rng lo hi => obtain ⟨t, u, v, e⟩ := x; exact ⟨t, u, v, k _ _ (.inl rfl) e⟩
  | frz ob u ih => obtain ⟨e, q⟩ := x; exact ⟨k _ _ (.inl rfl) e, ih q⟩
  | tbl ps =>
    have e : h.get? a = some { cls := .none, data := .fields ps } := x
    show h'.get? a = some { cls := .none, data := .fields ps }
    exact k a _ (.inl rfl) e
  | met f y =>
    have e : h.get? a = some (PySem.W.methodObj (.ref f) (.ref y)) := x
    show h'.get? a = some (PySem.W.methodObj (.ref f) (.ref y))
    exact k a _ (.inl rfl) e
  | ext φ => obtain ⟨p, ⟨o, e⟩, st⟩ := x; exact ⟨st _ _ p fun o q => k _ _ (.inl rfl) q, ⟨o, k _ _ (.inl rfl) e⟩, st⟩
theorem HOk.lt (x : HOk P w H h) (e : H a = some o) : a < h.objs.size := (x a o e).lt
theorem HOk.fresh (x : HOk P w H h) (e : h.objs.size ≤ a) : H a = none := by
  cases q : H a with
  | none => rfl
  | some u => exact absurd (Nat.lt_of_lt_of_le (x.lt q) e) (Nat.lt_irrefl _)
/-- every object of the heap is kept -/
theorem HOk.kept (x : HOk P w H h) (k : ∀ b u, h.get? b = some u → h'.get? b = some u) : HOk P w H h' := fun a o e =>
  (x a o e).stay (fun b u _ q => k b u q) (fun _ q => q) fun _ _ q => q
/-- a new object is laid and tracked -/
theorem HOk.laid (x : HOk P w H h) (k : ∀ b u, h.get? b = some u → h'.get? b = some u) (hp : h.objs.size ≤ a) (new : ObjOk P w (upd H a o) h' a o) : HOk P w (upd H a o) h' := fun b u e => by
  have hn := x.fresh hp
  by_cases hb : b = a
  · subst hb; rw [upd_same] at e; cases e; exact new
  · rw [upd_ne hb] at e
    exact (x b u e).stay (fun c v _ q => k c v q) (fun c q => by rw [upd_ne (ne_of_none q hn)]; exact q) fun c xs q => by rw [upd_ne (ne_of_none q hn)]; exact q
end

/-- what may be read as u: it is u, or a known u -/
def Rd (H : Hp) (a : Addr) (u : HO) : Prop := H a = some u ∨ ∃ o, H a = some (.frz o u)
theorem Rd.of {H : Hp} {a : Addr} {u : HO} (h : H a = some u) : Rd H a u := .inl h
theorem Rd.ok {P : Program} {w : World} {H : Hp} {h : Heap} {a : Addr} {u : HO} (r : Rd H a u) (x : HOk P w H h) : ObjOk P w H h a u := by
  rcases r with r | ⟨o, r⟩
  · exact x a u r
  · obtain ⟨_, q⟩ := x a _ r
    exact q
/-- what may be written -/
def Mut : Option HO → Prop
  | some (.lst _) => True
  | some (.dK _) => True
  | some (.dT _) => True
  | some (.set _ _) => True
  | some (.ins _ _ _) => True
  | some (.ext _) => True
  | _ => False
section
variable {P : Program} {w : World} {H : Hp} {h h' : Heap} {x e : Addr} {o' : HO}
/-- the object at e is changed: x itself, or the dict of the instance x -/
theorem HOk.write (ok : HOk P w H h) (mu : Mut (H x)) (he : e = x ∨ H e = some (.own x)) (k : ∀ b u, b ≠ e → h.get? b = some u → h'.get? b = some u) (heo : ∃ u, h'.get? e = some u)
    (new : ObjOk P w (upd H x o') h' x o') : HOk P w (upd H x o') h' := fun b u q => by
  have nown : ∀ c y, H c = some (.own y) → c ≠ x := fun c y r z => by subst z; rw [r] at mu; exact mu
  have ntup : ∀ c xs, H c = some (.tup xs) → c ≠ x := fun c xs r z => by subst z; rw [r] at mu; exact mu
  by_cases hb : b = x
  · subst hb; rw [upd_same] at q; cases q; exact new
  · rw [upd_ne hb] at q
    by_cases hbe : b = e
    · have q' : H b = some (.own x) := by
        rcases he with z | z
        · exact absurd (hbe.trans z) hb
        · rw [hbe]; exact z
      rw [q] at q'; cases q'
      obtain ⟨v, hv⟩ := heo
      exact ⟨v, by rw [hbe]; exact hv⟩
    · refine (ok b u q).stay (fun c v hc r => k c v ?_ r) (fun c r => by rw [upd_ne (nown c b r)]; exact r) fun c xs r => by rw [upd_ne (ntup c xs r)]; exact r
      rcases hc with rfl | hc
      · exact hbe
      · rintro rfl
        rcases he with z | z
        · exact nown c b hc z
        · rw [hc] at z; cases z; exact hb rfl
end

/-! ### kept unless tracked; of the frames at fs (the callers') the slots may change (an exception that passes writes there); of the records at ex (iterators) nothing is said -/
structure Un (fs ex : List Addr) (H H' : Hp) (h h' : Heap) : Prop where
  keep : ∀ b o, h.get? b = some o → H b = none → b ∉ fs → b ∉ ex → h'.get? b = some o
  slot : ∀ b o, h.get? b = some o → H b = none → b ∈ fs → b ∉ ex → ∃ sl, h'.get? b = some { o with slots := sl }
  free : ∀ b o, h.get? b = some o → H b = none → b ∉ ex → H' b = none
  there : ∀ b o, h.get? b = some o → b ∉ ex → ∃ o', h'.get? b = some o'
  tups : ∀ b xs, H b = some (.tup xs) → H' b = some (.tup xs)
  frzs : ∀ b o u, H b = some (.frz o u) → H' b = some (.frz o u)
  tbls : ∀ b ps, H b = some (.tbl ps) → ∃ more, H' b = some (.tbl (ps ++ more))
section
variable {fs fs' ex ex' : List Addr} {H H1 H2 : Hp} {h h1 h2 h' : Heap} {a x e : Addr} {o : HO}
theorem Un.any (u : Un fs ex H H1 h h1) {b : Addr} {ob : Obj} (q : h.get? b = some ob) (n : H b = none) (hx : b ∉ ex) : ∃ sl, h1.get? b = some { ob with slots := sl } := by
  by_cases hb : b ∈ fs
  · exact u.slot b ob q n hb hx
  · exact ⟨ob.slots, u.keep b ob q n hb hx⟩
theorem Un.trans (a : Un fs ex H H1 h h1) (b : Un fs ex H1 H2 h1 h2) : Un fs ex H H2 h h2 where
  keep := fun c ob q n hc hx => b.keep c ob (a.keep c ob q n hc hx) (a.free c ob q n hx) hc hx
  slot := fun c ob q n hc hx => by
    obtain ⟨sl, e1⟩ := a.slot c ob q n hc hx
    obtain ⟨sl', e2⟩ := b.slot c _ e1 (a.free c ob q n hx) hc hx
    exact ⟨sl', e2⟩
  free := fun c ob q n hx => by
    obtain ⟨o', e1⟩ := a.there c ob q hx
    exact b.free c o' e1 (a.free c ob q n hx) hx
  there := fun c ob q hx => by
    obtain ⟨o', e1⟩ := a.there c ob q hx
    exact b.there c o' e1 hx
  tups := fun c xs q => b.tups c xs (a.tups c xs q)
  frzs := fun c ob xs q => b.frzs c ob xs (a.frzs c ob xs q)
  tbls := fun c ps q => by
    obtain ⟨m1, e1⟩ := a.tbls c ps q
    obtain ⟨m2, e2⟩ := b.tbls c _ e1
    exact ⟨m1 ++ m2, by rw [e2, Array.append_assoc]⟩
theorem Un.kept (k : ∀ b u, h.get? b = some u → h'.get? b = some u) : Un fs ex H H h h' :=
  ⟨fun b ob q _ _ _ => k b ob q, fun b ob q _ _ _ => ⟨ob.slots, k b ob q⟩, fun _ _ _ n _ => n, fun b ob q _ => ⟨ob, k b ob q⟩, fun _ _ q => q, fun _ _ _ q => q, fun _ ps q => ⟨#[], by rw [q]; simp⟩⟩
theorem Un.refl : Un fs ex H H h h := Un.kept fun _ _ q => q
theorem Un.laid (k : ∀ b u, h.get? b = some u → h'.get? b = some u) (hp : h.objs.size ≤ a) (hn : H a = none) : Un fs ex H (upd H a o) h h' where
  keep := fun b u q _ _ _ => k b u q
  slot := fun b u q _ _ _ => ⟨u.slots, k b u q⟩
  free := fun b u q n _ => by rw [upd_ne (Nat.ne_of_lt (Nat.lt_of_lt_of_le (Heap.lt_size q) hp))]; exact n
  there := fun b u q _ => ⟨u, k b u q⟩
  tups := fun b xs q => by rw [upd_ne (ne_of_none q hn)]; exact q
  frzs := fun b u xs q => by rw [upd_ne (ne_of_none q hn)]; exact q
  tbls := fun b ps q => ⟨#[], by rw [upd_ne (ne_of_none q hn), q]; simp⟩
theorem Un.write (mu : Mut (H x)) (he : e = x ∨ H e = some (.own x)) (k : ∀ b u, b ≠ e → h.get? b = some u → h'.get? b = some u) (heo : ∃ u, h'.get? e = some u) : Un fs ex H (upd H x o) h h' := by
  have hx : ∀ b, H b = none → b ≠ x := fun b n z => by subst z; rw [n] at mu; exact mu
  have hb : ∀ b, H b = none → b ≠ e := fun b n z => by
    subst z
    rcases he with r | r
    · exact hx b n r
    · rw [n] at r; cases r
  have hm : ∀ b u, H b = some u → ¬ Mut (some u) → b ≠ x := fun b u q nm z => by subst z; rw [q] at mu; exact nm mu
  refine ⟨fun b u q n _ _ => k b u (hb b n) q, fun b u q n _ _ => ⟨u.slots, k b u (hb b n) q⟩, fun b u q n _ => by rw [upd_ne (hx b n)]; exact n, fun b u q _ => ?_,
    fun b xs q => by rw [upd_ne (hm b _ q fun z => z)]; exact q, fun b u xs q => by rw [upd_ne (hm b _ q fun z => z)]; exact q, fun b ps q => ⟨#[], by rw [upd_ne (hm b _ q fun z => z), q]; simp⟩⟩
  by_cases hbe : b = e
  · subst hbe; exact heo
  · exact ⟨u, k b u hbe q⟩
theorem Un.mono (u : Un fs ex H H1 h h1) (hs : ∀ b ∈ fs, b ∈ fs') (hx : ∀ b ∈ ex, b ∈ ex') : Un fs' ex' H H1 h h1 :=
  ⟨fun b ob q n hb he => u.keep b ob q n (fun z => hb (hs b z)) fun z => he (hx b z), fun _ _ q n _ he => u.any q n fun z => he (hx _ z), fun b ob q n he => u.free b ob q n fun z => he (hx b z), fun b ob q he => u.there b ob q fun z => he (hx b z), u.tups, u.frzs, u.tbls⟩
end

/-! ### the heap without what is tracked -/
def trk (h : Heap) (H : Hp) : List Addr := (List.range h.objs.size).filter fun a => (H a).isSome
def hidT (h : Heap) (H : Hp) : Heap := PySem.W.hideAll h (trk h H)
theorem hidT_size (h : Heap) (H : Hp) : (hidT h H).objs.size = h.objs.size := PySem.W.hideAll_size _ _
theorem hidT_get {h : Heap} {H : Hp} {b : Addr} {o : Obj} (e : h.get? b = some o) (n : H b = none) : (hidT h H).get? b = some o :=
  PySem.W.hideAll_get _ e fun hm => by
    have q : (H b).isSome = true := (List.mem_filter.mp hm).2
    rw [n] at q; simp at q
theorem of_hidT {h : Heap} {H : Hp} {b : Addr} {o : Obj} (e : (hidT h H).get? b = some o) : h.get? b = some o ∧ H b = none := by
  have e' : h.get? b = some o := PySem.W.of_hideAll (trk h H) e
  refine ⟨e', ?_⟩
  cases q : H b with
  | none => rfl
  | some x =>
    have hm : b ∈ trk h H := List.mem_filter.mpr ⟨List.mem_range.mpr (Heap.lt_size e'), by simp [q]⟩
    have z : (hidT h H).get? b = none := PySem.W.hideAll_none (trk h H) hm
    rw [z] at e; cases e

/-! ### OpenK's ledger, filled with every new object but one -/
def allNews (g h : Heap) (L : Addr) : List (Addr × Obj) := (List.range h.objs.size).filterMap fun a => if a = L ∨ (g.get? a).isSome = true then none else (h.get? a).map fun o => (a, o)
theorem mem_allNews {g h : Heap} {L a : Addr} {o : Obj} (h1 : a ≠ L) (h2 : g.get? a = none) (h3 : h.get? a = some o) : (a, o) ∈ allNews g h L :=
  List.mem_filterMap.mpr ⟨a, List.mem_range.mpr (Heap.lt_size h3), by simp [h1, h2, h3]⟩
theorem of_mem_allNews {g h : Heap} {L : Addr} {p : Addr × Obj} (hp : p ∈ allNews g h L) : p.1 ≠ L ∧ g.get? p.1 = none ∧ h.get? p.1 = some p.2 := by
  obtain ⟨b, _, e⟩ := List.mem_filterMap.mp hp
  split at e
  · cases e
  · rename_i hn
    cases q : h.get? b with
    | none => rw [q] at e; simp at e
    | some u =>
      rw [q] at e
      simp only [Option.map_some, Option.some.injEq] at e
      subst e
      refine ⟨fun z => hn (.inl z), ?_, q⟩
      show g.get? b = none
      cases r : g.get? b with
      | none => rfl
      | some v => exact (hn (.inr (by simp [r]))).elim
def rest (g h : Heap) (L d : Addr) : List (Addr × Obj) := (allNews g h L).filter fun p => decide (p.1 ≠ d)
theorem rest_ne {g h : Heap} {L d : Addr} : ∀ p ∈ rest g h L d, p.1 ≠ d := fun p hp => of_decide_eq_true (List.mem_filter.mp hp).2
theorem mem_rest {g h : Heap} {L d a : Addr} {o : Obj} (h1 : a ≠ L) (h2 : g.get? a = none) (h3 : h.get? a = some o) (h4 : a ≠ d) : (a, o) ∈ rest g h L d :=
  List.mem_filter.mpr ⟨mem_allNews h1 h2 h3, decide_eq_true h4⟩
theorem news_all {g h : Heap} {L : Addr} : News g L h (allNews g h L) := fun p hp => let ⟨a, b, c⟩ := of_mem_allNews hp; ⟨c, a, b⟩
theorem news_at {g h : Heap} {L d : Addr} {o : Obj} (h1 : d ≠ L) (h2 : g.get? d = none) (h3 : h.get? d = some o) : News g L h ((d, o) :: rest g h L d) := fun p hp => by
  rcases List.mem_cons.mp hp with rfl | hp
  · exact ⟨h3, h1, h2⟩
  · exact news_all p (List.mem_filter.mp hp).1
/-- behind a rule that changed d alone: all else but the frame is kept -/
theorem kept_of_news {g h h' : Heap} {L d : Addr} {m : Str → Option Value} (k : ∀ b o, g.get? b = some o → h.get? b = some o) (F : Fr g L h' m) (N : News g L h' (rest g h L d)) :
    ∀ b o, b ≠ L → b ≠ d → h.get? b = some o → h'.get? b = some o := fun b o h1 h2 e => by
  cases q : g.get? b with
  | some u =>
    have := k b u q
    rw [e] at this; cases this
    exact F.keep b _ q
  | none => exact (N (b, o) (mem_rest h1 q e h2)).1
end L2
namespace L2
open PySem PySem.Spec PyProof.Rows

/-- the module's facts, over the base: the heap at the law's entry without what is tracked there -/
structure Mod (K : PySem.W.Frag) (mg : Str → Option Value) (base : Heap) : Prop where
  kin : K.In base
  glob : base.Ns mainGlobals mg
  blt : ∃ mb, base.Ns builtinsNs mb ∧ ∀ x : Str, x ≠ "__name__" → mb x = bootBuiltins x
  nolimit : base.NoLimit

/-- the context: a def's body (or a comprehension's block) running. base: fixed through the whole law; s₀, H₀: the entry; outer: the frames whose slots others may change (a def's callers); stack: all frames that run;
   ex: iterators that were made ahead of the entry and are walked here (a comprehension's); fn: the names whose cells were made at the entry (a def: all; a comprehension's block: its own); calm: not within an except suite; pn: pins that every state bears; xe: what is wanted of an exception that leaves the code -/
structure Cx where
  prog : Program
  w : World
  K : PySem.W.Frag
  mg : Str → Option Value
  base : Heap
  A : Around
  N : List Str
  s₀ : Shared
  H₀ : Hp
  env : Env
  outer : List Env
  stack : List Env
  ex : List Addr
  fn : Str → Bool
  calm : Bool
  pn : List (Addr × Obj)
  xe : Value → Shared → Prop
/-- the callers' frames -/
def frs (l : List Env) : List Addr := l.filterMap (·.frame)
abbrev Cx.fs (X : Cx) : List Addr := frs X.outer

def Vis (sc : Scope) (x : Str) : Prop := sc.names.lookup x = some .local ∨ sc.names.lookup x = some .cell ∨ sc.names.lookup x = some .free
def Loc (sc : Scope) (x : Str) : Prop := sc.names.lookup x = some .local ∨ sc.names.lookup x = some .cell
def Look (env : Env) (h : Heap) (m : Str → Option Value) (x : Str) (u : Value) : Prop :=
  (env.kindOf x = some .local ∧ m x = some u) ∨ ((env.kindOf x = some .cell ∨ env.kindOf x = some .free) ∧ ∃ c, env.cells.lookup x = some c ∧ h.IsCell c (some u))

structure Cx.Ok (X : Cx) : Prop where
  mod : Mod X.K X.mg X.base
  kind : X.env.scope.kind = .function
  glob : X.env.globals = mainGlobals
  blt : X.env.builtins = builtinsNs
  above : X.s₀.heap.objs.size ≤ X.env.locals
  inj : ∀ x y c, X.env.cells.lookup x = some c → X.env.cells.lookup y = some c → x = y
  has : ∀ x, (X.env.kindOf x = some .cell ∨ X.env.kindOf x = some .free) → ∃ c, X.env.cells.lookup x = some c
  cab : ∀ x c, X.fn x = true → X.env.cells.lookup x = some c → X.s₀.heap.objs.size ≤ c
  hd : X.calm = true → X.A.handled = none
  frames : X.A.frames = some X.stack
  stk : X.stack = X.outer ∨ (X.stack = X.env :: X.outer ∧ X.env.frame = some X.env.locals)
  exf : ∀ b ∈ X.ex, b ≠ X.env.locals ∧ ∀ x c, X.env.cells.lookup x = some c → c ≠ b
  bs : ∀ b o, X.base.get? b = some o → X.s₀.heap.get? b = some o ∧ X.H₀ b = none
  bsz : X.base.objs.size ≤ X.s₀.heap.objs.size
  noex : ∀ b o, X.base.get? b = some o → b ∉ X.ex
  exfs : ∀ b ∈ X.ex, b ∉ X.fs
  funs : X.s₀.heap.FunFrames X.base X.outer
  frf : ∀ b ∈ X.fs, X.H₀ b = none

structure Inv (X : Cx) (pins : List (Addr × Obj)) (σ : List (Option V)) (H : Hp) (s : Shared) : Prop where
  ok : X.Ok
  os : s.os = X.s₀.os
  bare : AllBare s.gens
  base : Un X.fs X.ex X.H₀ H X.s₀.heap s.heap
  loc : ∃ m, s.heap.Ns X.env.locals m ∧ ∀ (i : Nat) (x : Str) (v : V), X.N[i]? = some x → σ[i]? = some (some v) → Vis X.env.scope x → ∃ u, RelV v u ∧ Look X.env s.heap m x u
  cell : ∀ x c, X.env.cells.lookup x = some c → ∃ v, s.heap.IsCell c v
  free : H X.env.locals = none
  freeC : ∀ x c, X.env.cells.lookup x = some c → H c = none
  pin : ∀ p ∈ X.pn ++ pins, s.heap.get? p.1 = some p.2 ∧ H p.1 = none ∧ p.1 ≠ X.env.locals ∧ p.1 ∉ X.fs ∧ ∀ v, p.2.data ≠ .cell v
  hok : HOk X.prog X.w H s.heap
  len : σ.length = X.N.length

section
variable {X : Cx} {pins : List (Addr × Obj)} {σ : List (Option V)} {H H' : Hp} {s : Shared} {h' : Heap}

theorem Cx.Ok.nofr (ok : X.Ok) {b : Addr} {o : Obj} (e : X.base.get? b = some o) : b ∉ X.fs := fun hb => by
  have := (ok.funs.mem hb).1
  rw [e] at this; cases this
theorem Inv.bs (I : Inv X pins σ H s) : ∀ b o, X.base.get? b = some o → s.heap.get? b = some o ∧ H b = none := fun b o e =>
  ⟨I.base.keep b o (I.ok.bs b o e).1 (I.ok.bs b o e).2 (I.ok.nofr e) (I.ok.noex b o e), I.base.free b o (I.ok.bs b o e).1 (I.ok.bs b o e).2 (I.ok.noex b o e)⟩
theorem Inv.bk (I : Inv X pins σ H s) : ∀ b o, X.base.get? b = some o → s.heap.get? b = some o := fun b o e => (I.bs b o e).1
theorem Inv.mod (I : Inv X pins σ H s) : Mod X.K X.mg X.base := I.ok.mod
theorem Inv.kIn (I : Inv X pins σ H s) : X.K.In s.heap := I.ok.mod.kin.keeps I.bk
theorem Inv.nolimit (I : Inv X pins σ H s) : s.heap.NoLimit := I.ok.mod.nolimit.keeps I.bk
/-- the frame over the base: for OpenK's rules (K.In X.base is I.mod.kin) -/
theorem Inv.fr (I : Inv X pins σ H s) : ∃ m, Fr X.base X.env.locals s.heap m :=
  let ⟨m, hn, _⟩ := I.loc
  ⟨m, hn, I.bk, Nat.le_trans I.ok.bsz I.ok.above⟩
theorem Inv.lt (I : Inv X pins σ H s) : X.env.locals < s.heap.objs.size := let ⟨_, hn, _⟩ := I.loc; hn.lt
theorem Inv.sz (I : Inv X pins σ H s) : X.s₀.heap.objs.size ≤ s.heap.objs.size := Nat.le_trans I.ok.above (Nat.le_of_lt I.lt)
theorem Inv.nofs (I : Inv X pins σ H s) {a : Addr} (h : s.heap.objs.size ≤ a) : a ∉ X.fs := fun hb => by
  obtain ⟨_, o, ho, _⟩ := I.ok.funs.mem hb
  exact absurd (Nat.lt_of_lt_of_le (Heap.lt_size ho) (Nat.le_trans I.sz h)) (Nat.lt_irrefl _)
theorem Inv.cne (I : Inv X pins σ H s) : ∀ x c, X.env.cells.lookup x = some c → c ≠ X.env.locals := fun x c e z => by
  obtain ⟨v, o, ho, hd⟩ := I.cell x c e
  obtain ⟨m, ⟨o', es, ep, ho', hd', _⟩, _⟩ := I.loc
  rw [z, ho'] at ho; cases ho; rw [hd'] at hd; cases hd
theorem Inv.funs (I : Inv X pins σ H s) : s.heap.FunFrames X.base X.outer := by
  have all : ∀ (l : List Env), (∀ b ∈ frs l, b ∈ X.fs) → X.s₀.heap.FunFrames X.base l → s.heap.FunFrames X.base l := by
    intro l
    induction l with
    | nil => intro _ _; trivial
    | cons env r ih =>
      intro hs hl
      obtain ⟨hk, ⟨L, o, hf, hn, ho, hd⟩, hr⟩ := hl
      have hL : L ∈ X.fs := hs L (by unfold frs; rw [List.filterMap_cons, hf]; exact List.mem_cons_self)
      obtain ⟨sl, e⟩ := I.base.slot L o ho (I.ok.frf L hL) hL fun z => I.ok.exfs L z hL
      exact ⟨hk, ⟨L, _, hf, hn, e, hd⟩, ih (fun b hb => hs b (by unfold frs; rw [List.filterMap_cons, hf]; exact List.mem_cons_of_mem _ hb)) hr⟩
  exact all X.outer (fun _ hb => hb) I.ok.funs

/-- the frames that run, for a call -/
theorem Inv.stack (I : Inv X pins σ H s) : s.heap.FunFrames X.base X.stack := by
  rcases I.ok.stk with e | ⟨e, hf⟩
  · rw [e]; exact I.funs
  · rw [e]
    obtain ⟨m, hn, _⟩ := I.loc
    refine .cons (by rw [I.ok.kind]; decide) hf hn ?_ I.funs
    exact Heap.get?_none_of_le (Nat.le_trans I.ok.bsz I.ok.above)
theorem Inv.stkSub (I : Inv X pins σ H s) : ∀ b ∈ frs X.stack, b ∈ X.env.locals :: X.fs := fun b hb => by
  rcases I.ok.stk with e | ⟨e, hf⟩
  · rw [e] at hb; exact List.mem_cons_of_mem _ hb
  · rw [e] at hb
    unfold frs at hb
    rw [List.filterMap_cons, hf] at hb
    exact hb
theorem Inv.stkFree (I : Inv X pins σ H s) : ∀ b ∈ frs X.stack, H b = none := fun b hb => by
  rcases List.mem_cons.mp (I.stkSub b hb) with e | hb
  · rw [e]; exact I.free
  · obtain ⟨_, o, ho, _⟩ := I.ok.funs.mem hb
    exact I.base.free b o ho (I.ok.frf b hb) fun z => I.ok.exfs b z hb

/-- THE STEP: the untracked objects but the frame and the records at ch are kept (the callers' frames up to slots), the frame's map is kept, the new abstract heap is held -/
theorem Inv.step {g' : Array GenState} {t' : Nat} {d' : Drawn} {ch : List Addr} (I : Inv X pins σ H s)
    (hch : ∀ b ∈ ch, (b ∈ X.ex ∨ X.s₀.heap.objs.size ≤ b) ∧ b ≠ X.env.locals ∧ (∀ x c, X.env.cells.lookup x = some c → c ≠ b) ∧ ∀ p ∈ X.pn ++ pins, p.1 ≠ b)
    (keep : ∀ b o, b ≠ X.env.locals → b ∉ X.fs → b ∉ ch → s.heap.get? b = some o → H b = none → h'.get? b = some o)
    (slot : ∀ b o, b ≠ X.env.locals → b ∈ X.fs → b ∉ ch → s.heap.get? b = some o → H b = none → ∃ sl, h'.get? b = some { o with slots := sl }) (free : ∀ b o, b ∉ ch → s.heap.get? b = some o → H b = none → H' b = none)
    (there : ∀ b o, b ∉ ch → s.heap.get? b = some o → ∃ o', h'.get? b = some o')
    (tups : ∀ b xs, H b = some (.tup xs) → H' b = some (.tup xs)) (frzs : ∀ b o u, H b = some (.frz o u) → H' b = some (.frz o u)) (tbls : ∀ b ps, H b = some (.tbl ps) → ∃ more, H' b = some (.tbl (ps ++ more)))
    (ns : ∀ m, s.heap.Ns X.env.locals m → h'.Ns X.env.locals m) (hok : HOk X.prog X.w H' h') (hg : AllBare g') :
    Inv X pins σ H' { s with heap := h', gens := g', drawn := d', toks := t' } := by
  have neL : ∀ b o, X.s₀.heap.get? b = some o → b ≠ X.env.locals := fun b o e => Nat.ne_of_lt (Nat.lt_of_lt_of_le (Heap.lt_size e) I.ok.above)
  have neC : ∀ b o, X.s₀.heap.get? b = some o → b ∉ X.ex → b ∉ ch := fun b o e hx hb => by
    rcases (hch b hb).1 with z | z
    · exact hx z
    · exact absurd (Nat.lt_of_lt_of_le (Heap.lt_size e) z) (Nat.lt_irrefl _)
  have cellK : ∀ x c, X.env.cells.lookup x = some c → ∀ v, s.heap.IsCell c v → h'.IsCell c v := fun x c e v ⟨o, ho, hd⟩ => by
    have nch : c ∉ ch := fun z => (hch c z).2.2.1 x c e rfl
    by_cases hc : c ∈ X.fs
    · obtain ⟨sl, q⟩ := slot c o (I.cne x c e) hc nch ho (I.freeC x c e)
      exact ⟨_, q, hd⟩
    · exact ⟨o, keep c o (I.cne x c e) hc nch ho (I.freeC x c e), hd⟩
  refine ⟨I.ok, I.os, hg, ⟨fun b o e n hb hx => ?_, fun b o e n hb hx => ?_, fun b o e n hx => ?_, fun b o e hx => ?_, fun b xs e => tups b xs (I.base.tups b xs e), fun b o xs e => frzs b o xs (I.base.frzs b o xs e), fun b ps e => ?_⟩, ?_, fun x c e => ?_, ?_, fun x c e => ?_, fun p hp => ?_, hok, I.len⟩
  · exact keep b o (neL b o e) hb (neC b o e hx) (I.base.keep b o e n hb hx) (I.base.free b o e n hx)
  · obtain ⟨sl, e1⟩ := I.base.slot b o e n hb hx
    obtain ⟨sl', e2⟩ := slot b _ (neL b o e) hb (neC b o e hx) e1 (I.base.free b o e n hx)
    exact ⟨sl', e2⟩
  · obtain ⟨o', e1⟩ := I.base.there b o e hx
    exact free b o' (neC b o e hx) e1 (I.base.free b o e n hx)
  · obtain ⟨o', e1⟩ := I.base.there b o e hx
    exact there b o' (neC b o e hx) e1
  · obtain ⟨m1, e1⟩ := I.base.tbls b ps e
    obtain ⟨m2, e2⟩ := tbls b _ e1
    exact ⟨m1 ++ m2, by rw [e2, Array.append_assoc]⟩
  · obtain ⟨m, hn, hl⟩ := I.loc
    refine ⟨m, ns m hn, fun i x v e1 e2 e3 => ?_⟩
    obtain ⟨u, r, l⟩ := hl i x v e1 e2 e3
    refine ⟨u, r, ?_⟩
    rcases l with l | ⟨k, c, e, z⟩
    · exact .inl l
    · exact .inr ⟨k, c, e, cellK x c e _ z⟩
  · obtain ⟨v, z⟩ := I.cell x c e
    exact ⟨v, cellK x c e v z⟩
  · obtain ⟨m, ⟨o, _, _, ho, _⟩, _⟩ := I.loc
    exact free _ o (fun z => (hch _ z).2.1 rfl) ho I.free
  · obtain ⟨v, o, ho, hd⟩ := I.cell x c e
    exact free c o (fun z => (hch c z).2.2.1 x c e rfl) ho (I.freeC x c e)
  · obtain ⟨e, n, ne, nf, d⟩ := I.pin p hp
    have nch : p.1 ∉ ch := fun z => (hch p.1 z).2.2.2 p hp rfl
    exact ⟨keep p.1 p.2 ne nf nch e n, free p.1 p.2 nch e n, ne, nf, d⟩
/-- .. where the frame's own object is kept too -/
theorem Inv.un {t' : Nat} (I : Inv X pins σ H s) (u : Un X.fs [] H H' s.heap h') (hok : HOk X.prog X.w H' h') : Inv X pins σ H' { s with heap := h', toks := t' } := by
  obtain ⟨m, ⟨o, es, ep, ho, r⟩, _⟩ := id I.loc
  obtain ⟨sl, hL⟩ := u.any ho I.free (by simp)
  exact I.step (g' := s.gens) (d' := s.drawn) (ch := []) (fun _ z => nomatch z) (fun b o _ hb _ e n => u.keep b o e n hb (by simp)) (fun b o _ hb _ e n => u.slot b o e n hb (by simp)) (fun b o _ e n => u.free b o e n (by simp)) (fun b o _ e => u.there b o e (by simp)) u.tups u.frzs u.tbls (fun m' hm => by
    obtain ⟨o', es', ep', ho', r'⟩ := hm
    rw [ho] at ho'; cases ho'
    exact ⟨_, es', ep', hL, r'⟩) hok I.bare
/-- behind a call (or a comprehension's block): the slots of this frame may have changed too, the records at ch may have turned -/
theorem Inv.call {g' : Array GenState} {t' : Nat} {d' : Drawn} {ch : List Addr} (I : Inv X pins σ H s) (u : Un (frs X.stack) ch H H' s.heap h') (hok : HOk X.prog X.w H' h') (hg : AllBare g')
    (hch : ∀ b ∈ ch, (b ∈ X.ex ∨ X.s₀.heap.objs.size ≤ b) ∧ b ≠ X.env.locals ∧ (∀ x c, X.env.cells.lookup x = some c → c ≠ b) ∧ ∀ p ∈ X.pn ++ pins, p.1 ≠ b) :
    Inv X pins σ H' { s with heap := h', gens := g', drawn := d', toks := t' } := by
  obtain ⟨m, ⟨o, es, ep, ho, r⟩, _⟩ := id I.loc
  obtain ⟨sl, hL⟩ := u.any ho I.free fun z => (hch _ z).2.1 rfl
  exact I.step (ch := ch) hch (fun b o hL hb hc e n => u.keep b o e n (fun z => (List.mem_cons.mp (I.stkSub b z)).elim hL hb) hc) (fun b o _ _ hc e n => u.any e n hc) (fun b o hc e n => u.free b o e n hc) (fun b o hc e => u.there b o e hc) u.tups u.frzs u.tbls (fun m' hm => by
    obtain ⟨o', es', ep', ho', r'⟩ := hm
    rw [ho] at ho'; cases ho'
    exact ⟨_, es', ep', hL, r'⟩) hok hg
/-- an untracked record of ours (an iterator) has turned -/
theorem Inv.turned {t' : Nat} {it : Addr} (I : Inv X pins σ H s) (k : ∀ b o, b ≠ it → s.heap.get? b = some o → h'.get? b = some o) (hn : H it = none) (hL : it ≠ X.env.locals)
    (h1 : it ∈ X.ex ∨ X.s₀.heap.objs.size ≤ it) (h2 : ∀ x c, X.env.cells.lookup x = some c → c ≠ it) (h3 : ∀ p ∈ X.pn ++ pins, p.1 ≠ it) : Inv X pins σ H { s with heap := h', toks := t' } := by
  have nit : ∀ b u, H b = some u → b ≠ it := fun b u e z => by rw [z, hn] at e; cases e
  refine I.step (g' := s.gens) (d' := s.drawn) (ch := [it]) (fun b hb => ?_) (fun b o _ _ hc e _ => k b o (fun z => hc (by simp [z])) e) (fun b o _ _ hc e _ => ⟨o.slots, k b o (fun z => hc (by simp [z])) e⟩) (fun _ _ _ _ n => n)
    (fun b o hc e => ⟨o, k b o (fun z => hc (by simp [z])) e⟩) (fun _ _ e => e) (fun _ _ _ e => e) (fun b ps e => ⟨#[], by rw [e]; simp⟩) (fun m hm => ?_) (fun b u e => ?_) I.bare
  · have e : b = it := by simpa using hb
    subst e
    exact ⟨h1, hL, h2, h3⟩
  · obtain ⟨o, es, ep, ho, r⟩ := hm
    exact ⟨o, es, ep, k _ o (Ne.symm hL) ho, r⟩
  · refine (I.hok b u e).stay (fun c v hc q => k c v ?_ q) (fun _ q => q) fun _ _ q => q
    rcases hc with z | z
    · rw [z]; exact nit b u e
    · exact nit c _ z
theorem Inv.tok (I : Inv X pins σ H s) (t : Nat) : Inv X pins σ H { s with toks := t } := I.un (h' := s.heap) (t' := t) Un.refl I.hok
/-- all objects kept -/
theorem Inv.kept {t' : Nat} (I : Inv X pins σ H s) (k : ∀ b u, s.heap.get? b = some u → h'.get? b = some u) : Inv X pins σ H { s with heap := h', toks := t' } := I.un (Un.kept k) (I.hok.kept k)
/-- a new object laid and tracked -/
theorem Inv.laid {a : Addr} {o : HO} {t' : Nat} (I : Inv X pins σ H s) (k : ∀ b u, s.heap.get? b = some u → h'.get? b = some u) (hp : s.heap.objs.size ≤ a) (new : ObjOk X.prog X.w (upd H a o) h' a o) :
    Inv X pins σ (upd H a o) { s with heap := h', toks := t' } := I.un (Un.laid k hp (I.hok.fresh hp)) (I.hok.laid k hp new)
/-- an object written -/
theorem Inv.write {x e : Addr} {o : HO} {t' : Nat} (I : Inv X pins σ H s) (mu : Mut (H x)) (he : e = x ∨ H e = some (.own x)) (k : ∀ b u, b ≠ e → s.heap.get? b = some u → h'.get? b = some u) (heo : ∃ u, h'.get? e = some u)
    (new : ObjOk X.prog X.w (upd H x o) h' x o) : Inv X pins σ (upd H x o) { s with heap := h', toks := t' } := I.un (Un.write mu he k heo) (I.hok.write mu he k heo new)
/-- forgetting slots, pins -/
theorem Inv.weak {σ' : List (Option V)} (I : Inv X pins σ H s) (hl : σ'.length = σ.length) (w : ∀ (i : Nat) v, σ'[i]? = some (some v) → σ[i]? = some (some v)) : Inv X pins σ' H s :=
  ⟨I.ok, I.os, I.bare, I.base, let ⟨m, hn, hl'⟩ := I.loc; ⟨m, hn, fun i x v e1 e2 e3 => hl' i x v e1 (w i v e2) e3⟩, I.cell, I.free, I.freeC, I.pin, I.hok, hl.trans I.len⟩
theorem Inv.pins_of {pins' : List (Addr × Obj)} (I : Inv X pins σ H s) (h : ∀ p ∈ pins', s.heap.get? p.1 = some p.2 ∧ H p.1 = none ∧ p.1 ≠ X.env.locals ∧ p.1 ∉ X.fs ∧ ∀ v, p.2.data ≠ .cell v) : Inv X pins' σ H s :=
  ⟨I.ok, I.os, I.bare, I.base, I.loc, I.cell, I.free, I.freeC, fun p hp => (List.mem_append.mp hp).elim (fun z => I.pin p (List.mem_append_left _ z)) (h p), I.hok, I.len⟩

theorem nodup_ix {N : List Str} (hN : N.Nodup) {i j : Nat} {x : Str} (a : N[i]? = some x) (b : N[j]? = some x) : i = j := by
  obtain ⟨h1, e1⟩ := List.getElem?_eq_some_iff.mp a
  obtain ⟨h2, e2⟩ := List.getElem?_eq_some_iff.mp b
  exact (List.getElem_inj hN).mp (e1.trans e2.symm)

/-- a name is stored; what changed -/
theorem store_ok2 {M : Model} {A : Around} {E : Value → Shared → Prop} {i : Nat} {x : Str} {v : V} {u : Value} {Q : Unit → Shared → Prop} (I : Inv X pins σ H s) (hN : X.N.Nodup) (hi : X.N[i]? = some x) (hx : Loc X.env.scope x) (r : RelV v u)
    (h : ∀ s', Inv X pins (σ.set i (some v)) H s' → (∃ a, Heap.SameBut a s.heap s'.heap ∧ (a = X.env.locals ∨ X.env.cells.lookup x = some a)) → Q () s') (hf : X.fn x = true ∨ X.env.scope.names.lookup x = some .local := by first | exact .inl rfl | exact .inr rfl | assumption) : wpAny M A (storeName X.env x u) Q E s := by
  obtain ⟨m, hn, hl⟩ := id I.loc
  have hcls : (X.env.scope.kind == .class || (X.env.scope.kind == .module && X.env.locals != X.env.globals)) = false := by rw [I.ok.kind]; rfl
  have hiσ : i < σ.length := by rw [I.len]; exact (List.getElem?_eq_some_iff.mp hi).1
  have cne := I.cne
  have tracked : ∀ {a : Addr} {h' : Heap}, (∃ o, s.heap.get? a = some o ∧ H a = none) → Heap.SameBut a s.heap h' → HOk X.prog X.w H h' := fun {a h'} ha hs b ob e => by
    obtain ⟨_, _, hfree⟩ := ha
    refine (I.hok b ob e).stay (fun c w' hc q => (hs.2 c ?_).trans q) (fun _ q => q) fun _ _ q => q
    rintro rfl
    rcases hc with rfl | hc
    · rw [hfree] at e; cases e
    · rw [hfree] at hc; cases hc
  rcases hx with hk | hk
  · refine wpAny_storeName_local hk hn (fun h' hn' hs => ?_) hcls
    obtain ⟨oL, _, _, hoL, _⟩ := id hn
    refine h _ ⟨I.ok, I.os, I.bare, ⟨fun b o e n hb hx => ?_, fun b o e n hb hx => ?_, I.base.free, fun b o e hx => ?_, I.base.tups, I.base.frzs, I.base.tbls⟩, ⟨_, hn', fun j y v' e1 e2 e3 => ?_⟩, fun y c e => ?_, I.free, I.freeC, fun p hp => ?_, tracked ⟨oL, hoL, I.free⟩ hs, by simpa using I.len⟩ ⟨_, hs, .inl rfl⟩
    · exact (hs.2 b (Nat.ne_of_lt (Nat.lt_of_lt_of_le (Heap.lt_size e) I.ok.above))).trans (I.base.keep b o e n hb hx)
    · obtain ⟨sl, e1⟩ := I.base.slot b o e n hb hx
      exact ⟨sl, (hs.2 b (Nat.ne_of_lt (Nat.lt_of_lt_of_le (Heap.lt_size e) I.ok.above))).trans e1⟩
    · obtain ⟨o', e1⟩ := I.base.there b o e hx
      exact ⟨o', (hs.2 b (Nat.ne_of_lt (Nat.lt_of_lt_of_le (Heap.lt_size e) I.ok.above))).trans e1⟩
    · by_cases hj : j = i
      · subst hj
        rw [hi] at e1; cases e1
        rw [List.getElem?_set_self hiσ] at e2
        cases e2
        exact ⟨u, r, .inl ⟨hk, by simp⟩⟩
      · rw [List.getElem?_set_ne (Ne.symm hj)] at e2
        obtain ⟨u', r', q⟩ := hl j y v' e1 e2 e3
        refine ⟨u', r', ?_⟩
        rcases q with ⟨k, e⟩ | ⟨k, c, e, z⟩
        · refine .inl ⟨k, ?_⟩
          have : y ≠ x := fun e => hj (nodup_ix hN e1 (e ▸ hi))
          simp [this, e]
        · exact .inr ⟨k, c, e, z.sameBut hs (cne y c e)⟩
    · obtain ⟨w', z⟩ := I.cell y c e
      exact ⟨w', z.sameBut hs (cne y c e)⟩
    · obtain ⟨e, n, ne, nf, d⟩ := I.pin p hp
      exact ⟨(hs.2 p.1 ne).trans e, n, ne, nf, d⟩
  · have hfn : X.fn x = true := by
      rcases hf with z | z
      · exact z
      · rw [z] at hk; cases hk
    obtain ⟨c, hc⟩ := I.ok.has x (.inl hk)
    obtain ⟨w', z⟩ := I.cell x c hc
    refine wpAny_storeName_cell I.ok.kind hk hc z (fun h' hc' hs => ?_)
    obtain ⟨oc, hoc, hocd⟩ := id z
    refine h { s with heap := h' } ⟨I.ok, I.os, I.bare, ⟨fun b o e n hb hx => ?_, fun b o e n hb hx => ?_, I.base.free, fun b o e hx => ?_, I.base.tups, I.base.frzs, I.base.tbls⟩, ⟨m, hn.sameBut hs (Ne.symm (cne x c hc)), fun j y v' e1 e2 e3 => ?_⟩, fun y c' e => ?_, I.free, I.freeC, fun p hp => ?_, tracked ⟨oc, hoc, I.freeC x c hc⟩ hs, by simpa using I.len⟩ ⟨c, hs, .inr hc⟩
    · exact (hs.2 b (Nat.ne_of_lt (Nat.lt_of_lt_of_le (Heap.lt_size e) (I.ok.cab x c hfn hc)))).trans (I.base.keep b o e n hb hx)
    · obtain ⟨sl, e1⟩ := I.base.slot b o e n hb hx
      exact ⟨sl, (hs.2 b (Nat.ne_of_lt (Nat.lt_of_lt_of_le (Heap.lt_size e) (I.ok.cab x c hfn hc)))).trans e1⟩
    · obtain ⟨o', e1⟩ := I.base.there b o e hx
      exact ⟨o', (hs.2 b (Nat.ne_of_lt (Nat.lt_of_lt_of_le (Heap.lt_size e) (I.ok.cab x c hfn hc)))).trans e1⟩
    · by_cases hj : j = i
      · subst hj
        rw [hi] at e1; cases e1
        rw [List.getElem?_set_self hiσ] at e2
        cases e2
        exact ⟨u, r, .inr ⟨.inl hk, c, hc, hc'⟩⟩
      · rw [List.getElem?_set_ne (Ne.symm hj)] at e2
        obtain ⟨u', r', q⟩ := hl j y v' e1 e2 e3
        refine ⟨u', r', ?_⟩
        rcases q with q | ⟨k, c', e, z'⟩
        · exact .inl q
        · refine .inr ⟨k, c', e, z'.sameBut hs ?_⟩
          rintro rfl
          exact hj (nodup_ix hN e1 (I.ok.inj _ _ _ e hc ▸ hi))
    · by_cases hcc : c' = c
      · subst hcc; exact ⟨_, hc'⟩
      · obtain ⟨w2, z2⟩ := I.cell y c' e
        exact ⟨w2, z2.sameBut hs hcc⟩
    · obtain ⟨e, n, ne, nf, d⟩ := I.pin p hp
      refine ⟨(hs.2 p.1 ?_).trans e, n, ne, nf, d⟩
      intro q
      rw [q, hoc] at e
      have q' : oc = p.2 := Option.some.inj e
      exact d w' (by rw [← q']; exact hocd)
theorem store_ok {M : Model} {A : Around} {E : Value → Shared → Prop} {i : Nat} {x : Str} {v : V} {u : Value} {Q : Unit → Shared → Prop} (I : Inv X pins σ H s) (hN : X.N.Nodup) (hi : X.N[i]? = some x) (hx : Loc X.env.scope x) (r : RelV v u)
    (h : ∀ s', Inv X pins (σ.set i (some v)) H s' → Q () s') (hf : X.fn x = true ∨ X.env.scope.names.lookup x = some .local := by first | exact .inl rfl | exact .inr rfl | assumption) : wpAny M A (storeName X.env x u) Q E s :=
  store_ok2 I hN hi hx r (fun s' I' _ => h s' I') hf
/-- behind a call or a block, the state as it is -/
theorem Inv.call' {s' : Shared} {ch : List Addr} (I : Inv X pins σ H s) (ho : s'.os = s.os) (u : Un (frs X.stack) ch H H' s.heap s'.heap) (hok : HOk X.prog X.w H' s'.heap) (hg : AllBare s'.gens)
    (hch : ∀ b ∈ ch, (b ∈ X.ex ∨ X.s₀.heap.objs.size ≤ b) ∧ b ≠ X.env.locals ∧ (∀ x c, X.env.cells.lookup x = some c → c ≠ b) ∧ ∀ p ∈ X.pn ++ pins, p.1 ≠ b) : Inv X pins σ H' s' := by
  obtain ⟨h', g', d', t', o'⟩ := s'
  have e : o' = s.os := ho
  subst e
  exact I.call (g' := g') (t' := t') (d' := d') u hok hg hch
end

/-! ### the judgements -/
/-- an exception: its class, its own dict's address (where it has one), the abstract heap behind it -/
abbrev XK := Value → Option Addr → Hp → Prop
abbrev St := List (Option V)
abbrev VK := V → Hp → Prop
/-- an expression's reading; a test's; an argument list's -/
abbrev TE := St → Hp → VK → Prop
abbrev TT := St → Hp → (Bool → Hp → Prop) → Prop
abbrev TA := St → Hp → (List V → Hp → Prop) → Prop
/-- what is wanted behind a statement -/
structure Ends where
  nx : St → Hp → Prop
  rt : VK
  bk : St → Hp → Prop := fun _ _ => False
  ct : St → Hp → Prop := fun _ _ => False
abbrev TS := Ends → St → Hp → Prop

def EP (X : Cx) (pins : List (Addr × Obj)) (σ : St) (Q : VK) (u : Value) (s' : Shared) : Prop := ∃ v H', Inv X pins σ H' s' ∧ RelV v u ∧ Q v H'
def TP (X : Cx) (pins : List (Addr × Obj)) (σ : St) (Q : Bool → Hp → Prop) (b : Bool) (s' : Shared) : Prop := ∃ H', Inv X pins σ H' s' ∧ Q b H'
def AP (X : Cx) (pins : List (Addr × Obj)) (σ : St) (Q : List V → Hp → Prop) (us : List Value) (s' : Shared) : Prop := ∃ vs H', Inv X pins σ H' s' ∧ Vals vs us ∧ Q vs H'
def SP (X : Cx) (pins : List (Addr × Obj)) (D : Ends) (f : Flow) (s' : Shared) : Prop :=
  match f with
  | .next => ∃ σ' H', Inv X pins σ' H' s' ∧ D.nx σ' H'
  | .brk => ∃ σ' H', Inv X pins σ' H' s' ∧ D.bk σ' H'
  | .cont => ∃ σ' H', Inv X pins σ' H' s' ∧ D.ct σ' H'
  | .ret u => ∃ v σ' H', Inv X pins σ' H' s' ∧ RelV v u ∧ D.rt v H'

def PE (X : Cx) (e : Expr) (t : TE) : Prop :=
  ∀ (pins : List (Addr × Obj)) (s : Shared) (σ : St) (H : Hp) (Q : VK), Inv X pins σ H s → t σ H Q → wpAny (model X.prog X.w) X.A (eval e X.env) (EP X pins σ Q) X.xe s
def PT (X : Cx) (e : Expr) (t : TT) : Prop :=
  ∀ (pins : List (Addr × Obj)) (s : Shared) (σ : St) (H : Hp) (Q : Bool → Hp → Prop), Inv X pins σ H s → t σ H Q → wpAny (model X.prog X.w) X.A (isTrue e X.env (eval e X.env)) (TP X pins σ Q) X.xe s
/-- a test whatever its 'whole' is (and, or) -/
def PW (X : Cx) (e : Expr) (t : TT) : Prop :=
  ∀ (whole : Sem Value) (pins : List (Addr × Obj)) (s : Shared) (σ : St) (H : Hp) (Q : Bool → Hp → Prop), Inv X pins σ H s → t σ H Q → wpAny (model X.prog X.w) X.A (isTrue e X.env whole) (TP X pins σ Q) X.xe s
theorem PW.pt {X : Cx} {e : Expr} {t : TT} (h : PW X e t) : PT X e t := h _
/-- an argument list (no star), from the left -/
def PA (X : Cx) (es : List Expr) (t : TA) : Prop :=
  ∀ (pos : Pos) (pins : List (Addr × Obj)) (s : Shared) (σ : St) (H : Hp) (Q : List V → Hp → Prop), Inv X pins σ H s → t σ H Q → wpAny (model X.prog X.w) X.A (spliced (backTo pos (starEach es X.env))) (AP X pins σ Q) X.xe s
def PS (X : Cx) (st : Stmt) (t : TS) : Prop :=
  ∀ (pins : List (Addr × Obj)) (s : Shared) (σ : St) (H : Hp) (D : Ends), Inv X pins σ H s → t D σ H → wpAny (model X.prog X.w) X.A (exec st X.env) (SP X pins D) X.xe s
def PSs (X : Cx) (st : List Stmt) (t : TS) : Prop :=
  ∀ (pins : List (Addr × Obj)) (s : Shared) (σ : St) (H : Hp) (D : Ends), Inv X pins σ H s → t D σ H → wpAny (model X.prog X.w) X.A (execs st X.env) (SP X pins D) X.xe s
/-- weaken the end -/
theorem thn {α : Type} {t : Sem α} {Q Q' : α → Shared → Prop} {M : Model} {A : Around} {E : Value → Shared → Prop} {s : Shared} (h : wpAny M A t Q E s) (hQ : ∀ a s, Q a s → Q' a s) : wpAny M A t Q' E s := wpAny_mono h hQ fun _ _ x => x
end L2
namespace L2
open PySem PySem.Spec PyProof.Rows
section
variable {X : Cx}

/-- two expressions in a row -/
theorem bin {a b : Expr} {ta tb : TE} (ha : PE X a ta) (hb : PE X b tb) {pins : List (Addr × Obj)} {s : Shared} {σ : St} {H : Hp} {R : V → V → Hp → Prop} (I : Inv X pins σ H s) (h : ta σ H fun x H1 => tb σ H1 fun y H2 => R x y H2)
    {α : Type} {Q : α → Shared → Prop} {f : Value → Value → Sem α}
    (hf : ∀ v u s2 x y H2, Inv X pins σ H2 s2 → RelV x v → RelV y u → R x y H2 → wpAny (model X.prog X.w) X.A (f v u) Q X.xe s2) :
    wpAny (model X.prog X.w) X.A (eval a X.env) (fun v s₁ => wpAny (model X.prog X.w) X.A (eval b X.env) (fun u s₂ => wpAny (model X.prog X.w) X.A (f v u) Q X.xe s₂) X.xe s₁) X.xe s := by
  refine thn (ha pins s σ H _ I h) fun v s1 ⟨x, H1, I1, r1, q1⟩ => ?_
  refine thn (hb pins s1 σ H1 _ I1 q1) fun u s2 ⟨y, H2, I2, r2, q2⟩ => ?_
  exact hf v u s2 x y H2 I2 r1 r2 q2

/-! ### names and constants -/
def tVar (i : Nat) : TE := fun σ H Q => ∃ v, σ[i]? = some (some v) ∧ Q v H
def tC (v : V) : TE := fun _ H Q => Q v H
theorem pe_var {i : Nat} {x : Str} {pos : Pos} (hN : X.N[i]? = some x) (hv : Vis X.env.scope x) (hd : (x == ("__debug__" : Str)) = false := by decide) (hcd : (x == ("__classdict__" : Str)) = false := by decide) : PE X (.Name x pos) (tVar i) := by
  intro pins s σ H Q I h
  obtain ⟨v, e, h⟩ := h
  obtain ⟨m, hn, hl⟩ := I.loc
  obtain ⟨u, r, l⟩ := hl i x v hN e hv
  have fin : EP X pins σ Q u s := ⟨v, H, I, r, h⟩
  rcases l with ⟨hk, hm⟩ | ⟨hk, c, hc, hcell⟩
  · exact wpAny_Name (wpAny_loadName_local I.ok.kind hk hn hm fin) hd
  · rcases hk with hk | hk
    · exact wpAny_Name (wpAny_loadName_cell I.ok.kind hk hc hcell fin) hd
    · exact wpAny_Name (wpAny_loadName_free I.ok.kind hk hc hcell fin hcd) hd
theorem pe_int {i j pos} : PE X (.Constant (.int i) j pos) (tC (.int i)) := fun _ _ _ H _ I h => wpAny_Constant_int ⟨.int i, H, I.tok _, ⟨_, rfl⟩, h⟩
theorem pe_bl {b j pos} : PE X (.Constant (.bool b) j pos) (tC (.bl b)) := fun _ _ _ H _ I h => Constant_bool ⟨.bl b, H, I, rfl, h⟩
theorem pe_non {j pos} : PE X (.Constant .none j pos) (tC .non) := fun _ _ _ H _ I h => Constant_none ⟨.non, H, I, rfl, h⟩
theorem pe_str {x j pos} : PE X (.Constant (.str x) j pos) (tC (.str x)) := fun _ _ _ H _ I h => Calls.Constant_str ⟨.str x, H, I.tok _, ⟨_, rfl⟩, h⟩

/-- a global name of the def -/
def Gl (X : Cx) (x : Str) : Prop := X.env.kindOf x = some .globalImplicit
theorem ld_glob {E : Value → Shared → Prop} {pins : List (Addr × Obj)} {s : Shared} {σ : St} {H : Hp} {x : Str} {u : Value} {pos : Pos} {Q : Value → Shared → Prop} (I : Inv X pins σ H s) (hg : Gl X x) (hm : X.mg x = some u) (h : Q u s)
    (hd : (x == ("__debug__" : Str)) = false := by decide) : wpAny (model X.prog X.w) X.A (eval (.Name x pos) X.env) Q E s :=
  Calls.Name_function_global I.ok.kind hg (Calls.loadGlobal_global (by rw [I.ok.glob]; exact I.mod.glob.keeps I.bk) hm h) hd
theorem ld_blt {E : Value → Shared → Prop} {pins : List (Addr × Obj)} {s : Shared} {σ : St} {H : Hp} {x : Str} {u : Value} {pos : Pos} {Q : Value → Shared → Prop} (I : Inv X pins σ H s) (hg : Gl X x) (hm : X.mg x = none) (hv : bootBuiltins x = some u) (h : Q u s)
    (hn : x ≠ "__name__" := by decide) (hd : (x == ("__debug__" : Str)) = false := by decide) : wpAny (model X.prog X.w) X.A (eval (.Name x pos) X.env) Q E s := by
  obtain ⟨mb, h1, h2⟩ := I.mod.blt
  exact Calls.Name_function_global I.ok.kind hg (Calls.loadGlobal_builtin (by rw [I.ok.glob]; exact I.mod.glob.keeps I.bk) hm (by rw [I.ok.blt]; exact h1.keeps I.bk) ((h2 x hn).trans hv) h) hd
/-- a module's constant, a class, a function, as a value -/
theorem pe_glob {x : Str} {v : V} {u : Value} {pos : Pos} (hg : Gl X x) (hm : X.mg x = some u) (r : RelV v u) (hd : (x == ("__debug__" : Str)) = false := by decide) : PE X (.Name x pos) (tC v) :=
  fun _ _ _ H _ I h => ld_glob I hg hm ⟨v, H, I, r, h⟩ hd
theorem pe_bltn {x : Str} {v : V} {u : Value} {pos : Pos} (hg : Gl X x) (hm : X.mg x = none) (hv : bootBuiltins x = some u) (r : RelV v u) (hn : x ≠ "__name__" := by decide) (hd : (x == ("__debug__" : Str)) = false := by decide) : PE X (.Name x pos) (tC v) :=
  fun _ _ _ H _ I h => ld_blt I hg hm hv ⟨v, H, I, r, h⟩ hn hd

/-! ### arithmetic -/
/-- two ints -/
def t2I (ta tb : TE) (k : Int → Int → Hp → Prop) : St → Hp → Prop := fun σ H => ta σ H fun x H1 => tb σ H1 fun y H2 => ∃ i j, x = .int i ∧ y = .int j ∧ k i j H2
def tAdd (ta tb : TE) : TE := fun σ H Q => t2I ta tb (fun i j H2 => Q (.int (i + j)) H2) σ H
def tSub (ta tb : TE) : TE := fun σ H Q => t2I ta tb (fun i j H2 => Q (.int (i - j)) H2) σ H
/-- the left factor below 2^64 -/
def tMul (ta tb : TE) : TE := fun σ H Q => t2I ta tb (fun i j H2 => (-(2 ^ 64) < i ∧ i < 2 ^ 64) ∧ Q (.int (i * j)) H2) σ H
variable {a b : Expr} {ta tb : TE} {pos : Pos}
theorem pe_add (ha : PE X a ta) (hb : PE X b tb) : PE X (.BinOp a .Add b pos) (tAdd ta tb) := by
  intro pins s σ H Q I h
  refine wpAny_BinOp (bin ha hb I h fun v u s2 x y H2 I2 rx ry q => ?_)
  obtain ⟨i, j, rfl, rfl, q⟩ := q
  obtain ⟨t, rfl⟩ := rx
  obtain ⟨t', rfl⟩ := ry
  exact add_int ⟨.int _, H2, I2.tok _, ⟨_, rfl⟩, q⟩
theorem pe_sub (ha : PE X a ta) (hb : PE X b tb) : PE X (.BinOp a .Sub b pos) (tSub ta tb) := by
  intro pins s σ H Q I h
  refine wpAny_BinOp (bin ha hb I h fun v u s2 x y H2 I2 rx ry q => ?_)
  obtain ⟨i, j, rfl, rfl, q⟩ := q
  obtain ⟨t, rfl⟩ := rx
  obtain ⟨t', rfl⟩ := ry
  exact sub_int ⟨.int _, H2, I2.tok _, ⟨_, rfl⟩, q⟩
theorem pe_mul (ha : PE X a ta) (hb : PE X b tb) : PE X (.BinOp a .Mult b pos) (tMul ta tb) := by
  intro pins s σ H Q I h
  refine wpAny_BinOp (bin ha hb I h fun v u s2 x y H2 I2 rx ry q => ?_)
  obtain ⟨i, j, rfl, rfl, ⟨q1, q2⟩, q⟩ := q
  obtain ⟨t, rfl⟩ := rx
  obtain ⟨t', rfl⟩ := ry
  exact mul_int ⟨.int _, H2, I2.tok _, ⟨_, rfl⟩, q⟩ (.of_left (intBits_le_64 q1 q2))

/-! ### comparisons -/
def PC (X : Cx) (op : CmpOp) (a b : Expr) (t : TE) : Prop :=
  ∀ (pins : List (Addr × Obj)) (s : Shared) (σ : St) (H : Hp) (Q : VK), Inv X pins σ H s → t σ H Q →
    wpAny (model X.prog X.w) X.A (eval a X.env) (fun v s₁ => wpAny (model X.prog X.w) X.A (eval b X.env) (fun u s₂ => wpAny (model X.prog X.w) X.A (compareOp op v u) (EP X pins σ Q) X.xe s₂) X.xe s₁) X.xe s
theorem nobehind (b : Expr) {op : CmpOp} (h : op ≠ .In) (h2 : op ≠ .NotIn) : behindInMarks op b = false := by
  have e1 : (op == CmpOp.In) = false := by cases op <;> first | rfl | exact absurd rfl h
  have e2 : (op == CmpOp.NotIn) = false := by cases op <;> first | rfl | exact absurd rfl h2
  cases b <;> simp [behindInMarks, e1, e2]
def tCmp (p : Int → Int → Bool) (ta tb : TE) : TE := fun σ H Q => t2I ta tb (fun i j H2 => Q (.bl (p i j)) H2) σ H
abbrev tLt : TE → TE → TE := tCmp fun i j => decide (i < j)
abbrev tLe : TE → TE → TE := tCmp fun i j => decide (i ≤ j)
abbrev tGt : TE → TE → TE := tCmp fun i j => decide (j < i)
abbrev tGe : TE → TE → TE := tCmp fun i j => decide (j ≤ i)
abbrev tEqI : TE → TE → TE := tCmp fun i j => decide (i = j)
abbrev tNeI : TE → TE → TE := tCmp fun i j => !decide (i = j)
/-- a comparison of two ints, by its rule -/
theorem pc_int {op : CmpOp} {p : Int → Int → Bool} (ha : PE X a ta) (hb : PE X b tb)
    (rule : ∀ (i j : Int) (t u : Tok) (Q : Value → Shared → Prop) (s : Shared), Q (.bool (p i j)) s → wpAny (model X.prog X.w) X.A (compareOp op (.int i t) (.int j u)) Q X.xe s) : PC X op a b (tCmp p ta tb) := by
  intro pins s σ H Q I h
  refine bin ha hb I h fun v u s2 x y H2 I2 rx ry q => ?_
  obtain ⟨i, j, rfl, rfl, q⟩ := q
  obtain ⟨t, rfl⟩ := rx
  obtain ⟨t', rfl⟩ := ry
  exact rule i j t t' _ s2 ⟨.bl _, H2, I2, rfl, q⟩
theorem pc_lt (ha : PE X a ta) (hb : PE X b tb) : PC X .Lt a b (tLt ta tb) := pc_int ha hb fun _ _ _ _ _ _ h => lt_int h
theorem pc_le (ha : PE X a ta) (hb : PE X b tb) : PC X .LtE a b (tLe ta tb) := pc_int ha hb fun _ _ _ _ _ _ h => le_int h
theorem pc_gt (ha : PE X a ta) (hb : PE X b tb) : PC X .Gt a b (tGt ta tb) := pc_int ha hb fun _ _ _ _ _ _ h => gt_int h
theorem pc_ge (ha : PE X a ta) (hb : PE X b tb) : PC X .GtE a b (tGe ta tb) := pc_int ha hb fun _ _ _ _ _ _ h => ge_int h
theorem pc_eqI (ha : PE X a ta) (hb : PE X b tb) : PC X .Eq a b (tEqI ta tb) := pc_int ha hb fun _ _ _ _ _ _ h => eq_int (by rw [Bool.beq_eq_decide_eq]; exact h)
theorem pc_neI (ha : PE X a ta) (hb : PE X b tb) : PC X .NotEq a b (tNeI ta tb) := pc_int ha hb fun _ _ _ _ _ _ h => ne_int (by rw [bne, Bool.beq_eq_decide_eq]; exact h)
/-- is None -/
def tIsN (ta : TE) : TE := fun σ H Q => ta σ H fun x H1 => Q (.bl (decide (x = .non))) H1
def tNotN (ta : TE) : TE := fun σ H Q => ta σ H fun x H1 => Q (.bl (!decide (x = .non))) H1
theorem RelV.none_iff {x : V} {v : Value} (r : RelV x v) : (v == Value.none) = decide (x = .non) := by
  cases x with
  | non => cases r; rfl
  | bl _ => cases r; rfl
  | int _ => obtain ⟨t, rfl⟩ := r; rfl
  | str _ => obtain ⟨t, rfl⟩ := r; rfl
  | byt _ => obtain ⟨t, rfl⟩ := r; rfl
  | flt _ => obtain ⟨t, rfl⟩ := r; rfl
  | ref _ => cases r; rfl
  | ty _ => cases r; rfl
theorem pc_isN {j pos'} (ha : PE X a ta) : PC X .Is a (.Constant .none j pos') (tIsN ta) := by
  intro pins s σ H Q I h
  refine thn (ha pins s σ H _ I h) fun v s1 ⟨x, H1, I1, r1, q1⟩ => ?_
  exact Constant_none (is_none_gen ⟨.bl _, H1, I1, by rw [r1.none_iff]; rfl, q1⟩)
theorem pc_notN {j pos'} (ha : PE X a ta) : PC X .IsNot a (.Constant .none j pos') (tNotN ta) := by
  intro pins s σ H Q I h
  refine thn (ha pins s σ H _ I h) fun v s1 ⟨x, H1, I1, r1, q1⟩ => ?_
  exact Constant_none (isnot_none_gen ⟨.bl _, H1, I1, by rw [r1.none_iff]; rfl, q1⟩)
/-- a comparison as a value, as a test -/
def tB (t : TE) : TT := fun σ H Q => t σ H fun x H1 => ∃ c, x = .bl c ∧ Q c H1
theorem pe_cmp {op : CmpOp} {t : TE} (h : PC X op a b t) (h1 : behindInMarks op b = false := by first | exact nobehind _ (by decide) (by decide) | rfl) : PE X (.Compare a [op] [b] pos) t := fun pins s σ H Q I hw => wpAny_Compare1 (h pins s σ H Q I hw) h1
theorem pt_cmp {op : CmpOp} {t : TE} (h : PC X op a b t) (h1 : behindInMarks op b = false := by first | exact nobehind _ (by decide) (by decide) | rfl) : PT X (.Compare a [op] [b] pos) (tB t) := by
  intro pins s σ H Q I hw
  refine wpAny_isTrue_Compare1 (thn (h pins s σ H _ I hw) fun v s1 h1 => thn h1 fun u s2 h2 => thn h2 fun c s3 ⟨x, H1, I1, r1, q1⟩ => ?_) h1
  obtain ⟨d, rfl, q⟩ := q1
  cases r1
  exact wpAny_truthy_bool ⟨H1, I1, q⟩
/-- an expression whose value is a bool, as a test -/
theorem pt_val {e : Expr} {t : TE} (h : PE X e t) (he : ∀ whole, isTrue e X.env whole = (do let v ← whole; standAt e.pos; holding [v] (truthy v)) := by intro _; rfl) : PT X e (tB t) := by
  intro pins s σ H Q I hw
  refine isTrue_plain (thn (h pins s σ H _ I hw) fun v s1 ⟨x, H1, I1, r1, q1⟩ => ?_) (he _)
  obtain ⟨d, rfl, q⟩ := q1
  cases r1
  exact wpAny_truthy_bool ⟨H1, I1, q⟩

/-! ### and, or, not -/
variable {tA tB' : TT} {rest : List Expr}
def tAnd (t u : TT) : TT := fun σ H Q => t σ H fun c H1 => if c = true then u σ H1 Q else Q false H1
def tOr (t u : TT) : TT := fun σ H Q => t σ H fun c H1 => if c = true then Q true H1 else u σ H1 Q
def tNot (t : TT) : TT := fun σ H Q => t σ H fun c H1 => Q (!c) H1
theorem pw_and1 (ha : PT X a tA) : PW X (.BoolOp .And [a] pos) tA := by
  intro wh pins s σ H Q I h
  refine isTrue_and (thn (ha pins s σ H Q I h) fun c s1 e => ?_)
  cases c with
  | true => exact isTrue_and_nil e
  | false => exact e
theorem pw_or1 (ha : PT X a tA) : PW X (.BoolOp .Or [a] pos) tA := by
  intro wh pins s σ H Q I h
  refine isTrue_or (thn (ha pins s σ H Q I h) fun c s1 e => ?_)
  cases c with
  | false => exact isTrue_or_nil e
  | true => exact e
theorem pw_and (ha : PT X a tA) (hb : PW X (.BoolOp .And (b :: rest) pos) tB') : PW X (.BoolOp .And (a :: b :: rest) pos) (tAnd tA tB') := by
  intro wh pins s σ H Q I h
  refine isTrue_and (thn (ha pins s σ H _ I h) fun c s1 ⟨H1, I1, q1⟩ => ?_)
  cases c with
  | true => exact hb wh pins s1 σ H1 Q I1 q1
  | false => exact ⟨H1, I1, q1⟩
theorem pw_or (ha : PT X a tA) (hb : PW X (.BoolOp .Or (b :: rest) pos) tB') : PW X (.BoolOp .Or (a :: b :: rest) pos) (tOr tA tB') := by
  intro wh pins s σ H Q I h
  refine isTrue_or (thn (ha pins s σ H _ I h) fun c s1 ⟨H1, I1, q1⟩ => ?_)
  cases c with
  | true => exact ⟨H1, I1, q1⟩
  | false => exact hb wh pins s1 σ H1 Q I1 q1
theorem pt_not (ha : PT X a tA) : PT X (.UnaryOp .Not a pos) (tNot tA) := by
  intro pins s σ H Q I h
  exact isTrue_not (ha pins s σ H (fun c H1 => Q (!c) H1) I h)
/-- .. as values (bools) -/
def tAndV (ta tb : TE) : TE := fun σ H Q => ta σ H fun x H1 => ∃ c, x = .bl c ∧ if c = true then tb σ H1 Q else Q (.bl false) H1
def tOrV (ta tb : TE) : TE := fun σ H Q => ta σ H fun x H1 => ∃ c, x = .bl c ∧ if c = true then Q (.bl true) H1 else tb σ H1 Q
def tNotV (ta : TE) : TE := fun σ H Q => ta σ H fun x H1 => ∃ c, x = .bl c ∧ Q (.bl (!c)) H1
theorem pe_one {op} {t : TE} (h : PE X a t) : PE X (.BoolOp op [a] pos) t := fun pins s σ H Q I hw => BoolOp_one (h pins s σ H Q I hw)
theorem pe_and (ha : PE X a ta) (hb : PE X (.BoolOp .And (b :: rest) pos) tb) : PE X (.BoolOp .And (a :: b :: rest) pos) (tAndV ta tb) := by
  intro pins s σ H Q I h
  refine BoolOp_and (thn (ha pins s σ H _ I h) fun v s1 ⟨x, H1, I1, r1, q1⟩ => ?_)
  obtain ⟨c, rfl, q1⟩ := q1
  cases r1
  refine wpAny_truthy_bool ?_
  cases c with
  | true => exact hb pins s1 σ H1 Q I1 q1
  | false => exact ⟨.bl false, H1, I1, rfl, q1⟩
theorem pe_or (ha : PE X a ta) (hb : PE X (.BoolOp .Or (b :: rest) pos) tb) : PE X (.BoolOp .Or (a :: b :: rest) pos) (tOrV ta tb) := by
  intro pins s σ H Q I h
  refine BoolOp_or (thn (ha pins s σ H _ I h) fun v s1 ⟨x, H1, I1, r1, q1⟩ => ?_)
  obtain ⟨c, rfl, q1⟩ := q1
  cases r1
  refine wpAny_truthy_bool ?_
  cases c with
  | false => exact hb pins s1 σ H1 Q I1 q1
  | true => exact ⟨.bl true, H1, I1, rfl, q1⟩
theorem pe_not (ha : PE X a ta) : PE X (.UnaryOp .Not a pos) (tNotV ta) := by
  intro pins s σ H Q I h
  refine UnaryOp_ (thn (ha pins s σ H _ I h) fun v s1 ⟨x, H1, I1, r1, q1⟩ => ?_)
  obtain ⟨c, rfl, q1⟩ := q1
  cases r1
  exact not_of (wpAny_truthy_bool ⟨.bl (!c), H1, I1, rfl, q1⟩)
/-- a if t else b -/
def tIf (t : TT) (ta tb : TE) : TE := fun σ H Q => t σ H fun c H1 => if c = true then ta σ H1 Q else tb σ H1 Q
theorem pe_ifExp {c : Expr} (hc : PT X c tA) (ha : PE X a ta) (hb : PE X b tb) : PE X (.IfExp c a b pos) (tIf tA ta tb) := by
  intro pins s σ H Q I h
  refine wpAny_IfExp (thn (hc pins s σ H _ I h) fun d s1 ⟨H1, I1, q1⟩ => ?_)
  cases d with
  | true => exact ha pins s1 σ H1 Q I1 q1
  | false => exact hb pins s1 σ H1 Q I1 q1
end
end L2
namespace L2
open PySem PySem.Spec PyProof.Rows

/-! ### a list, a tuple that is read: tracked, frozen, or an object of the module -/
def SqL (K : PySem.W.Frag) (H : Hp) (a : Addr) (xs : List V) : Prop :=
  Rd H a (.lst xs) ∨
    ∃ (o : Obj) (its : Array Value) (n : Nat), K.lookup a = some o ∧ o.cls = .type "list" ∧ o.dict = none ∧ o.data = .seq its n ∧ its.size ≤ sizeLine ∧ Vals xs its.toList
def SqT (K : PySem.W.Frag) (H : Hp) (a : Addr) (xs : List V) : Prop :=
  Rd H a (.tup xs) ∨
    ∃ (o : Obj) (its : Array Value) (n : Nat), K.lookup a = some o ∧ o.cls = .type "tuple" ∧ o.data = .seq its n ∧ its.size ≤ sizeLine ∧ Vals xs its.toList
def absV : Value → Option V
  | .none => some .non
  | .bool b => some (.bl b)
  | .int i _ => some (.int i)
  | .str x _ => some (.str x)
  | .bytes b _ => some (.byt b)
  | .float b _ => some (.flt b)
  | .ref a => some (.ref a)
  | .type n => some (.ty n)
  | _ => none
theorem RelV.abs {x : V} {u : Value} (r : RelV x u) : absV u = some x := by
  cases x with
  | non => cases r; rfl
  | bl _ => cases r; rfl
  | int _ => obtain ⟨t, rfl⟩ := r; rfl
  | str _ => obtain ⟨t, rfl⟩ := r; rfl
  | byt _ => obtain ⟨t, rfl⟩ := r; rfl
  | flt _ => obtain ⟨t, rfl⟩ := r; rfl
  | ref _ => cases r; rfl
  | ty _ => cases r; rfl
theorem RelV.inj {x y : V} {u : Value} (r : RelV x u) (q : RelV y u) : x = y := Option.some.inj (r.abs.symm.trans q.abs)
theorem Vals.inj : ∀ {xs ys : List V} {us : List Value}, Vals xs us → Vals ys us → xs = ys
  | _, _, _, .nil, .nil => rfl
  | _, _, _, .cons r t, .cons r' t' => by rw [r.inj r', Vals.inj t t']
section
variable {X : Cx} {pins : List (Addr × Obj)} {σ : St} {H : Hp} {s : Shared} {a : Addr} {xs ys : List V}
theorem SqL.of {K : PySem.W.Frag} (h : H a = some (.lst xs)) : SqL K H a xs := .inl (.inl h)
theorem SqT.of {K : PySem.W.Frag} (h : H a = some (.tup xs)) : SqT K H a xs := .inl (.inl h)
theorem Inv.list (I : Inv X pins σ H s) (h : SqL X.K H a xs) : ∃ its : List Value, Vals xs its ∧ PlainL s.heap a its.toArray ∧ xs.length ≤ sizeLine := by
  rcases h with h | ⟨o, its, n, hk, hc, hd, hs, hz, r⟩
  · obtain ⟨z, its, n, r, e⟩ := h.ok I.hok
    exact ⟨its, r, ⟨_, n, e, rfl, rfl, rfl⟩, z⟩
  · refine ⟨its.toList, r, ⟨o, n, I.kIn a o hk, hc, hd, by simpa using hs⟩, ?_⟩
    have e := r.length
    simp only [Array.length_toList] at e
    omega
theorem Inv.tuple (I : Inv X pins σ H s) (h : SqT X.K H a xs) : ∃ its : List Value, Vals xs its ∧ IsTup s.heap a its.toArray ∧ xs.length ≤ sizeLine := by
  rcases h with h | ⟨o, its, n, hk, hc, hs, hz, r⟩
  · obtain ⟨z, its, r, p⟩ := h.ok I.hok
    exact ⟨its, r, p, z⟩
  · refine ⟨its.toList, r, ⟨o, I.kIn a o hk, hc, n, by simpa using hs⟩, ?_⟩
    have e := r.length
    simp only [Array.length_toList] at e
    omega
theorem Inv.list_inj (I : Inv X pins σ H s) (h : SqL X.K H a xs) (h' : SqL X.K H a ys) : xs = ys := by
  obtain ⟨its, r, ⟨o, n, e, _, _, d⟩, _⟩ := I.list h
  obtain ⟨its', r', ⟨o', n', e', _, _, d'⟩, _⟩ := I.list h'
  rw [e] at e'; cases e'
  rw [d] at d'
  injection d' with d1 _
  have : its = its' := by simpa using congrArg Array.toList d1
  subst this
  exact r.inj r'
theorem Inv.tuple_inj (I : Inv X pins σ H s) (h : SqT X.K H a xs) (h' : SqT X.K H a ys) : xs = ys := by
  obtain ⟨its, r, ⟨o, e, _, n, d⟩, _⟩ := I.tuple h
  obtain ⟨its', r', ⟨o', e', _, n', d'⟩, _⟩ := I.tuple h'
  rw [e] at e'; cases e'
  rw [d] at d'
  injection d' with d1 _
  have : its = its' := by simpa using congrArg Array.toList d1
  subst this
  exact r.inj r'
end

/-! ### another wish about exceptions -/
abbrev Cx.wish (X : Cx) (E : Value → Shared → Prop) : Cx := { X with xe := E }
/-- no exception leaves -/
abbrev Cx.nox (X : Cx) : Cx := X.wish fun _ _ => False
theorem Cx.Ok.wish {X : Cx} (ok : X.Ok) (E : Value → Shared → Prop) : (X.wish E).Ok :=
  ⟨ok.mod, ok.kind, ok.glob, ok.blt, ok.above, ok.inj, ok.has, ok.cab, ok.hd, ok.frames, ok.stk, ok.exf, ok.bs, ok.bsz, ok.noex, ok.exfs, ok.funs, ok.frf⟩
theorem Cx.Ok.unwish {X : Cx} {E : Value → Shared → Prop} (ok : (X.wish E).Ok) : X.Ok :=
  ⟨ok.mod, ok.kind, ok.glob, ok.blt, ok.above, ok.inj, ok.has, ok.cab, ok.hd, ok.frames, ok.stk, ok.exf, ok.bs, ok.bsz, ok.noex, ok.exfs, ok.funs, ok.frf⟩
section
variable {X : Cx} {pins : List (Addr × Obj)} {σ : St} {H : Hp} {s : Shared} {E : Value → Shared → Prop}
theorem Inv.wish (I : Inv X pins σ H s) (E : Value → Shared → Prop) : Inv (X.wish E) pins σ H s := ⟨I.ok.wish E, I.os, I.bare, I.base, I.loc, I.cell, I.free, I.freeC, I.pin, I.hok, I.len⟩
theorem Inv.unwish (I : Inv (X.wish E) pins σ H s) : Inv X pins σ H s := ⟨I.ok.unwish, I.os, I.bare, I.base, I.loc, I.cell, I.free, I.freeC, I.pin, I.hok, I.len⟩
theorem SP.unwish {D : Ends} {f : Flow} {s' : Shared} (h : SP (X.wish E) pins D f s') : SP X pins D f s' := by
  cases f with
  | next => obtain ⟨σ', H', I, q⟩ := h; exact ⟨σ', H', I.unwish, q⟩
  | brk => obtain ⟨σ', H', I, q⟩ := h; exact ⟨σ', H', I.unwish, q⟩
  | cont => obtain ⟨σ', H', I, q⟩ := h; exact ⟨σ', H', I.unwish, q⟩
  | ret u => obtain ⟨v, σ', H', I, r, q⟩ := h; exact ⟨v, σ', H', I.unwish, r, q⟩
theorem PE.nox {e : Expr} {t : TE} (h : PE X.nox e t) : PE X e t := fun pins s σ H Q I hw =>
  wpAny_mono (h pins s σ H Q (I.wish _) hw) (fun _ _ ⟨v, H', I', r, q⟩ => ⟨v, H', I'.unwish, r, q⟩) fun _ _ z => False.elim z
theorem PT.nox {e : Expr} {t : TT} (h : PT X.nox e t) : PT X e t := fun pins s σ H Q I hw =>
  wpAny_mono (h pins s σ H Q (I.wish _) hw) (fun _ _ ⟨H', I', q⟩ => ⟨H', I'.unwish, q⟩) fun _ _ z => False.elim z
theorem PSs.nox {st : List Stmt} {t : TS} (h : PSs X.nox st t) : PSs X st t := fun pins s σ H D I hw =>
  wpAny_mono (h pins s σ H D (I.wish _) hw) (fun _ _ q => q.unwish) fun _ _ z => False.elim z
end

/-! ### blocks and small statements -/
section
variable {X : Cx} {st : Stmt} {rest : List Stmt} {t u : TS} {e : Expr} {te : TE} {pos : Pos}
def tNext : TS := fun D σ H => D.nx σ H
def tSeq (t u : TS) : TS := fun D σ H => t { D with nx := u D } σ H
theorem pss_nil : PSs X [] tNext := fun _ _ σ H _ I h => wpAny_execs_nil ⟨σ, H, I, h⟩
theorem pss_cons (h1 : PS X st t) (h2 : PSs X rest u) : PSs X (st :: rest) (tSeq t u) := by
  intro pins s σ H D I h
  refine wpAny_execs_cons (thn (h1 pins s σ H { D with nx := u D } I h) fun f s1 q => ?_)
  cases f with
  | next =>
    obtain ⟨σ', H', I', q⟩ := q
    exact h2 pins s1 σ' H' D I' q
  | ret v => exact q
  | brk => exact q
  | cont => exact q
theorem pss_one (h1 : PS X st t) : PSs X [st] t := by
  intro pins s σ H D I h
  refine wpAny_execs_cons (thn (h1 pins s σ H D I h) fun f s1 q => ?_)
  cases f with
  | next => exact wpAny_execs_nil q
  | ret v => exact q
  | brk => exact q
  | cont => exact q
def tBreak : TS := fun D σ H => D.bk σ H
def tCont : TS := fun D σ H => D.ct σ H
theorem ps_pass : PS X (.Pass pos) tNext := fun _ _ σ H _ I h => wpAny_Pass ⟨σ, H, I, h⟩
theorem ps_break : PS X (.Break pos) tBreak := fun _ _ σ H _ I h => wpAny_Break ⟨σ, H, I, h⟩
theorem ps_continue : PS X (.Continue pos) tCont := fun _ _ σ H _ I h => wpAny_Continue ⟨σ, H, I, h⟩
/-- in a def's body nothing is shown -/
theorem Inv.quiet {pins : List (Addr × Obj)} {σ : St} {H : Hp} {s : Shared} (I : Inv X pins σ H s) : interactive X.env = false := by simp [interactive, I.ok.kind]
/-- a docstring -/
theorem ps_doc {x j pos pos'} : PS X (.Expr (.Constant (.str x) j pos) pos') tNext := fun _ s σ H _ I h => wpAny_Expr (Calls.Constant_str (show SP X _ _ .next { s with toks := s.toks + 1 } from ⟨σ, H, I.tok _, h⟩)) I.quiet
/-- an expression whose value is dropped -/
def tDrop (te : TE) : TS := fun D σ H => te σ H fun _ H1 => D.nx σ H1
theorem ps_expr (he : PE X e te) (hs : swapsWith e none pos.line X.env = pure false := by rfl) : PS X (.Expr e pos) (tDrop te) := by
  intro pins s σ H D I h
  exact wpAny_Expr_any (thn (he pins s σ H _ I h) fun v s1 ⟨x, H1, I1, r1, q1⟩ => ⟨σ, H1, I1, q1⟩) I.quiet hs
def tRet (te : TE) : TS := fun D σ H => te σ H D.rt
theorem ps_ret (he : PE X e te) : PS X (.Return (some e) pos) (tRet te) := by
  intro pins s σ H D I h
  exact wpAny_Return_some (thn (he pins s σ H _ I h) fun v s1 ⟨x, H1, I1, r1, q1⟩ => ⟨x, σ, H1, I1, r1, q1⟩)
def tRetN : TS := fun D _ H => D.rt .non H
theorem ps_retN : PS X (.Return none pos) tRetN := fun _ _ σ H _ I h => wpAny_Return_none ⟨.non, σ, H, I, rfl, h⟩
def tIfS (c : TT) (t u : TS) : TS := fun D σ H => c σ H fun b H1 => if b = true then t D σ H1 else u D σ H1
theorem ps_if {c : Expr} {a b : List Stmt} {tc : TT} (hc : PT X c tc) (ha : PSs X a t) (hb : PSs X b u) : PS X (.If c a b pos) (tIfS tc t u) := by
  intro pins s σ H D I h
  refine wpAny_If (thn (hc pins s σ H _ I h) fun d s1 ⟨H1, I1, q1⟩ => ?_)
  cases d with
  | true => exact ha pins s1 σ H1 D I1 q1
  | false => exact hb pins s1 σ H1 D I1 q1
/-- code that the proof never comes to -/
def tNever : TS := fun _ _ _ => False
theorem ps_never : PS X st tNever := fun _ _ _ _ _ _ h => h.elim
theorem pss_never {sts : List Stmt} : PSs X sts tNever := fun _ _ _ _ _ _ h => h.elim
end

/-! ### targets -/
abbrev TG := V → St → Hp → (St → Hp → Prop) → Prop
abbrev TGs := List V → St → Hp → (St → Hp → Prop) → Prop
def PG (X : Cx) (target : Expr) (t : TG) : Prop :=
  ∀ (pins : List (Addr × Obj)) (s : Shared) (σ : St) (H : Hp) (v : V) (u : Value) (Q : St → Hp → Prop), Inv X pins σ H s → RelV v u → t v σ H Q →
    wpAny (model X.prog X.w) X.A (assign target X.env u) (fun _ s' => ∃ σ' H', Inv X pins σ' H' s' ∧ Q σ' H') X.xe s
/-- several targets, one after another -/
def PGs (X : Cx) (ts : List Expr) (t : TGs) : Prop :=
  ∀ (pins : List (Addr × Obj)) (s : Shared) (σ : St) (H : Hp) (vs : List V) (us : List Value) (Q : St → Hp → Prop), Inv X pins σ H s → Vals vs us → t vs σ H Q →
    wpAny (model X.prog X.w) X.A (assignInOrder ((assignEach ts X.env).map (·.2)) us) (fun _ s' => ∃ σ' H', Inv X pins σ' H' s' ∧ Q σ' H') X.xe s
/-- o[i] = v, by values -/
abbrev TSet := V → V → V → Hp → (Hp → Prop) → Prop
def PSet (X : Cx) (t : TSet) : Prop :=
  ∀ (pins : List (Addr × Obj)) (s : Shared) (σ : St) (H : Hp) (o i v : V) (ov iv u : Value) (Q : Hp → Prop), Inv X pins σ H s → RelV o ov → RelV i iv → RelV v u → t o i v H Q →
    wpAny (model X.prog X.w) X.A (setItem ov iv u) (fun _ s' => ∃ H', Inv X pins σ H' s' ∧ Q H') X.xe s
/-- a op= b, by values -/
abbrev TIp := V → V → Hp → VK → Prop
def PIp (X : Cx) (op : Operator) (t : TIp) : Prop :=
  ∀ (pins : List (Addr × Obj)) (s : Shared) (σ : St) (H : Hp) (x y : V) (v u : Value) (Q : VK), Inv X pins σ H s → RelV x v → RelV y u → t x y H Q →
    wpAny (model X.prog X.w) X.A (inplaceOp op v u) (EP X pins σ Q) X.xe s
section
variable {X : Cx} {pos : Pos}
def gName (i : Nat) : TG := fun v σ H Q => Q (σ.set i (some v)) H
theorem pg_name {i : Nat} {x : Str} (hN : X.N.Nodup) (hi : X.N[i]? = some x) (hx : Loc X.env.scope x) (hf : X.fn x = true ∨ X.env.scope.names.lookup x = some .local := by first | exact .inl rfl | exact .inr rfl | assumption) : PG X (.Name x pos) (gName i) := by
  intro pins s σ H v u Q I r h
  exact wpAny_assign_Name (store_ok I hN hi hx r (fun s' I' => ⟨_, H, I', h⟩) hf)
def gNil : TGs := fun vs σ H Q => vs = [] ∧ Q σ H
def gCons (t : TG) (u : TGs) : TGs := fun vs σ H Q => ∃ v r, vs = v :: r ∧ t v σ H fun σ' H' => u r σ' H' Q
theorem pgs_nil : PGs X [] gNil := by
  intro pins s σ H vs us Q I r h
  obtain ⟨e, h⟩ := h
  subst e
  cases r
  exact assignInOrder_nil ⟨σ, H, I, h⟩
theorem pgs_cons {e : Expr} {es : List Expr} {t : TG} {u : TGs} (h1 : PG X e t) (h2 : PGs X es u)
    (hs : (assignEach (e :: es) X.env).map (·.2) = assign e X.env :: (assignEach es X.env).map (·.2) := by rfl) : PGs X (e :: es) (gCons t u) := by
  intro pins s σ H vs us Q I r h
  obtain ⟨v, vr, e1, h⟩ := h
  subst e1
  cases r with
  | cons r rr =>
    rw [hs]
    refine assignInOrder_cons (thn (h1 pins s σ H _ _ _ I r h) fun _ s1 ⟨σ1, H1, I1, q1⟩ => ?_)
    exact h2 pins s1 σ1 H1 _ _ Q I1 rr q1
/-- (a, b, ..) = a tuple of that length -/
def gTup (K : PySem.W.Frag) (n : Nat) (t : TGs) : TG := fun v σ H Q => ∃ a xs, v = .ref a ∧ SqT K H a xs ∧ xs.length = n ∧ t xs σ H Q
theorem pg_tup {es : List Expr} {k : Nat} {t : TGs} {n : Nat} (hc : X.calm = true) (h : PGs X es t)
    (hn : (assignEach es X.env).length = n := by rfl) (hst : (assignEach es X.env).findIdx? (·.1) = none := by rfl) : PG X (.Tuple es k pos) (gTup X.K n t) := by
  intro pins s σ H v u Q I r hw
  obtain ⟨a, xs, e1, hq, hl, hw⟩ := hw
  subst e1
  cases r
  obtain ⟨its, rv, ht, hz⟩ := I.tuple hq
  refine assign_Tuple_tuple (I.ok.hd hc) ht (by simp [hn, ← hl, rv.length]) hst fun h' hx => ?_
  have I1 : Inv X pins σ H { s with heap := h' } := I.kept (t' := s.toks) fun b o e => hx b o (Nat.ne_of_lt (Heap.lt_size e)) e
  exact h pins _ σ H xs _ Q I1 (by simpa using rv) hw
/-- o[i] = .. -/
def gSub (to ti : TE) (t : TSet) : TG := fun v σ H Q => to σ H fun o H1 => ti σ H1 fun i H2 => t o i v H2 fun H3 => Q σ H3
theorem pg_sub {o i : Expr} {to ti : TE} {t : TSet} (ho : PE X o to) (hi : PE X i ti) (hs : PSet X t)
    (ha : ∀ v, assign (.Subscript o i pos) X.env v = (do
      let ov ← holding [v] (eval o X.env)
      let iv ← holding [v, ov] (eval i X.env)
      standAt pos
      holding [v, ov, iv] (setItem ov iv v)
      release [v, ov, iv] []) := by intro _; rfl) : PG X (.Subscript o i pos) (gSub to ti t) := by
  intro pins s σ H v u Q I r h
  rw [ha]
  refine wpAny_bind (wpAny_holding (thn (ho pins s σ H _ I h) fun ov s1 ⟨x, H1, I1, r1, q1⟩ => ?_))
  refine wpAny_bind (wpAny_holding (thn (hi pins s1 σ H1 _ I1 q1) fun iv s2 ⟨y, H2, I2, r2, q2⟩ => ?_))
  refine wpAny_bind (wpAny_standAt (wpAny_bind (wpAny_holding (thn (hs pins s2 σ H2 x y v ov iv u _ I2 r1 r2 r q2) fun _ s3 ⟨H3, I3, q3⟩ => ?_))))
  exact wpAny_release ⟨σ, H3, I3, q3⟩
/-- target = value -/
def tAsg (te : TE) (g : TG) : TS := fun D σ H => te σ H fun x H1 => g x σ H1 D.nx
theorem ps_asg {tg e : Expr} {te : TE} {g : TG} (he : PE X e te) (hg : PG X tg g) (hs : swapsWithSole [tg] e pos.line X.env = pure false := by rfl) (hw : swappedStores [tg] e X.env = pure none := by rfl)
    (h1 : (assignEach [tg] X.env).map (·.2) = [assign tg X.env] := by rfl) : PS X (.Assign [tg] e pos) (tAsg te g) := by
  intro pins s σ H D I h
  refine wpAny_Assign_stores (thn (he pins s σ H _ I h) fun v s1 ⟨x, H1, I1, r1, q1⟩ => ?_) hs hw
  rw [h1]
  exact thn (hg pins s1 σ H1 x v _ I1 r1 q1) fun _ s2 q => q
/-- name = value -/
theorem ps_set {i : Nat} {x : Str} {e : Expr} {te : TE} {pos' : Pos} (hN : X.N.Nodup) (hi : X.N[i]? = some x) (hx : Loc X.env.scope x) (he : PE X e te) (hs : swapsWith e (some (.Name x pos')) pos.line X.env = pure false := by rfl) (hf : X.fn x = true ∨ X.env.scope.names.lookup x = some .local := by first | exact .inl rfl | exact .inr rfl | assumption) :
    PS X (.Assign [.Name x pos'] e pos) (tAsg te (gName i)) := by
  intro pins s σ H D I h
  refine wpAny_Assign_Name (thn (he pins s σ H _ I h) fun v s1 ⟨y, H1, I1, r1, q1⟩ => ?_) hs
  exact store_ok I1 hN hi hx r1 (fun s2 I2 => ⟨_, H1, I2, q1⟩) hf
/-- a, b = x, y with plain local names: stored from the right; the pair itself is not tracked (the opening rows as in PyProof/Rows/TupAssign.lean:23) -/
def tPar (i j : Nat) (ta : TA) : TS := fun D σ H => ta σ H fun vs H1 => ∃ v w, vs = [v, w] ∧ D.nx ((σ.set i (some v)).set j (some w)) H1
theorem ps_par {i j : Nat} {x y : Str} {a b : Expr} {ta : TA} {px py pt : Pos} {kt k2 pt2} (hc : X.calm = true) (hN : X.N.Nodup) (hi : X.N[i]? = some x) (hj : X.N[j]? = some y) (hij : i ≠ j)
    (hx : X.env.scope.names.lookup x = some .local) (hy : X.env.scope.names.lookup y = some .local) (ha : PA X [a, b] ta)
    (hw : swappedStores [.Tuple [.Name x px, .Name y py] kt pt] (.Tuple [a, b] k2 pt2) X.env = pure (some [x, y]))
    (hs : swapsWithSole [.Tuple [.Name x px, .Name y py] kt pt] (.Tuple [a, b] k2 pt2) pos.line X.env = pure false := by rfl) :
    PS X (.Assign [.Tuple [.Name x px, .Name y py] kt pt] (.Tuple [a, b] k2 pt2) pos) (tPar i j ta) := by
  intro pins s σ H D I h
  rw [exec_Assign_arm]
  refine wpAny_bind (wpAny_standAt ?_)
  rw [hs]
  refine wpAny_bind (wpAny_pure ?_)
  rw [if_neg (by decide)]
  refine wpAny_bind (Tuple_ (thn (ha _ pins s σ H _ I h) fun us s1 ⟨vs, H1, I1, r1, q1⟩ => ?_))
  obtain ⟨v, w, e1, q1⟩ := q1
  subst e1
  obtain ⟨u1, u2, rfl, rv, rw'⟩ : ∃ u1 u2, us = [u1, u2] ∧ RelV v u1 ∧ RelV w u2 := by
    cases r1 with
    | cons p q =>
      cases q with
      | cons p' q' =>
        cases q'
        exact ⟨_, _, rfl, p, p'⟩
  refine wpAny_newObj_type ?_ (by show 2 ≤ sizeLine; decide)
  have I2 : Inv X pins σ H1 { s1 with heap := s1.heap.push { cls := .type "tuple", data := .seq [u1, u2].toArray } } := I1.kept (t' := s1.toks) fun b o e => Heap.get?_push_of_some _ e
  rw [hw]
  refine wpAny_bind (wpAny_pure ?_)
  show wpAny (model X.prog X.w) X.A (do rule "assign.swapped-stores"; let items ← unpackItems (.ref s1.heap.objs.size) 2 none; assignInOrder [fun v => bindName X.env y v, fun v => bindName X.env x v] items.reverse; pure Flow.next) _ _ _
  refine wpAny_bind (wpAny_rule (wpAny_bind (unpackItems_tuple (items := #[u1, u2]) (I.ok.hd hc) (IsTup.new s1.heap _) fun h' hx' => ?_)))
  have I3 := I2.kept (h' := h') (t' := s1.toks) fun b o e => hx' b o (Nat.ne_of_lt (Heap.lt_size e)) e
  show wpAny _ _ (assignInOrder [fun v => bindName X.env y v, fun v => bindName X.env x v] [u2, u1] >>= fun _ => pure Flow.next) _ _ _
  refine wpAny_bind (assignInOrder_cons (wpAny_bindName (store_ok I3 hN hj (.inl hy) rw' (fun s2 I4 => ?_) (.inr hy))))
  refine assignInOrder_cons (wpAny_bindName (store_ok I4 hN hi (.inl hx) rv (fun s3 I5 => assignInOrder_nil (wpAny_pure ?_)) (.inr hx)))
  rw [List.set_comm _ _ (Ne.symm hij)] at I5
  exact ⟨_, H1, I5, q1⟩
/-- name op= e -/
def tAug (i : Nat) (te : TE) (ti : TIp) : TS := fun D σ H => ∃ x, σ[i]? = some (some x) ∧ te σ H fun y H1 => ti x y H1 fun z H2 => D.nx (σ.set i (some z)) H2
theorem ps_aug {i : Nat} {x : Str} {e : Expr} {te : TE} {op : Operator} {ti : TIp} {pos' : Pos} (hN : X.N.Nodup) (hi : X.N[i]? = some x) (hx : Loc X.env.scope x) (he : PE X e te) (ho : PIp X op ti) (hf : X.fn x = true ∨ X.env.scope.names.lookup x = some .local := by first | exact .inl rfl | exact .inr rfl | assumption) :
    PS X (.AugAssign (.Name x pos') op e pos) (tAug i te ti) := by
  intro pins s σ H D I h
  obtain ⟨v, e1, h⟩ := h
  obtain ⟨m, hn, hl⟩ := I.loc
  have vis : Vis X.env.scope x := by rcases hx with k | k; exact .inl k; exact .inr (.inl k)
  obtain ⟨u, r, l⟩ := hl i x v hi e1 vis
  refine wpAny_AugAssign_Name ?_
  have go : wpAny (model X.prog X.w) X.A (eval e X.env) (fun w s₂ => wpAny (model X.prog X.w) X.A (inplaceOp op u w) (fun r s₃ => wpAny (model X.prog X.w) X.A (storeName X.env x r) (fun _ => SP X pins D .next) X.xe s₃) X.xe s₂) X.xe s := by
    refine thn (he pins s σ H _ I h) fun w s1 ⟨y, H1, I1, r1, q1⟩ => ?_
    refine thn (ho pins s1 σ H1 v y u w _ I1 r r1 q1) fun z s2 ⟨zv, H2, I2, r2, q2⟩ => ?_
    exact store_ok I2 hN hi hx r2 (fun s3 I3 => ⟨_, H2, I3, q2⟩) hf
  rcases l with ⟨hk, hm⟩ | ⟨hk, c, hc, hcell⟩
  · exact wpAny_loadName_local I.ok.kind hk hn hm go
  · rcases hk with hk | hk
    · exact wpAny_loadName_cell I.ok.kind hk hc hcell go
    · rcases hx with k | k
      · have : X.env.scope.names.lookup x = some .free := hk
        rw [k] at this; cases this
      · have : X.env.scope.names.lookup x = some .free := hk
        rw [k] at this; cases this
/-- o[i] op= e -/
def tAugS (to ti te : TE) (tget : V → V → Hp → VK → Prop) (tip : TIp) (tset : TSet) : TS := fun D σ H => to σ H fun o H1 => ti σ H1 fun i H2 => tget o i H2 fun x H3 => te σ H3 fun y H4 => tip x y H4 fun z H5 => tset o i z H5 fun H6 => D.nx σ H6
/-- o[i], by values -/
def PGet (X : Cx) (t : V → V → Hp → VK → Prop) : Prop :=
  ∀ (pins : List (Addr × Obj)) (s : Shared) (σ : St) (H : Hp) (o i : V) (ov iv : Value) (Q : VK), Inv X pins σ H s → RelV o ov → RelV i iv → t o i H Q →
    wpAny (model X.prog X.w) X.A (getItem ov iv) (EP X pins σ Q) X.xe s
theorem ps_augS {o i e : Expr} {to ti te : TE} {tget : V → V → Hp → VK → Prop} {tip : TIp} {tset : TSet} {op : Operator} {tpos : Pos} (ho : PE X o to) (hi : PE X i ti) (hg : PGet X tget) (he : PE X e te) (hp : PIp X op tip) (hs : PSet X tset)
    (ha : ∀ ov iv new, augStore i ov iv new = (do holding [new, ov, iv] (setItem ov iv new); release [new, ov, iv] []; pure .next) := by intros; rfl) : PS X (.AugAssign (.Subscript o i tpos) op e pos) (tAugS to ti te tget tip tset) := by
  intro pins s σ H D I h
  refine wpAny_AugAssign_SubscriptAny (thn (ho pins s σ H _ I h) fun ov s1 ⟨x1, H1, I1, r1, q1⟩ => ?_) ha
  refine thn (hi pins s1 σ H1 _ I1 q1) fun iv s2 ⟨x2, H2, I2, r2, q2⟩ => ?_
  refine thn (hg pins s2 σ H2 x1 x2 ov iv _ I2 r1 r2 q2) fun old s3 ⟨x3, H3, I3, r3, q3⟩ => ?_
  refine thn (he pins s3 σ H3 _ I3 q3) fun v s4 ⟨x4, H4, I4, r4, q4⟩ => ?_
  refine thn (hp pins s4 σ H4 x3 x4 old v _ I4 r3 r4 q4) fun new s5 ⟨x5, H5, I5, r5, q5⟩ => ?_
  exact thn (hs pins s5 σ H5 x1 x2 x5 ov iv new _ I5 r1 r2 r5 q5) fun _ s6 ⟨H6, I6, q6⟩ => ⟨σ, H6, I6, q6⟩
/-- ints -/
def ipI (f : Int → Int → Int) : TIp := fun x y H Q => ∃ i j, x = .int i ∧ y = .int j ∧ Q (.int (f i j)) H
theorem ip_add : PIp X .Add (ipI fun i j => i + j) := by
  intro pins s σ H x y v u Q I r1 r2 h
  obtain ⟨i, j, e1, e2, q⟩ := h
  subst e1; subst e2
  obtain ⟨t, rfl⟩ := r1
  obtain ⟨t', rfl⟩ := r2
  exact iadd_int ⟨.int _, H, I.tok _, ⟨_, rfl⟩, q⟩
theorem ip_sub : PIp X .Sub (ipI fun i j => i - j) := by
  intro pins s σ H x y v u Q I r1 r2 h
  obtain ⟨i, j, e1, e2, q⟩ := h
  subst e1; subst e2
  obtain ⟨t, rfl⟩ := r1
  obtain ⟨t', rfl⟩ := r2
  exact isub_int ⟨.int _, H, I.tok _, ⟨_, rfl⟩, q⟩
end

/-! ### while -/
section
variable {X : Cx} {pos : Pos}
/-- the invariant W with its measure -/
def tWhile (c : TT) (tb : TS) : TS := fun D σ H => ∃ W : Nat → St → Hp → Prop, (∃ m, W m σ H) ∧ ∀ m σ H, W m σ H →
  c σ H fun b H1 => if b = true then ∃ N : St → Hp → Prop, (∀ σ' H', N σ' H' → ∃ m', m' < m ∧ W m' σ' H') ∧ tb { D with nx := N, ct := N, bk := D.nx } σ H1 else D.nx σ H1
theorem ps_while {c : Expr} {body : List Stmt} {tc : TT} {tb : TS} (hp : PassesOwn (model X.prog X.w) X.A X.env X.xe) (hc : PT X c tc) (hb : PSs X body tb) : PS X (.While c body [] pos) (tWhile tc tb) := by
  intro pins s σ H D I h
  obtain ⟨W, ⟨m0, w0⟩, turn⟩ := h
  refine wpAny_While (codeAny_whileLoop (fun n s' => ∃ σ' H', Inv X pins σ' H' s' ∧ W n σ' H') ?_ m0 ⟨σ, H, I, w0⟩)
  rintro n s1 ⟨σ1, H1, I1, w1⟩
  refine wpAny_passesOwn hp (thn (hc pins s1 σ1 H1 _ I1 (turn n σ1 H1 w1)) fun b s2 ⟨H2, I2, q2⟩ => ?_)
  cases b with
  | true =>
    obtain ⟨N, hN, q2⟩ := q2
    rw [if_pos rfl]
    refine wpAny_passesOwn hp (thn (hb pins s2 σ1 H2 _ I2 q2) fun f s3 q3 => ?_)
    cases f with
    | next =>
      obtain ⟨σ3, H3, I3, n3⟩ := q3
      obtain ⟨m', hm, w3⟩ := hN σ3 H3 n3
      exact ⟨m', hm, σ3, H3, I3, w3⟩
    | cont =>
      obtain ⟨σ3, H3, I3, n3⟩ := q3
      obtain ⟨m', hm, w3⟩ := hN σ3 H3 n3
      exact ⟨m', hm, σ3, H3, I3, w3⟩
    | brk => exact q3
    | ret v => exact q3
  | false =>
    rw [if_neg Bool.false_ne_true]
    exact wpAny_execs_nil ⟨σ1, H2, I2, q2⟩
end

/-! ### what a loop or a comprehension walks -/
/-- at turn i: it yields x (the heap may grow), or it stops -/
structure It where
  go : Nat → Hp → Prop
  yld : Nat → Hp → V → Hp → Prop
  stop : Nat → Hp → Prop
/-- the iterator's own objects may turn: they are not the frame's, not pinned, younger than the entry (or a comprehension's own) -/
def FpOk (X : Cx) (pins : List (Addr × Obj)) (H : Hp) (b : Addr) : Prop :=
  H b = none ∧ b ≠ X.env.locals ∧ b ∉ X.fs ∧ (b ∈ X.ex ∨ X.s₀.heap.objs.size ≤ b) ∧ (∀ x c, X.env.cells.lookup x = some c → c ≠ b) ∧ ∀ p ∈ X.pn ++ pins, p.1 ≠ b
theorem Inv.fpOk {X : Cx} {pins : List (Addr × Obj)} {σ : St} {H H' : Hp} {s : Shared} {b : Addr} (I : Inv X pins σ H s) (hb : s.heap.objs.size ≤ b) (hn : H' b = none) : FpOk X pins H' b := by
  refine ⟨hn, Nat.ne_of_gt (Nat.lt_of_lt_of_le I.lt hb), I.nofs hb, .inr (Nat.le_trans I.sz hb), fun x c e z => ?_, fun p hp z => ?_⟩
  · obtain ⟨v, q⟩ := I.cell x c e
    exact absurd (Nat.lt_of_lt_of_le q.lt (by rw [z]; exact hb)) (Nat.lt_irrefl _)
  · exact absurd (Nat.lt_of_lt_of_le (Heap.lt_size (I.pin p hp).1) (by rw [z]; exact hb)) (Nat.lt_irrefl _)
structure Turn (P : Program) (w : World) (K : PySem.W.Frag) (tg : Expr) (J : It) (fp : List Addr) (it : Addr) (tn : Nat → Heap → Prop) : Prop where
  mem : it ∈ fp
  obj : ∀ i h, tn i h → ∀ b ∈ fp, ∃ o, h.get? b = some o ∧ ∀ v, o.data ≠ .cell v
  keep : ∀ i h h', tn i h → (∀ b ∈ fp, ∀ o, h.get? b = some o → h'.get? b = some o) → tn i h'
  item : ∀ (X : Cx), X.prog = P → X.w = w → X.K = K → X.calm = true → ∀ (i : Nat) (pins : List (Addr × Obj)) (s : Shared) (σ : St) (H : Hp) (E : Value → Shared → Prop), Inv X pins σ H s → (∀ b ∈ fp, FpOk X pins H b) → tn i s.heap → J.go i H →
    wpAny (model P w) X.A (pyNext (.ref it)) (fun r s1 => ∃ u, r = some u ∧
      wpAny (model P w) X.A (letOwnedTupleGo tg (.ref it) u) (fun _ s2 => ∃ x H', Inv X pins σ H' s2 ∧ RelV x u ∧ J.yld i H x H' ∧ tn (i + 1) s2.heap ∧ ∀ b ∈ fp, H' b = none) E s1) E s
  done : ∀ (X : Cx), X.prog = P → X.w = w → X.K = K → X.calm = true → ∀ (i : Nat) (pins : List (Addr × Obj)) (s : Shared) (σ : St) (H : Hp) (E : Value → Shared → Prop), Inv X pins σ H s → (∀ b ∈ fp, FpOk X pins H b) → tn i s.heap → J.stop i H →
    wpAny (model P w) X.A (pyNext (.ref it)) (fun r s1 => r = none ∧ Inv X pins σ H s1) E s
  self : ∀ (A : Around) (i : Nat) (s : Shared) (Q : Value → Shared → Prop) (E : Value → Shared → Prop), tn i s.heap → Q (.ref it) s → wpAny (model P w) A (pyIter (.ref it)) Q E s
abbrev TI := St → Hp → (It → Hp → Prop) → Prop
/-- an iterator has come -/
def PIE (X : Cx) (pins : List (Addr × Obj)) (σ : St) (tg : Expr) (R : It → Hp → Prop) (itv : Value) (s2 : Shared) : Prop :=
  ∃ (it : Addr) (fp : List Addr) (tn : Nat → Heap → Prop) (J : It) (H' : Hp), itv = .ref it ∧ Inv X pins σ H' s2 ∧ Turn X.prog X.w X.K tg J fp it tn ∧ tn 0 s2.heap ∧ (∀ b ∈ fp, FpOk X pins H' b) ∧ R J H'
def PI (X : Cx) (tg iter : Expr) (wi : TI) : Prop :=
  ∀ (pins : List (Addr × Obj)) (s : Shared) (σ : St) (H : Hp) (R : It → Hp → Prop), Inv X pins σ H s → wi σ H R →
    wpAny (model X.prog X.w) X.A (eval iter X.env) (fun v s1 => wpAny (model X.prog X.w) X.A (pyIter v) (PIE X pins σ tg R) X.xe s1) X.xe s

/-- the step ahead of the store is nothing for an iterator that keeps no tuple -/
theorem go_of {M : Model} {A : Around} {E : Value → Shared → Prop} {s : Shared} {tg : Expr} {it : Addr} {u : Value} {o : Obj} {n : String} {vs : Array Value} {Q : Unit → Shared → Prop} (ho : s.heap.get? it = some o) (hc : o.cls = .type n) (hd : o.data = .fields vs)
    (hn : ["enumerate", "zip", "dict_itemiterator", "dict_reverseitemiterator", "odict_iterator", "itertools.zip_longest", "itertools.pairwise"].contains n = false) (hQ : Q () s) : wpAny M A (letOwnedTupleGo tg (.ref it) u) Q E s := by
  unfold letOwnedTupleGo
  cases tg <;> first
    | exact wpAny_pure hQ
    | (cases u <;> first
        | exact wpAny_pure hQ
        | (refine wpAny_bind (wpAny_load ho ?_)
           rw [hc, hd]
           show wpAny M A (if (["enumerate", "zip", "dict_itemiterator", "dict_reverseitemiterator", "odict_iterator", "itertools.zip_longest", "itertools.pairwise"].contains n && vs[0]? == some (rawInt _)) = true then _ else _) Q E s
           rw [if_neg (by intro h; rw [hn, Bool.false_and] at h; cases h)]
           exact wpAny_pure hQ))

/-- the list at a, as it stands at each turn (a loop may append to it) -/
def Itl (K : PySem.W.Frag) (a : Addr) : It :=
  ⟨fun i H => ∃ xs x, SqL K H a xs ∧ xs[i]? = some x, fun i H x H' => H' = H ∧ ∀ xs, SqL K H a xs → xs[i]? = some x, fun i H => ∃ xs, SqL K H a xs ∧ xs.length ≤ i⟩
def Itt (K : PySem.W.Frag) (a : Addr) : It :=
  ⟨fun i H => ∃ xs x, SqT K H a xs ∧ xs[i]? = some x, fun i H x H' => H' = H ∧ ∀ xs, SqT K H a xs → xs[i]? = some x, fun i H => ∃ xs, SqT K H a xs ∧ xs.length ≤ i⟩
/-- lo, lo + 1, .. (n of them) -/
def Itr (lo : Int) (n : Nat) : It := ⟨fun i _ => i < n, fun i H x H' => H' = H ∧ x = .int (lo + i), fun i _ => n ≤ i⟩
theorem turn_list {P : Program} {w : World} {K : PySem.W.Frag} {tg : Expr} (a it : Addr) : Turn P w K tg (Itl K a) [it] it (fun i h => h.IsListIter it a i) where
  mem := by simp
  obj := fun i h st b hb => by
    have e : b = it := by simpa using hb
    subst e
    obtain ⟨o, e, c, d⟩ := st
    exact ⟨o, e, fun v z => by rw [d] at z; cases z⟩
  keep := fun i h h' st k => st.at fun o e => k it (by simp) o e
  item := by
    intro X hP hw hK hc i pins s σ H E I hf st hg
    subst hP hw hK
    obtain ⟨xs, x, hq, hx⟩ := hg
    obtain ⟨its, rv, p, hz⟩ := I.list hq
    obtain ⟨u, hu, ru⟩ := rv.get hx
    obtain ⟨f0, f1, f2, f3, f4, f5⟩ := hf it (by simp)
    refine wpAny_pyNext_list_item st p.isList (x := u) (by simpa using hu) fun h' st' sb => ?_
    have I1 : Inv X pins σ H { s with heap := h' } := I.turned (t' := s.toks) (fun b o hb e => (sb.2 b hb).trans e) f0 f1 f3 f4 f5
    obtain ⟨o, e, c, d⟩ := id st'
    exact ⟨u, rfl, go_of (s := { s with heap := h' }) e c d (by decide) ⟨x, H, I1, ru, ⟨rfl, fun ys hy => by rw [I.list_inj hy hq]; exact hx⟩, st', fun b hb => (hf b hb).1⟩⟩
  done := by
    intro X hP hw hK hc i pins s σ H E I hf st hg
    subst hP hw hK
    obtain ⟨xs, hq, hx⟩ := hg
    obtain ⟨its, rv, p, hz⟩ := I.list hq
    obtain ⟨f0, f1, f2, f3, f4, f5⟩ := hf it (by simp)
    have hl := rv.length
    exact wpAny_pyNext_list_end (I.ok.hd hc) st p.isList (by simp; omega) fun h' eb => ⟨rfl, I.turned (t' := s.toks) (fun b o hb e => eb b o hb e) f0 f1 f3 f4 f5⟩
  self := fun _ _ _ _ _ st h => wpAny_pyIter_listiter st h
theorem turn_tuple {P : Program} {w : World} {K : PySem.W.Frag} {tg : Expr} (a it : Addr) : Turn P w K tg (Itt K a) [it] it (fun i h => h.IsTupleIter it a i) where
  mem := by simp
  obj := fun i h st b hb => by
    have e : b = it := by simpa using hb
    subst e
    obtain ⟨o, e, c, d⟩ := st
    exact ⟨o, e, fun v z => by rw [d] at z; cases z⟩
  keep := fun i h h' st k => st.at fun o e => k it (by simp) o e
  item := by
    intro X hP hw hK hc i pins s σ H E I hf st hg
    subst hP hw hK
    obtain ⟨xs, x, hq, hx⟩ := hg
    obtain ⟨its, rv, p, hz⟩ := I.tuple hq
    obtain ⟨u, hu, ru⟩ := rv.get hx
    obtain ⟨f0, f1, f2, f3, f4, f5⟩ := hf it (by simp)
    refine wpAny_pyNext_tuple_item st (show s.heap.IsTuple a its.toArray from p) (x := u) (by simpa using hu) fun h' st' sb => ?_
    have I1 : Inv X pins σ H { s with heap := h' } := I.turned (t' := s.toks) (fun b o hb e => (sb.2 b hb).trans e) f0 f1 f3 f4 f5
    obtain ⟨o, e, c, d⟩ := id st'
    exact ⟨u, rfl, go_of (s := { s with heap := h' }) e c d (by decide) ⟨x, H, I1, ru, ⟨rfl, fun ys hy => by rw [I.tuple_inj hy hq]; exact hx⟩, st', fun b hb => (hf b hb).1⟩⟩
  done := by
    intro X hP hw hK hc i pins s σ H E I hf st hg
    subst hP hw hK
    obtain ⟨xs, hq, hx⟩ := hg
    obtain ⟨its, rv, p, hz⟩ := I.tuple hq
    obtain ⟨f0, f1, f2, f3, f4, f5⟩ := hf it (by simp)
    have hl := rv.length
    exact wpAny_pyNext_tuple_end (I.ok.hd hc) st (show s.heap.IsTuple a its.toArray from p) (by simp; omega) fun h' eb => ⟨rfl, I.turned (t' := s.toks) (fun b o hb e => eb b o hb e) f0 f1 f3 f4 f5⟩
  self := fun _ _ _ _ _ st h => wpAny_pyIter_tupleiter st h
theorem turn_range {P : Program} {w : World} {K : PySem.W.Frag} {tg : Expr} (it : Addr) (lo : Int) (n : Nat) : Turn P w K tg (Itr lo n) [it] it (fun i h => IsRangeIter h it (lo + (i : Nat) * 1) ((n : Int) - (i : Nat)) 1) where
  mem := by simp
  obj := fun i h st b hb => by
    have e : b = it := by simpa using hb
    subst e
    exact ⟨_, st, fun v z => by
      have z' : Data.fields _ = Data.cell v := z
      cases z'⟩
  keep := fun i h h' st k => k it (by simp) _ st
  item := by
    intro X hP hw hK hc i pins s σ H E I hf st hg
    subst hP hw hK
    obtain ⟨f0, f1, f2, f3, f4, f5⟩ := hf it (by simp)
    have W := Walks.range (prog := X.prog) (w := X.w) (I.ok.hd hc) it lo 1 n
    refine W.item i s _ _ hg st fun v h' tk hv st' kk => ?_
    obtain ⟨t, rfl⟩ := hv
    have I1 : Inv X pins σ H { s with heap := h', toks := tk } := I.turned (fun b o hb e => kk b o (by simpa using hb) e) f0 f1 f3 f4 f5
    refine ⟨_, rfl, go_of (s := { s with heap := h', toks := tk }) (n := "range_iterator") st' rfl rfl (by decide) ⟨.int (lo + i), H, I1, ⟨t, ?_⟩, ⟨rfl, rfl⟩, st', fun b hb => (hf b hb).1⟩⟩
    rw [Int.mul_one]
  done := by
    intro X hP hw hK hc i pins s σ H E I hf st hg
    subst hP hw hK
    obtain ⟨f0, f1, f2, f3, f4, f5⟩ := hf it (by simp)
    exact wpAny_pyNext_range_end (I.ok.hd hc) st (by have : n ≤ i := hg; omega) fun h' eb => ⟨rfl, I.turned (t' := s.toks) (fun b o hb e => eb b o hb e) f0 f1 f3 f4 f5⟩
  self := fun _ _ _ _ _ st h => wpAny_pyIter_rangeiter st h
end L2
namespace L2
open PySem PySem.Spec PyProof.Rows
section
variable {X : Cx} {tg : Expr}
def iList (K : PySem.W.Frag) (tl : TE) : TI := fun σ H R => tl σ H fun x H1 => ∃ a, x = .ref a ∧ (∃ xs, SqL K H1 a xs) ∧ R (Itl K a) H1
def iTup (K : PySem.W.Frag) (tl : TE) : TI := fun σ H R => tl σ H fun x H1 => ∃ a, x = .ref a ∧ (∃ xs, SqT K H1 a xs) ∧ R (Itt K a) H1
theorem pi_list {l : Expr} {tl : TE} (hl : PE X l tl) : PI X tg l (iList X.K tl) := by
  intro pins s σ H R I h
  refine thn (hl pins s σ H _ I h) fun v s1 ⟨x, H1, I1, r1, q1⟩ => ?_
  obtain ⟨a, e, ⟨xs, hq⟩, q⟩ := q1
  subst e
  cases r1
  obtain ⟨its, rv, p, hz⟩ := I1.list hq
  refine wpAny_pyIter_list p.isList ?_
  refine ⟨s1.heap.objs.size, [s1.heap.objs.size], _, _, H1, rfl, I1.kept (t' := s1.toks) fun b o e => Heap.get?_push_of_some _ e, turn_list a _, ⟨_, Heap.get?_push_size _ rfl, rfl, rfl⟩, fun b hb => ?_, q⟩
  have e : b = s1.heap.objs.size := by simpa using hb
  subst e
  exact I1.fpOk (Nat.le_refl _) (I1.hok.fresh (Nat.le_refl _))
theorem pi_tup {l : Expr} {tl : TE} (hl : PE X l tl) : PI X tg l (iTup X.K tl) := by
  intro pins s σ H R I h
  refine thn (hl pins s σ H _ I h) fun v s1 ⟨x, H1, I1, r1, q1⟩ => ?_
  obtain ⟨a, e, ⟨xs, hq⟩, q⟩ := q1
  subst e
  cases r1
  obtain ⟨its, rv, p, hz⟩ := I1.tuple hq
  refine wpAny_pyIter_tuple (show s1.heap.IsTuple a its.toArray from p) ?_
  refine ⟨s1.heap.objs.size, [s1.heap.objs.size], _, _, H1, rfl, I1.kept (t' := s1.toks) fun b o e => Heap.get?_push_of_some _ e, turn_tuple a _, ⟨_, Heap.get?_push_size _ rfl, rfl, rfl⟩, fun b hb => ?_, q⟩
  have e : b = s1.heap.objs.size := by simpa using hb
  subst e
  exact I1.fpOk (Nat.le_refl _) (I1.hok.fresh (Nat.le_refl _))
/-- a range object just made, walked -/
theorem range_it {pins : List (Addr × Obj)} {σ : St} {H : Hp} {s : Shared} {R : It → Hp → Prop} {E : Value → Shared → Prop} {lo hi : Int} {t u v : Tok} {tk : Nat} (I : Inv X pins σ H s) (h1 : -(2 ^ 62) ≤ lo) (h2 : lo < 2 ^ 62) (h3 : -(2 ^ 62) ≤ hi) (h4 : hi < 2 ^ 62)
    (q : R (Itr lo (hi - lo).toNat) H) : wpAny (model X.prog X.w) X.A (pyIter (.ref s.heap.objs.size)) (PIE X pins σ tg R) E { s with heap := s.heap.push { cls := .type "range", data := .fields #[.int lo t, .int hi u, .int 1 v] }, toks := tk } := by
  refine wpAny_pyIter_range (IsRange.new ..) (small_one h1 h2 h3 h4) ?_
  have I1 : Inv X pins σ H { s with heap := s.heap.push { cls := .type "range", data := .fields #[.int lo t, .int hi u, .int 1 v] }, toks := tk } := I.kept fun b o e => Heap.get?_push_of_some _ e
  refine ⟨(s.heap.push { cls := .type "range", data := .fields #[.int lo t, .int hi u, .int 1 v] }).objs.size, [(s.heap.push { cls := .type "range", data := .fields #[.int lo t, .int hi u, .int 1 v] }).objs.size], _, _, H, rfl,
    I1.kept (t' := tk) fun b o e => Heap.get?_push_of_some _ e, turn_range _ lo (hi - lo).toNat, ?_, fun b hb => ?_, q⟩
  · have e1 : lo + ((0 : Nat) : Int) * 1 = lo := by simp
    have e2 : (((hi - lo).toNat : Nat) : Int) - ((0 : Nat) : Int) = Builtin.Range.rangeSize lo hi 1 := by rw [rangeSize_one]; split <;> omega
    show IsRangeIter _ _ (lo + ((0 : Nat) : Int) * 1) ((((hi - lo).toNat : Nat) : Int) - ((0 : Nat) : Int)) 1
    rw [e1, e2]
    exact Heap.get?_push_size _ rfl
  · have e : b = (s.heap.push { cls := .type "range", data := .fields #[.int lo t, .int hi u, .int 1 v] }).objs.size := by simpa using hb
    subst e
    exact I1.fpOk (Nat.le_refl _) (I1.hok.fresh (Nat.le_refl _))
def iRng1 (ta : TA) : TI := fun σ H R => ta σ H fun vs H1 => ∃ j : Int, vs = [.int j] ∧ -(2 ^ 62) ≤ j ∧ j < 2 ^ 62 ∧ R (Itr 0 j.toNat) H1
def iRng2 (ta : TA) : TI := fun σ H R => ta σ H fun vs H1 => ∃ i j : Int, vs = [.int i, .int j] ∧ (-(2 ^ 62) ≤ i ∧ i < 2 ^ 62 ∧ -(2 ^ 62) ≤ j ∧ j < 2 ^ 62) ∧ R (Itr i (j - i).toNat) H1
theorem pi_range1 {a : Expr} {ta : TA} {p pos : Pos} (hg : Gl X "range") (hm : X.mg "range" = none) (ha : PA X [a] ta) (hs : starEach [a] X.env = [(false, eval a X.env)] := by rfl) : PI X tg (.Call (.Name "range" p) [a] [] pos) (iRng1 ta) := by
  intro pins s σ H R I h
  refine Call_ (ld_blt I hg hm boot_range (PyProof.Rows.callWith_type1 (thn (ha pos pins s σ H _ I h) fun us s1 ⟨vs, H1, I1, r1, q1⟩ => ?_) hs rfl))
  obtain ⟨j, e, q1, q2, q⟩ := q1
  subst e
  cases r1 with
  | cons r rr =>
    cases rr
    obtain ⟨t, rfl⟩ := r
    exact call_range_1 (range_it I1 (by omega) (by omega) q1 q2 (by simpa using q))
theorem pi_range2 {a b : Expr} {ta : TA} {p pos : Pos} (hg : Gl X "range") (hm : X.mg "range" = none) (ha : PA X [a, b] ta) (hs : starEach [a, b] X.env = [(false, eval a X.env), (false, eval b X.env)] := by rfl) (hs2 : starEach [b] X.env = [(false, eval b X.env)] := by rfl) :
    PI X tg (.Call (.Name "range" p) [a, b] [] pos) (iRng2 ta) := by
  intro pins s σ H R I h
  refine Call_ (ld_blt I hg hm boot_range (PyProof.Rows.callWith_type1 (thn (ha pos pins s σ H _ I h) fun us s1 ⟨vs, H1, I1, r1, q1⟩ => ?_) (by rw [hs, hs2]) (by rw [hs2]; rfl)))
  obtain ⟨i, j, e, ⟨q1, q2, q3, q4⟩, q⟩ := q1
  subst e
  cases r1 with
  | cons r rr =>
    cases rr with
    | cons r' rr =>
      cases rr
      obtain ⟨t, rfl⟩ := r
      obtain ⟨t', rfl⟩ := r'
      exact call_range_2 (range_it I1 q1 q2 q3 q4 q)

/-! ### for -/
/-- W: the invariant by the turn and a measure; N: what the body is to reach -/
def tFor (wi : TI) (g : TG) (tb : TS) : TS := fun D σ H => wi σ H fun J H1 => ∃ W : Nat → Nat → St → Hp → Prop, (∃ m, W 0 m σ H1) ∧ ∀ i m σ H, W i m σ H →
  (J.stop i H ∧ D.nx σ H) ∨ (J.go i H ∧ ∃ N : St → Hp → Prop, (∀ σ' H', N σ' H' → ∃ m', m' < m ∧ W (i + 1) m' σ' H') ∧ ∀ x H', J.yld i H x H' → g x σ H' fun σ2 H2 => tb { D with nx := N, ct := N, bk := D.nx } σ2 H2)
/-- the records at fp as they stand -/
def pinsAt (fp : List Addr) (h : Heap) : List (Addr × Obj) := fp.filterMap fun b => (h.get? b).map fun o => (b, o)
theorem mem_pinsAt {fp : List Addr} {h : Heap} {b : Addr} {o : Obj} (hb : b ∈ fp) (e : h.get? b = some o) : (b, o) ∈ pinsAt fp h := List.mem_filterMap.mpr ⟨b, hb, by rw [e]; rfl⟩
theorem of_pinsAt {fp : List Addr} {h : Heap} {p : Addr × Obj} (hp : p ∈ pinsAt fp h) : p.1 ∈ fp ∧ h.get? p.1 = some p.2 := by
  obtain ⟨b, hb, e⟩ := List.mem_filterMap.mp hp
  cases q : h.get? b with
  | none => rw [q] at e; cases e
  | some o =>
    rw [q] at e
    have e' : (b, o) = p := Option.some.inj e
    subst e'
    exact ⟨hb, q⟩
theorem Inv.pinned {pins : List (Addr × Obj)} {σ : St} {H : Hp} {s : Shared} {fp : List Addr} (I : Inv X pins σ H s) (hf : ∀ b ∈ fp, FpOk X pins H b) (ho : ∀ b ∈ fp, ∃ o, s.heap.get? b = some o ∧ ∀ v, o.data ≠ .cell v) : Inv X (pins ++ pinsAt fp s.heap) σ H s :=
  I.pins_of fun p hp => (List.mem_append.mp hp).elim (fun z => I.pin p (List.mem_append_right _ z)) fun z => by
    obtain ⟨hb, e⟩ := of_pinsAt z
    obtain ⟨f0, f1, f2, _⟩ := hf p.1 hb
    obtain ⟨o, e', d⟩ := ho p.1 hb
    rw [e] at e'; cases e'
    exact ⟨e, f0, f1, f2, d⟩
theorem Inv.unpinned {pins pl : List (Addr × Obj)} {σ : St} {H : Hp} {s : Shared} (I : Inv X (pins ++ pl) σ H s) : Inv X pins σ H s := I.pins_of fun p hp => I.pin p (List.mem_append_right _ (List.mem_append_left _ hp))
theorem ps_for {iter : Expr} {body : List Stmt} {wi : TI} {g : TG} {tb : TS} {pos : Pos} (hp : PassesOwn (model X.prog X.w) X.A X.env X.xe) (hc : X.calm = true) (hi : PI X tg iter wi) (hg : PG X tg g) (hb : PSs X body tb)
    (hs : ∀ x, foldedSetIterable iter X.env x = pure x := by intro _; rfl) : PS X (.For tg iter body [] pos) (tFor wi g tb) := by
  intro pins s σ H D I h
  refine wpAny_For (thn (hi pins s σ H _ I h) fun v s1 h1 => thn h1 fun itv s2 h2 => ?_) hs
  obtain ⟨it, fp, tn, J, H2, e, I2, T, st2, f2, W, ⟨m0, w0⟩, turn⟩ := h2
  subst e
  -- what stays true of the iterator's objects through the loop
  have stat : ∀ {H' : Hp}, (∀ b ∈ fp, H' b = none) → ∀ b ∈ fp, FpOk X pins H' b := fun hn b hb => ⟨hn b hb, (f2 b hb).2⟩
  refine codeAny_forLoop_any (fun n s' => ∃ i σ' H', Inv X pins σ' H' s' ∧ tn i s'.heap ∧ (∀ b ∈ fp, H' b = none) ∧ W i n σ' H') ?_ m0 ⟨0, σ, H2, I2, st2, fun b hb => (f2 b hb).1, w0⟩
  rintro n s3 ⟨i, σ3, H3, I3, st3, fr3, w3⟩
  rcases turn i n σ3 H3 w3 with ⟨stop, qn⟩ | ⟨go, N, hN, step⟩
  · refine wpAny_passesOwn hp (thn (T.done X rfl rfl rfl hc i pins s3 σ3 H3 X.xe I3 (stat fr3) st3 stop) fun r s4 ⟨hr, I4⟩ => ?_)
    subst hr
    exact wpAny_execs_nil ⟨σ3, H3, I4, qn⟩
  · refine wpAny_passesOwn hp (thn (T.item X rfl rfl rfl hc i pins s3 σ3 H3 X.xe I3 (stat fr3) st3 go) fun r s4 ⟨u, hr, h4⟩ => ?_)
    subst hr
    refine wpAny_passesOwn hp (thn h4 fun _ s5 ⟨x, H5, I5, r5, y5, st5, fr5⟩ => ?_)
    have I5' := I5.pinned (stat fr5) (T.obj _ _ st5)
    refine wpAny_passesOwn hp (thn (hg _ s5 σ3 H5 x u _ I5' r5 (step x H5 y5)) fun _ s6 ⟨σ6, H6, I6, q6⟩ => ?_)
    refine wpAny_passesOwn hp (thn (hb _ s6 σ6 H6 _ I6 q6) fun f s7 q7 => ?_)
    have again : ∀ {σ7 : St} {H7 : Hp}, Inv X (pins ++ pinsAt fp s5.heap) σ7 H7 s7 → N σ7 H7 → ∃ m, m < n ∧ ∃ i σ' H', Inv X pins σ' H' s7 ∧ tn i s7.heap ∧ (∀ b ∈ fp, H' b = none) ∧ W i m σ' H' := fun {σ7 H7} I7 n7 => by
      obtain ⟨m', hm, w7⟩ := hN σ7 H7 n7
      refine ⟨m', hm, i + 1, σ7, H7, I7.unpinned, T.keep _ _ _ st5 fun b hb o e => (I7.pin (b, o) (List.mem_append_right _ (List.mem_append_right _ (mem_pinsAt hb e)))).1, fun b hb => ?_, w7⟩
      obtain ⟨o, e, d⟩ := T.obj _ _ st5 b hb
      exact (I7.pin (b, o) (List.mem_append_right _ (List.mem_append_right _ (mem_pinsAt hb e)))).2.1
    cases f with
    | next => obtain ⟨σ7, H7, I7, n7⟩ := q7; exact again I7 n7
    | cont => obtain ⟨σ7, H7, I7, n7⟩ := q7; exact again I7 n7
    | brk => obtain ⟨σ7, H7, I7, q7⟩ := q7; exact ⟨σ7, H7, I7.unpinned, q7⟩
    | ret v => obtain ⟨x7, σ7, H7, I7, r7, q7⟩ := q7; exact ⟨x7, σ7, H7, I7.unpinned, r7, q7⟩
end

/-! ### the forms one uses -/
/-- over a list that the body leaves as it is -/
theorem for_list {K : PySem.W.Frag} {a : Addr} {xs : List V} {g : TG} {tb : TS} {D : Ends} {σ : St} {H : Hp} (Pv : Nat → St → Hp → Prop) (h0 : Pv 0 σ H) (hl : ∀ i σ H, i ≤ xs.length → Pv i σ H → SqL K H a xs)
    (hs : ∀ i x σ H, xs[i]? = some x → Pv i σ H → g x σ H fun σ2 H2 => tb { D with nx := Pv (i + 1), ct := Pv (i + 1), bk := D.nx } σ2 H2) (hd : ∀ σ H, Pv xs.length σ H → D.nx σ H) :
    ∃ W : Nat → Nat → St → Hp → Prop, (∃ m, W 0 m σ H) ∧ ∀ i m σ H, W i m σ H →
      ((Itl K a).stop i H ∧ D.nx σ H) ∨ ((Itl K a).go i H ∧ ∃ N : St → Hp → Prop, (∀ σ' H', N σ' H' → ∃ m', m' < m ∧ W (i + 1) m' σ' H') ∧ ∀ x H', (Itl K a).yld i H x H' → g x σ H' fun σ2 H2 => tb { D with nx := N, ct := N, bk := D.nx } σ2 H2) := by
  refine ⟨fun i m σ H => m = xs.length - i ∧ i ≤ xs.length ∧ Pv i σ H, ⟨xs.length, by simp, Nat.zero_le _, h0⟩, ?_⟩
  rintro i m σ H ⟨rfl, hi, p⟩
  have q := hl i σ H hi p
  by_cases hlt : i < xs.length
  · refine .inr ⟨⟨xs, xs[i], q, by simp [hlt]⟩, Pv (i + 1), fun σ' H' p' => ⟨xs.length - (i + 1), by omega, rfl, hlt, p'⟩, fun x H' y => ?_⟩
    obtain ⟨e, y⟩ := y
    subst e
    exact hs i x σ _ (y xs q) p
  · have e : i = xs.length := by omega
    subst e
    exact .inl ⟨⟨xs, q, Nat.le_refl _⟩, hd σ H p⟩
theorem for_tup {K : PySem.W.Frag} {a : Addr} {xs : List V} {g : TG} {tb : TS} {D : Ends} {σ : St} {H : Hp} (Pv : Nat → St → Hp → Prop) (h0 : Pv 0 σ H) (hl : ∀ i σ H, i ≤ xs.length → Pv i σ H → SqT K H a xs)
    (hs : ∀ i x σ H, xs[i]? = some x → Pv i σ H → g x σ H fun σ2 H2 => tb { D with nx := Pv (i + 1), ct := Pv (i + 1), bk := D.nx } σ2 H2) (hd : ∀ σ H, Pv xs.length σ H → D.nx σ H) :
    ∃ W : Nat → Nat → St → Hp → Prop, (∃ m, W 0 m σ H) ∧ ∀ i m σ H, W i m σ H →
      ((Itt K a).stop i H ∧ D.nx σ H) ∨ ((Itt K a).go i H ∧ ∃ N : St → Hp → Prop, (∀ σ' H', N σ' H' → ∃ m', m' < m ∧ W (i + 1) m' σ' H') ∧ ∀ x H', (Itt K a).yld i H x H' → g x σ H' fun σ2 H2 => tb { D with nx := N, ct := N, bk := D.nx } σ2 H2) := by
  refine ⟨fun i m σ H => m = xs.length - i ∧ i ≤ xs.length ∧ Pv i σ H, ⟨xs.length, by simp, Nat.zero_le _, h0⟩, ?_⟩
  rintro i m σ H ⟨rfl, hi, p⟩
  have q := hl i σ H hi p
  by_cases hlt : i < xs.length
  · refine .inr ⟨⟨xs, xs[i], q, by simp [hlt]⟩, Pv (i + 1), fun σ' H' p' => ⟨xs.length - (i + 1), by omega, rfl, hlt, p'⟩, fun x H' y => ?_⟩
    obtain ⟨e, y⟩ := y
    subst e
    exact hs i x σ _ (y xs q) p
  · have e : i = xs.length := by omega
    subst e
    exact .inl ⟨⟨xs, q, Nat.le_refl _⟩, hd σ H p⟩
theorem for_range {lo : Int} {n : Nat} {g : TG} {tb : TS} {D : Ends} {σ : St} {H : Hp} (Pv : Nat → St → Hp → Prop) (h0 : Pv 0 σ H)
    (hs : ∀ i σ H, i < n → Pv i σ H → g (.int (lo + i)) σ H fun σ2 H2 => tb { D with nx := Pv (i + 1), ct := Pv (i + 1), bk := D.nx } σ2 H2) (hd : ∀ σ H, Pv n σ H → D.nx σ H) :
    ∃ W : Nat → Nat → St → Hp → Prop, (∃ m, W 0 m σ H) ∧ ∀ i m σ H, W i m σ H →
      ((Itr lo n).stop i H ∧ D.nx σ H) ∨ ((Itr lo n).go i H ∧ ∃ N : St → Hp → Prop, (∀ σ' H', N σ' H' → ∃ m', m' < m ∧ W (i + 1) m' σ' H') ∧ ∀ x H', (Itr lo n).yld i H x H' → g x σ H' fun σ2 H2 => tb { D with nx := N, ct := N, bk := D.nx } σ2 H2) := by
  refine ⟨fun i m σ H => m = n - i ∧ i ≤ n ∧ Pv i σ H, ⟨n, by simp, Nat.zero_le _, h0⟩, ?_⟩
  rintro i m σ H ⟨rfl, hi, p⟩
  by_cases hlt : i < n
  · refine .inr ⟨hlt, Pv (i + 1), fun σ' H' p' => ⟨n - (i + 1), by omega, rfl, hlt, p'⟩, fun x H' y => ?_⟩
    obtain ⟨e, y⟩ := y
    subst e y
    exact hs i σ _ hlt p
  · have e : i = n := by omega
    subst e
    exact .inl ⟨Nat.le_refl _, hd σ H p⟩
/-- while, by a word and a measure of the state -/
theorem while_by {c : TT} {tb : TS} {D : Ends} {σ : St} {H : Hp} (Pv : St → Hp → Prop) (μ : St → Hp → Nat) (h0 : Pv σ H)
    (hs : ∀ σ H, Pv σ H → c σ H fun b H1 => if b = true then tb { D with nx := fun σ' H' => Pv σ' H' ∧ μ σ' H' < μ σ H, ct := fun σ' H' => Pv σ' H' ∧ μ σ' H' < μ σ H, bk := D.nx } σ H1 else D.nx σ H1)
    (mono : ∀ σ H Q Q', (∀ b H1, Q b H1 → Q' b H1) → c σ H Q → c σ H Q') : tWhile c tb D σ H := by
  refine ⟨fun m σ H => m = μ σ H ∧ Pv σ H, ⟨_, rfl, h0⟩, ?_⟩
  rintro m σ H ⟨rfl, p⟩
  refine mono σ H _ _ (fun b H1 q => ?_) (hs σ H p)
  cases b with
  | true => exact ⟨_, fun σ' H' ⟨p', l⟩ => ⟨_, l, rfl, p'⟩, q⟩
  | false => exact q
end L2
namespace L2
open PySem PySem.Spec PyProof.Rows

abbrev R2 := V → V → Hp → VK → Prop
/-- a two-place operation on values: f is binaryOp op, inplaceOp op or compareOp op -/
def OpR (X : Cx) (f : Value → Value → Sem Value) (r : R2) : Prop :=
  ∀ (pins : List (Addr × Obj)) (s : Shared) (σ : St) (H : Hp) (x y : V) (v u : Value) (Q : VK), Inv X pins σ H s → RelV x v → RelV y u → r x y H Q →
    wpAny (model X.prog X.w) X.A (f v u) (EP X pins σ Q) X.xe s
/-- a one-place operation -/
def UnR (X : Cx) (f : Value → Sem Value) (r : V → Hp → VK → Prop) : Prop :=
  ∀ (pins : List (Addr × Obj)) (s : Shared) (σ : St) (H : Hp) (x : V) (v : Value) (Q : VK), Inv X pins σ H s → RelV x v → r x H Q →
    wpAny (model X.prog X.w) X.A (f v) (EP X pins σ Q) X.xe s
/-- a call of a value that is known (a builtin, a type) with values -/
def CallR (X : Cx) (f : Value) (r : List V → Hp → VK → Prop) : Prop :=
  ∀ (pins : List (Addr × Obj)) (s : Shared) (σ : St) (H : Hp) (xs : List V) (us : List Value) (Q : VK), Inv X pins σ H s → Vals xs us → r xs H Q →
    wpAny (model X.prog X.w) X.A (call f us) (EP X pins σ Q) X.xe s
/-- a value's truth -/
def TruR (X : Cx) (r : V → Hp → (Bool → Hp → Prop) → Prop) : Prop :=
  ∀ (pins : List (Addr × Obj)) (s : Shared) (σ : St) (H : Hp) (x : V) (v : Value) (Q : Bool → Hp → Prop), Inv X pins σ H s → RelV x v → r x H Q →
    wpAny (model X.prog X.w) X.A (truthy v) (TP X pins σ Q) X.xe s

def tOp (r : R2) (ta tb : TE) : TE := fun σ H Q => ta σ H fun x H1 => tb σ H1 fun y H2 => r x y H2 Q
def tUn (r : V → Hp → VK → Prop) (ta : TE) : TE := fun σ H Q => ta σ H fun x H1 => r x H1 Q
/-- ints in, under C, and a value out -/
def rI (C : Int → Int → Prop) (g : Int → Int → V) : R2 := fun x y H Q => ∃ i j, x = .int i ∧ y = .int j ∧ C i j ∧ Q (g i j) H
def rI0 (g : Int → Int → V) : R2 := fun x y H Q => ∃ i j, x = .int i ∧ y = .int j ∧ Q (g i j) H
def rU (g : Int → V) : V → Hp → VK → Prop := fun x H Q => ∃ i, x = .int i ∧ Q (g i) H

section
variable {X : Cx} {a b c : Expr} {ta tb tc : TE} {pos : Pos}

theorem binT (ha : PE X a ta) (hb : PE X b tb) {pins : List (Addr × Obj)} {s : Shared} {σ : St} {H : Hp} {R : V → V → Hp → Prop} (I : Inv X pins σ H s)
    (h : ta σ H fun x H1 => tb σ H1 fun y H2 => R x y H2) {Q : Value → Shared → Prop} {f : Value → Value → Sem Value}
    (hf : ∀ v u s2 x y H2, Inv X pins σ H2 s2 → RelV x v → RelV y u → R x y H2 → wpAny (model X.prog X.w) X.A (f v u) Q X.xe s2) :
    wpAny (model X.prog X.w) X.A (eval a X.env) (fun v s₁ => wpAny (model X.prog X.w) X.A (eval b X.env) (fun u s₂ => wpAny (model X.prog X.w) X.A (f v u) Q X.xe s₂) X.xe s₁) X.xe s := by
  refine thn (ha pins s σ H _ I h) fun v s1 ⟨x, H1, I1, r1, q1⟩ => ?_
  refine thn (hb pins s1 σ H1 _ I1 q1) fun u s2 ⟨y, H2, I2, r2, q2⟩ => ?_
  exact hf v u s2 x y H2 I2 r1 r2 q2

theorem pe_op {op : Operator} {r : R2} (ho : OpR X (binaryOp op) r) (ha : PE X a ta) (hb : PE X b tb) : PE X (.BinOp a op b pos) (tOp r ta tb) := by
  intro pins s σ H Q I h
  exact wpAny_BinOp (binT ha hb I h fun v u s2 x y H2 I2 rx ry q => ho pins s2 σ H2 x y v u Q I2 rx ry q)
theorem pe_un {op : UnaryOp} {r : V → Hp → VK → Prop} (ho : UnR X (unaryOp op) r) (ha : PE X a ta) : PE X (.UnaryOp op a pos) (tUn r ta) := by
  intro pins s σ H Q I h
  exact UnaryOp_ (thn (ha pins s σ H _ I h) fun v s1 ⟨x, H1, I1, r1, q1⟩ => ho pins s1 σ H1 x v Q I1 r1 q1)
/-- a op= e at a name: the name's slot i -/
theorem augR {op : Operator} {r : R2} (ho : OpR X (inplaceOp op) r) {pins : List (Addr × Obj)} {s : Shared} {σ : St} {H : Hp} {x y : V} {v u : Value} {Q : VK} (I : Inv X pins σ H s)
    (rx : RelV x v) (ry : RelV y u) (q : r x y H Q) : wpAny (model X.prog X.w) X.A (inplaceOp op v u) (EP X pins σ Q) X.xe s := ho pins s σ H x y v u Q I rx ry q

/-! ### ints -/
theorem opI {f : Value → Value → Sem Value} {C : Int → Int → Prop} {g : Int → Int → Int}
    (rule : ∀ (i j : Int) (t u : Tok) (s : Shared) (Q : Value → Shared → Prop) (E : Value → Shared → Prop), C i j → Q (.int (g i j) s.toks) { s with toks := s.toks + 1 } → wpAny (model X.prog X.w) X.A (f (.int i t) (.int j u)) Q E s) :
    OpR X f (rI C fun i j => .int (g i j)) := by
  intro pins s σ H x y v u Q I rx ry h
  obtain ⟨i, j, rfl, rfl, hc, q⟩ := h
  obtain ⟨t, rfl⟩ := rx
  obtain ⟨t', rfl⟩ := ry
  exact rule i j t t' s _ _ hc ⟨.int (g i j), H, I.tok _, ⟨_, rfl⟩, q⟩
theorem opI0 {f : Value → Value → Sem Value} {g : Int → Int → Int}
    (rule : ∀ (i j : Int) (t u : Tok) (s : Shared) (Q : Value → Shared → Prop) (E : Value → Shared → Prop), Q (.int (g i j) s.toks) { s with toks := s.toks + 1 } → wpAny (model X.prog X.w) X.A (f (.int i t) (.int j u)) Q E s) :
    OpR X f (rI0 fun i j => .int (g i j)) := by
  intro pins s σ H x y v u Q I rx ry h
  obtain ⟨i, j, rfl, rfl, q⟩ := h
  obtain ⟨t, rfl⟩ := rx
  obtain ⟨t', rfl⟩ := ry
  exact rule i j t t' s _ _ ⟨.int (g i j), H, I.tok _, ⟨_, rfl⟩, q⟩
theorem opB0 {f : Value → Value → Sem Value} {g : Int → Int → Bool}
    (rule : ∀ (i j : Int) (t u : Tok) (s : Shared) (Q : Value → Shared → Prop) (E : Value → Shared → Prop), Q (.bool (g i j)) s → wpAny (model X.prog X.w) X.A (f (.int i t) (.int j u)) Q E s) :
    OpR X f (rI0 fun i j => .bl (g i j)) := by
  intro pins s σ H x y v u Q I rx ry h
  obtain ⟨i, j, rfl, rfl, q⟩ := h
  obtain ⟨t, rfl⟩ := rx
  obtain ⟨t', rfl⟩ := ry
  exact rule i j t t' s _ _ ⟨.bl (g i j), H, I, rfl, q⟩

def CDiv (i j : Int) : Prop := 0 < j ∧ j < 1073741824
def CDivN (i j : Int) : Prop := j ≠ 0 ∧ j.natAbs < 1073741824
def CPow (i j : Int) : Prop := 0 ≤ j ∧ j ≤ 1000000 ∧ i.natAbs < 2 ^ 64
def CMul (i j : Int) : Prop := (-(2 ^ 64) < i ∧ i < 2 ^ 64) ∨ (-(2 ^ 64) < j ∧ j < 2 ^ 64)
theorem CMul.ok {i j : Int} (h : CMul i j) : IntMulOk i j := by
  rcases h with ⟨h1, h2⟩ | ⟨h1, h2⟩
  · exact .of_left (intBits_le_64 h1 h2)
  · exact .of_right (intBits_le_64 h1 h2)
theorem two_pow_nn (k : Nat) : (0 : Int) ≤ 2 ^ k := by
  rw [two_pow_cast]
  exact Int.natCast_nonneg _

theorem op_add : OpR X (binaryOp .Add) (rI0 fun i j => .int (i + j)) := opI0 fun _ _ _ _ _ _ _ q => add_int q
theorem op_sub : OpR X (binaryOp .Sub) (rI0 fun i j => .int (i - j)) := opI0 fun _ _ _ _ _ _ _ q => sub_int q
theorem op_mul : OpR X (binaryOp .Mult) (rI CMul fun i j => .int (i * j)) := opI fun _ _ _ _ _ _ _ hc q => mul_int q hc.ok
/-- // by a positive divisor -/
theorem op_fdiv : OpR X (binaryOp .FloorDiv) (rI CDiv fun i j => .int (i / j)) := opI fun i j _ _ _ _ _ hc q => by
  have h1 : (0 : Int) < j := hc.1
  have h2 : j < 1073741824 := hc.2
  exact floordiv_int (by omega) (by rw [Int.fdiv_eq_ediv_of_nonneg i (by omega)]; exact q) (.inl (PyProof.noPylong_small (by omega)))
theorem op_fdivN : OpR X (binaryOp .FloorDiv) (rI CDivN fun i j => .int (i.fdiv j)) := opI fun _ _ _ _ _ _ _ hc q => floordiv_int hc.1 q (.inl (PyProof.noPylong_small hc.2))
/-- % by a positive divisor of any size -/
theorem op_mod : OpR X (binaryOp .Mod) (rI (fun _ j => 0 < j) fun i j => .int (i % j)) := opI fun i j _ _ _ _ _ hc q => by
  have h1 : (0 : Int) < j := hc
  exact mod_int' (by omega) (by rw [Int.fmod_eq_emod_of_nonneg i (by omega)]; exact q)
theorem op_modN : OpR X (binaryOp .Mod) (rI (fun _ j => j ≠ 0) fun i j => .int (i.fmod j)) := opI fun _ _ _ _ _ _ _ hc q => mod_int' hc q
theorem op_pow : OpR X (binaryOp .Pow) (rI CPow fun i j => .int (i ^ j.toNat)) := opI fun _ _ _ _ _ _ _ hc q => pow_int_small hc.1 hc.2.1 hc.2.2 q
theorem op_shl : OpR X (binaryOp .LShift) (rI CPow fun i j => .int (i * 2 ^ j.toNat)) := opI fun _ _ _ _ _ _ _ hc q => lshift_int_small hc.1 hc.2.1 hc.2.2 q
theorem op_shr : OpR X (binaryOp .RShift) (rI (fun _ j => 0 ≤ j) fun i j => .int (i / 2 ^ j.toNat)) := opI fun i j _ _ _ _ _ hc q =>
  rshift_int hc (by rw [Int.fdiv_eq_ediv_of_nonneg i (two_pow_nn _)]; exact q)
theorem op_and : OpR X (binaryOp .BitAnd) (rI0 fun i j => .int (Builtin.bitAnd i j)) := opI0 fun _ _ _ _ _ _ _ q => and_int q
theorem op_or : OpR X (binaryOp .BitOr) (rI0 fun i j => .int (Builtin.bitOr i j)) := opI0 fun _ _ _ _ _ _ _ q => or_int q
theorem op_xor : OpR X (binaryOp .BitXor) (rI0 fun i j => .int (Builtin.bitXor i j)) := opI0 fun _ _ _ _ _ _ _ q => xor_int q

theorem iop_add : OpR X (inplaceOp .Add) (rI0 fun i j => .int (i + j)) := opI0 fun _ _ _ _ _ _ _ q => iadd_int q
theorem iop_sub : OpR X (inplaceOp .Sub) (rI0 fun i j => .int (i - j)) := opI0 fun _ _ _ _ _ _ _ q => isub_int q
theorem iop_mul : OpR X (inplaceOp .Mult) (rI CMul fun i j => .int (i * j)) := opI fun _ _ _ _ _ _ _ hc q => imul_int q hc.ok
theorem iop_fdiv : OpR X (inplaceOp .FloorDiv) (rI CDiv fun i j => .int (i / j)) := opI fun i j _ _ _ _ _ hc q => by
  have h1 : (0 : Int) < j := hc.1
  have h2 : j < 1073741824 := hc.2
  exact ifloordiv_int (by omega) (by rw [Int.fdiv_eq_ediv_of_nonneg i (by omega)]; exact q) (.inl (PyProof.noPylong_small (by omega)))
theorem iop_mod : OpR X (inplaceOp .Mod) (rI (fun _ j => 0 < j) fun i j => .int (i % j)) := opI fun i j _ _ _ _ _ hc q => by
  have h1 : (0 : Int) < j := hc
  exact imod_int (by omega) (by rw [Int.fmod_eq_emod_of_nonneg i (by omega)]; exact q)
theorem iop_shl : OpR X (inplaceOp .LShift) (rI CPow fun i j => .int (i * 2 ^ j.toNat)) := opI fun _ _ _ _ _ _ _ hc q => ilshift_int_small hc.1 hc.2.1 hc.2.2 q
theorem iop_shr : OpR X (inplaceOp .RShift) (rI (fun _ j => 0 ≤ j) fun i j => .int (i / 2 ^ j.toNat)) := opI fun i j _ _ _ _ _ hc q =>
  irshift_int hc (by rw [Int.fdiv_eq_ediv_of_nonneg i (two_pow_nn _)]; exact q)
theorem iop_and : OpR X (inplaceOp .BitAnd) (rI0 fun i j => .int (Builtin.bitAnd i j)) := opI0 fun _ _ _ _ _ _ _ q => iand_int q
theorem iop_or : OpR X (inplaceOp .BitOr) (rI0 fun i j => .int (Builtin.bitOr i j)) := opI0 fun _ _ _ _ _ _ _ q => ior_int q
theorem iop_xor : OpR X (inplaceOp .BitXor) (rI0 fun i j => .int (Builtin.bitXor i j)) := opI0 fun _ _ _ _ _ _ _ q => ixor_int q

theorem unI {f : Value → Sem Value} {g : Int → Int}
    (rule : ∀ (i : Int) (t : Tok) (s : Shared) (Q : Value → Shared → Prop) (E : Value → Shared → Prop), Q (.int (g i) s.toks) { s with toks := s.toks + 1 } → wpAny (model X.prog X.w) X.A (f (.int i t)) Q E s) :
    UnR X f (rU fun i => .int (g i)) := by
  intro pins s σ H x v Q I rx h
  obtain ⟨i, rfl, q⟩ := h
  obtain ⟨t, rfl⟩ := rx
  exact rule i t s _ _ ⟨.int (g i), H, I.tok _, ⟨_, rfl⟩, q⟩
theorem un_neg : UnR X (unaryOp .USub) (rU fun i => .int (-i)) := unI fun _ _ _ _ _ q => neg_int q
theorem un_inv : UnR X (unaryOp .Invert) (rU fun i => .int (Builtin.bitNot i)) := unI fun _ _ _ _ _ q => invert_int q

/-! ### bools among ints: n += (a < b) -/
theorem op_add_ib : OpR X (binaryOp .Add) (fun x y H Q => ∃ i k, x = .int i ∧ y = .bl k ∧ Q (.int (i + b2i k)) H) := by
  intro pins s σ H x y v u Q I rx ry h
  obtain ⟨i, k, rfl, rfl, q⟩ := h
  obtain ⟨t, rfl⟩ := rx
  cases ry
  exact add_int_bool ⟨.int (i + b2i k), H, I.tok _, ⟨_, rfl⟩, q⟩
end

/-! ### comparisons -/
/-- the scalars that == tells apart as data does -/
def scal : V → V → Bool
  | .non, .non => true | .non, .int _ => true | .int _, .non => true | .non, .bl _ => true | .bl _, .non => true | .non, .str _ => true | .str _, .non => true
  | .int _, .int _ => true | .bl _, .bl _ => true | .str _, .str _ => true | .byt _, .byt _ => true
  | .int _, .str _ => true | .str _, .int _ => true | .bl _, .str _ => true | .str _, .bl _ => true
  | _, _ => false
def rEq : R2 := fun x y H Q => scal x y = true ∧ Q (.bl (decide (x = y))) H
def rNe : R2 := fun x y H Q => scal x y = true ∧ Q (.bl (!decide (x = y))) H

theorem dec_int {i j : Int} : decide (V.int i = V.int j) = (i == j) := by
  rw [Bool.eq_iff_iff]
  simp
theorem dec_bl {i j : Bool} : decide (V.bl i = V.bl j) = (i == j) := by
  rw [Bool.eq_iff_iff]
  simp
theorem dec_str {i j : Str} : decide (V.str i = V.str j) = (i == j) := by
  rw [Bool.eq_iff_iff]
  simp
theorem dec_byt {i j : Array UInt8} : decide (V.byt i = V.byt j) = (i.toList == j.toList) := by
  rw [Bool.eq_iff_iff]
  cases i
  cases j
  simp

section
variable {X : Cx} {a b c : Expr} {ta tb tc : TE} {pos : Pos}
theorem fin_bl {pins : List (Addr × Obj)} {σ : St} {H : Hp} {s : Shared} {Q : VK} {k k' : Bool} (I : Inv X pins σ H s) (q : Q (.bl k) H) (e : k = k') : EP X pins σ Q (.bool k') s := by
  subst e
  exact ⟨.bl k, H, I, rfl, q⟩
theorem op_eq : OpR X (compareOp .Eq) rEq := by
  intro pins s σ H x y v u Q I rx ry h
  obtain ⟨hs, q⟩ := h
  cases x with
  | non =>
    cases rx
    cases y with
    | non => cases ry; exact PySem.EqNone.eq_none_none (fin_bl I q (by simp))
    | bl j => cases ry; exact PySem.EqNone.eq_none_bool (fin_bl I q (by simp))
    | int j => obtain ⟨t', rfl⟩ := ry; exact PySem.EqNone.eq_none_int (fin_bl I q (by simp))
    | str j => obtain ⟨t', rfl⟩ := ry; exact PySem.EqNone.eq_none_str (fin_bl I q (by simp))
    | _ => exact absurd (show false = true from hs) Bool.false_ne_true
  | bl i =>
    cases rx
    cases y with
    | non => cases ry; exact PySem.EqNone.eq_bool_none (fin_bl I q (by simp))
    | bl j => cases ry; exact eq_bool (fin_bl I q dec_bl)
    | str j => obtain ⟨t', rfl⟩ := ry; exact PySem.EqMixed.eq_bool_str (fin_bl I q (by simp))
    | _ => exact absurd (show false = true from hs) Bool.false_ne_true
  | int i =>
    obtain ⟨t, rfl⟩ := rx
    cases y with
    | non => cases ry; exact PySem.EqNone.eq_int_none (fin_bl I q (by simp))
    | int j => obtain ⟨t', rfl⟩ := ry; exact eq_int (fin_bl I q dec_int)
    | str j => obtain ⟨t', rfl⟩ := ry; exact PySem.EqMixed.eq_int_str (fin_bl I q (by simp))
    | _ => exact absurd (show false = true from hs) Bool.false_ne_true
  | str i =>
    obtain ⟨t, rfl⟩ := rx
    cases y with
    | non => cases ry; exact PySem.EqNone.eq_str_none (fin_bl I q (by simp))
    | bl j => cases ry; exact PySem.EqMixed.eq_str_bool (fin_bl I q (by simp))
    | int j => obtain ⟨t', rfl⟩ := ry; exact PySem.EqMixed.eq_str_int (fin_bl I q (by simp))
    | str j => obtain ⟨t', rfl⟩ := ry; exact eq_str (fin_bl I q dec_str)
    | _ => exact absurd (show false = true from hs) Bool.false_ne_true
  | byt i =>
    obtain ⟨t, rfl⟩ := rx
    cases y with
    | byt j => obtain ⟨t', rfl⟩ := ry; exact PySem.W.eq_bytes (fin_bl I q dec_byt)
    | _ => exact absurd (show false = true from hs) Bool.false_ne_true
  | _ => cases y <;> exact absurd (show false = true from hs) Bool.false_ne_true
theorem op_ne : OpR X (compareOp .NotEq) rNe := by
  intro pins s σ H x y v u Q I rx ry h
  obtain ⟨hs, q⟩ := h
  cases x with
  | non =>
    cases rx
    cases y with
    | non => cases ry; exact PySem.EqNone.ne_none_none (fin_bl I q (by simp))
    | bl j => cases ry; exact PySem.EqNone.ne_none_bool (fin_bl I q (by simp))
    | int j => obtain ⟨t', rfl⟩ := ry; exact PySem.EqNone.ne_none_int (fin_bl I q (by simp))
    | str j => obtain ⟨t', rfl⟩ := ry; exact PySem.EqNone.ne_none_str (fin_bl I q (by simp))
    | _ => exact absurd (show false = true from hs) Bool.false_ne_true
  | bl i =>
    cases rx
    cases y with
    | non => cases ry; exact PySem.EqNone.ne_bool_none (fin_bl I q (by simp))
    | bl j => cases ry; exact ne_bool (fin_bl I q (congrArg not dec_bl))
    | str j => obtain ⟨t', rfl⟩ := ry; exact PySem.EqMixed.ne_bool_str (fin_bl I q (by simp))
    | _ => exact absurd (show false = true from hs) Bool.false_ne_true
  | int i =>
    obtain ⟨t, rfl⟩ := rx
    cases y with
    | non => cases ry; exact PySem.EqNone.ne_int_none (fin_bl I q (by simp))
    | int j => obtain ⟨t', rfl⟩ := ry; exact ne_int (fin_bl I q (congrArg not dec_int))
    | str j => obtain ⟨t', rfl⟩ := ry; exact PySem.EqMixed.ne_int_str (fin_bl I q (by simp))
    | _ => exact absurd (show false = true from hs) Bool.false_ne_true
  | str i =>
    obtain ⟨t, rfl⟩ := rx
    cases y with
    | non => cases ry; exact PySem.EqNone.ne_str_none (fin_bl I q (by simp))
    | bl j => cases ry; exact PySem.EqMixed.ne_str_bool (fin_bl I q (by simp))
    | int j => obtain ⟨t', rfl⟩ := ry; exact PySem.EqMixed.ne_str_int (fin_bl I q (by simp))
    | str j => obtain ⟨t', rfl⟩ := ry; exact ne_str (fin_bl I q (congrArg not dec_str))
    | _ => exact absurd (show false = true from hs) Bool.false_ne_true
  | byt i =>
    obtain ⟨t, rfl⟩ := rx
    cases y with
    | byt j => obtain ⟨t', rfl⟩ := ry; exact PySem.W.ne_bytes (fin_bl I q (congrArg not dec_byt))
    | _ => exact absurd (show false = true from hs) Bool.false_ne_true
  | _ => cases y <;> exact absurd (show false = true from hs) Bool.false_ne_true

theorem op_lt : OpR X (compareOp .Lt) (rI0 fun i j => .bl (decide (i < j))) := opB0 fun _ _ _ _ _ _ _ q => lt_int q
theorem op_le : OpR X (compareOp .LtE) (rI0 fun i j => .bl (decide (i ≤ j))) := opB0 fun _ _ _ _ _ _ _ q => le_int q
theorem op_gt : OpR X (compareOp .Gt) (rI0 fun i j => .bl (decide (j < i))) := opB0 fun _ _ _ _ _ _ _ q => gt_int q
theorem op_ge : OpR X (compareOp .GtE) (rI0 fun i j => .bl (decide (j ≤ i))) := opB0 fun _ _ _ _ _ _ _ q => ge_int q
theorem op_lt_str : OpR X (compareOp .Lt) (fun x y H Q => ∃ i j, x = .str i ∧ y = .str j ∧ Q (.bl (decide (i.cps.toList < j.cps.toList))) H) := by
  intro pins s σ H x y v u Q I rx ry h
  obtain ⟨i, j, rfl, rfl, q⟩ := h
  obtain ⟨t, rfl⟩ := rx
  obtain ⟨t', rfl⟩ := ry
  exact lt_str (fin_bl I q rfl)
/-- the one string within the other -/
theorem op_in_str : OpR X (compareOp .In) (fun x y H Q => ∃ i j, x = .str i ∧ y = .str j ∧ Q (.bl (!(Builtin.Str.occurrences j i 0 j.length 1).isEmpty)) H) := by
  intro pins s σ H x y v u Q I rx ry h
  obtain ⟨i, j, rfl, rfl, q⟩ := h
  obtain ⟨t, rfl⟩ := rx
  obtain ⟨t', rfl⟩ := ry
  exact in_str (fin_bl I q rfl)

/-- is None, is not None: the right side a value none -/
theorem op_isN : OpR X (compareOp .Is) (fun x y H Q => y = .non ∧ Q (.bl (decide (x = .non))) H) := by
  intro pins s σ H x y v u Q I rx ry h
  obtain ⟨rfl, q⟩ := h
  cases ry
  refine is_none_gen (fin_bl I q ?_)
  cases x <;> first
    | (cases rx; rfl)
    | (obtain ⟨t, rfl⟩ := rx; rfl)
theorem op_notN : OpR X (compareOp .IsNot) (fun x y H Q => y = .non ∧ Q (.bl (!decide (x = .non))) H) := by
  intro pins s σ H x y v u Q I rx ry h
  obtain ⟨rfl, q⟩ := h
  cases ry
  refine isnot_none_gen (fin_bl I q ?_)
  cases x <;> first
    | (cases rx; rfl)
    | (obtain ⟨t, rfl⟩ := rx; rfl)

theorem op_notin_str : OpR X (compareOp .NotIn) (fun x y H Q => ∃ i j, x = .str i ∧ y = .str j ∧ Q (.bl (!(!(Builtin.Str.occurrences j i 0 j.length 1).isEmpty))) H) := by
  intro pins s σ H x y v u Q I rx ry h
  obtain ⟨i, j, rfl, rfl, q⟩ := h
  obtain ⟨t, rfl⟩ := rx
  obtain ⟨t', rfl⟩ := ry
  exact notIn_str (fin_bl I q rfl)
/-- is, is not of two objects that are tracked lists or instances -/
def isObj : HO → Bool
  | .lst _ => true
  | .ins _ _ _ => true
  | _ => false
theorem obj_there {pins : List (Addr × Obj)} {s : Shared} {σ : St} {H : Hp} {a : Addr} {o : HO} (I : Inv X pins σ H s) (h : H a = some o) (p : isObj o = true) : ∃ ob, s.heap.get? a = some ob ∧ ob.cls ≠ .type "tuple" := by
  cases o with
  | lst xs =>
    obtain ⟨_, its, n, _, e⟩ : xs.length ≤ sizeLine ∧ ∃ (its : List Value) (n : Nat), Vals xs its ∧ s.heap.get? a = some { cls := .type "list", data := .seq its.toArray n } := I.hok a _ h
    exact ⟨_, e, (by show Value.type "list" ≠ .type "tuple"; decide +kernel)⟩
  | ins C dx fs =>
    have x := I.hok a _ h
    obtain ⟨_, _, _, e, _⟩ := x
    exact ⟨_, e, (by show Value.ref C ≠ .type "tuple"; exact fun z => by cases z)⟩
  | _ => exact absurd (show false = true from p) Bool.false_ne_true
theorem op_is_ref : OpR X (compareOp .Is) (fun x y H Q => ∃ a b oa ob, x = .ref a ∧ y = .ref b ∧ H a = some oa ∧ isObj oa = true ∧ H b = some ob ∧ isObj ob = true ∧ Q (.bl (decide (a = b))) H) := by
  intro pins s σ H x y v u Q I rx ry h
  obtain ⟨a, b, oa, ob, rfl, rfl, ha, pa, hb, pb, q⟩ := h
  cases rx
  cases ry
  obtain ⟨o1, e1, n1⟩ := obj_there I ha pa
  obtain ⟨o2, e2, _⟩ := obj_there I hb pb
  by_cases z : a = b
  · subst z
    exact wpAny_is_ref_self (fin_bl I q (by simp))
  · exact wpAny_is_ref_other z e1 e2 n1 (fin_bl I q (by simp [z]))
theorem op_isnot_ref : OpR X (compareOp .IsNot) (fun x y H Q => ∃ a b oa ob, x = .ref a ∧ y = .ref b ∧ H a = some oa ∧ isObj oa = true ∧ H b = some ob ∧ isObj ob = true ∧ Q (.bl (!decide (a = b))) H) := by
  intro pins s σ H x y v u Q I rx ry h
  obtain ⟨a, b, oa, ob, rfl, rfl, ha, pa, hb, pb, q⟩ := h
  cases rx
  cases ry
  obtain ⟨o1, e1, n1⟩ := obj_there I ha pa
  obtain ⟨o2, e2, _⟩ := obj_there I hb pb
  by_cases z : a = b
  · subst z
    exact wpAny_isNot_ref_self (fin_bl I q (by simp))
  · exact wpAny_isNot_ref_other z e1 e2 n1 (fin_bl I q (by simp [z]))

/-- two rules for one operation: by cases -/
theorem OpR.or {f : Value → Value → Sem Value} {r r' : R2} (h : OpR X f r) (h' : OpR X f r') : OpR X f (fun x y H Q => r x y H Q ∨ r' x y H Q) := by
  intro pins s σ H x y v u Q I rx ry q
  rcases q with q | q
  · exact h pins s σ H x y v u Q I rx ry q
  · exact h' pins s σ H x y v u Q I rx ry q

theorem nomark (b : Expr) {op : CmpOp} (h : op ≠ .In := by decide) (h2 : op ≠ .NotIn := by decide) : behindInMarks op b = false := by
  have e1 : (op == CmpOp.In) = false := by cases op <;> first | rfl | exact absurd rfl h
  have e2 : (op == CmpOp.NotIn) = false := by cases op <;> first | rfl | exact absurd rfl h2
  cases b <;> simp [behindInMarks, e1, e2]
/-- a comparison as a value; hm: nomark b, or (for in, not in) by with_unfolding_all rfl -/
theorem pe_cmpR {op : CmpOp} {r : R2} (ho : OpR X (compareOp op) r) (ha : PE X a ta) (hb : PE X b tb) (hm : behindInMarks op b = false) : PE X (.Compare a [op] [b] pos) (tOp r ta tb) := by
  intro pins s σ H Q I h
  exact wpAny_Compare1 (binT ha hb I h fun v u s2 x y H2 I2 rx ry q => ho pins s2 σ H2 x y v u Q I2 rx ry q) hm
/-- a reading of a value as a test -/
def tTest (t : TE) : TT := fun σ H Q => t σ H fun x H' => ∃ k, x = .bl k ∧ Q k H'
theorem pt_cmpR {op : CmpOp} {r : R2} (ho : OpR X (compareOp op) r) (ha : PE X a ta) (hb : PE X b tb) (hm : behindInMarks op b = false) : PT X (.Compare a [op] [b] pos) (tTest (tOp r ta tb)) := by
  intro pins s σ H Q I h
  refine wpAny_isTrue_Compare1 (thn (ha pins s σ H _ I h) fun v s1 ⟨x, H1, I1, r1, q1⟩ => thn (hb pins s1 σ H1 _ I1 q1) fun u s2 ⟨y, H2, I2, r2, q2⟩ =>
    thn (ho pins s2 σ H2 x y v u _ I2 r1 r2 q2) fun c s3 ⟨z, H3, I3, r3, k, e, q3⟩ => ?_) hm
  subst e
  cases r3
  exact wpAny_truthy_bool ⟨H3, I3, q3⟩
/-- a op1 b op2 c -/
def tChain (r r' : R2) (ta tb tc : TE) : TE := fun σ H Q => ta σ H fun x H1 => tb σ H1 fun y H2 => r x y H2 fun z H3 => ∃ k, z = .bl k ∧
  (if k = true then tc σ H3 fun w' H4 => r' y w' H4 Q else Q (.bl false) H3)
theorem pe_chain {op op' : CmpOp} {r r' : R2} (ho : OpR X (compareOp op) r) (ho' : OpR X (compareOp op') r') (ha : PE X a ta) (hb : PE X b tb) (hc : PE X c tc)
    (hm : lastMarks [op, op'] [b, c] = false := by with_unfolding_all rfl) : PE X (.Compare a [op, op'] [b, c] pos) (tChain r r' ta tb tc) := by
  intro pins s σ H Q I h
  refine Compare_chain (thn (ha pins s σ H _ I h) fun v s1 ⟨x, H1, I1, r1, q1⟩ => chain_link (thn (hb pins s1 σ H1 _ I1 q1) fun u s2 ⟨y, H2, I2, r2, q2⟩ =>
    thn (ho pins s2 σ H2 x y v u _ I2 r1 r2 q2) fun d s3 ⟨z, H3, I3, r3, k, e, q3⟩ => ?_)) hm
  subst e
  cases r3
  refine wpAny_truthy_bool ?_
  cases k with
  | false => exact ite_ff ⟨.bl false, H3, I3, rfl, q3⟩
  | true => exact ite_tt (chain_last (thn (hc pins s3 σ H3 _ I3 q3) fun w' s4 ⟨z', H4, I4, r4, q4⟩ => ho' pins s4 σ H4 y z' u w' Q I4 r2 r4 q4))
theorem pt_chain {op op' : CmpOp} {r r' : R2} (ho : OpR X (compareOp op) r) (ho' : OpR X (compareOp op') r') (ha : PE X a ta) (hb : PE X b tb) (hc : PE X c tc)
    (hm : lastMarks [op, op'] [b, c] = false := by with_unfolding_all rfl) : PT X (.Compare a [op, op'] [b, c] pos) (tTest (tChain r r' ta tb tc)) := by
  intro pins s σ H Q I h
  refine isTrue_chain (thn (ha pins s σ H _ I h) fun v s1 ⟨x, H1, I1, r1, q1⟩ => test_link (thn (hb pins s1 σ H1 _ I1 q1) fun u s2 ⟨y, H2, I2, r2, q2⟩ =>
    thn (ho pins s2 σ H2 x y v u _ I2 r1 r2 q2) fun d s3 ⟨z, H3, I3, r3, k, e, q3⟩ => ?_)) hm
  subst e
  cases r3
  refine wpAny_truthy_bool ?_
  cases k with
  | false =>
    obtain ⟨k', e', q'⟩ := q3
    cases e'
    exact ite_ff ⟨H3, I3, q'⟩
  | true =>
    refine ite_tt (test_last (thn (hc pins s3 σ H3 _ I3 q3) fun w' s4 ⟨z', H4, I4, r4, q4⟩ => thn (ho' pins s4 σ H4 y z' u w' _ I4 r2 r4 q4) fun d' s5 ⟨z2, H5, I5, r5, k2, e2, q5⟩ => ?_))
    subst e2
    cases r5
    exact wpAny_truthy_bool ⟨H5, I5, q5⟩

/-! ### truth -/
/-- a value's truth by the abstract heap -/
def TruV (K : PySem.W.Frag) (x : V) (H : Hp) (k : Bool) : Prop :=
  match x with
  | .non => k = false
  | .bl b => k = b
  | .int i => k = (i != 0)
  | .str y => y.length ≤ sizeLine ∧ k = ((y.length : Int) != 0)
  | .byt y => y.size ≤ sizeLine ∧ k = ((y.size : Int) != 0)
  | .ref p => (∃ xs, SqL K H p xs ∧ k = !xs.isEmpty) ∨ (∃ xs, SqT K H p xs ∧ k = !xs.isEmpty) ∨ ∃ kvs, H p = some (.dK kvs) ∧ k = !kvs.isEmpty
  | _ => False
theorem isEmpty_kv {κ : Type} {kvs : List (κ × V)} {vs : List (κ × Value)} (r : KV kvs vs) : (!vs.isEmpty) = !kvs.isEmpty := by
  cases r <;> rfl
theorem isEmpty_of {xs : List V} {its : List Value} (r : Vals xs its) : (!its.toArray.isEmpty) = !xs.isEmpty := by
  cases r <;> simp
theorem line63 : (sizeLine : Nat) < 2 ^ 63 := by rw [sizeLine_eq]; decide
theorem tru_ok : TruR X (fun x H Q => ∃ k, TruV X.K x H k ∧ Q k H) := by
  intro pins s σ H x v Q I rx h
  obtain ⟨k, e, q⟩ := h
  have hl := line63
  have hs : sizeLine = 16777216 := sizeLine_eq
  cases x with
  | non =>
    cases rx
    have e' : k = false := e
    subst e'
    exact truthy_none ⟨H, I, q⟩
  | bl b =>
    cases rx
    have e' : k = b := e
    subst e'
    exact wpAny_truthy_bool ⟨H, I, q⟩
  | int i =>
    obtain ⟨t, rfl⟩ := rx
    have e' : k = (i != 0) := e
    subst e'
    exact PySem.P.truthy_int ⟨H, I, q⟩
  | str y =>
    obtain ⟨t, rfl⟩ := rx
    obtain ⟨hy, e'⟩ : y.length ≤ sizeLine ∧ k = ((y.length : Int) != 0) := e
    subst e'
    exact PySem.P.truthy_str (by omega) ⟨H, I.tok _, q⟩
  | byt y =>
    obtain ⟨t, rfl⟩ := rx
    obtain ⟨hy, e'⟩ : y.size ≤ sizeLine ∧ k = ((y.size : Int) != 0) := e
    subst e'
    exact PySem.W.truthy_bytes (by omega) ⟨H, I.tok _, q⟩
  | ref p =>
    cases rx
    have e' : (∃ xs, SqL X.K H p xs ∧ k = !xs.isEmpty) ∨ (∃ xs, SqT X.K H p xs ∧ k = !xs.isEmpty) ∨ ∃ kvs, H p = some (.dK kvs) ∧ k = !kvs.isEmpty := e
    rcases e' with ⟨xs, hx, e'⟩ | ⟨xs, hx, e'⟩ | ⟨kvs, hx, e'⟩
    · subst e'
      obtain ⟨its, r, pl, hz⟩ := I.list hx
      have hlen := r.length
      exact wpAny_truthy_list pl.isList (by simp only [List.size_toArray]; omega) ⟨H, I.tok _, by rw [isEmpty_of r]; exact q⟩
    · subst e'
      obtain ⟨its, r, pl, hz⟩ := I.tuple hx
      have hlen := r.length
      exact truthy_tuple pl (by simp only [List.size_toArray]; omega) ⟨H, I.tok _, by rw [isEmpty_of r]; exact q⟩
    · subst e'
      obtain ⟨hz, hS, vs, r, m⟩ : kvs.length ≤ sizeLine ∧ (p == sysModules) = false ∧ ∃ vs, KV kvs vs ∧ s.heap.DictOf (mixKind X.prog X.w) p vs := I.hok p _ hx
      have hlen : kvs.length = vs.length := Paired.length r
      exact wpAny_truthy_dict hS m (by omega) ⟨H, I.tok _, by rw [isEmpty_kv r]; exact q⟩
  | _ => exact (show False from e).elim
/-- any expression whose test is its value's truth (a name, a call, a subscript, a field ..: he by fun _ => rfl) -/
theorem pt_truth (ha : PE X a ta) (he : ∀ whole, isTrue a X.env whole = (do let v ← whole; standAt a.pos; holding [v] (truthy v))) :
    PT X a (fun σ H Q => ta σ H fun x H' => ∃ k, TruV X.K x H' k ∧ Q k H') := by
  intro pins s σ H Q I h
  exact isTrue_plain (thn (ha pins s σ H _ I h) fun v s1 ⟨x, H1, I1, r1, q1⟩ => tru_ok pins s1 σ H1 x v Q I1 r1 q1) (he _)

/-! ### strs and bytes -/
theorem pe_byt {x : List UInt8} {k : Nat} : PE X (.Constant (.bytes x) k pos) (fun _ H Q => Q (.byt x.toArray) H) := fun _ _ _ H _ I h => PySem.W.Constant_bytes ⟨.byt x.toArray, H, I.tok _, ⟨_, rfl⟩, h⟩
theorem op_add_str : OpR X (binaryOp .Add) (fun x y H Q => ∃ i j, x = .str i ∧ y = .str j ∧ i.length + j.length ≤ sizeLine ∧ Q (.str (i ++ j)) H) := by
  intro pins s σ H x y v u Q I rx ry h
  obtain ⟨i, j, rfl, rfl, hz, q⟩ := h
  obtain ⟨t, rfl⟩ := rx
  obtain ⟨t', rfl⟩ := ry
  exact add_str (fun t' tk => ⟨.str (i ++ j), H, I.tok _, ⟨_, rfl⟩, q⟩) hz
theorem iop_add_str : OpR X (inplaceOp .Add) (fun x y H Q => ∃ i j, x = .str i ∧ y = .str j ∧ i.length + j.length ≤ sizeLine ∧ Q (.str (i ++ j)) H) := by
  intro pins s σ H x y v u Q I rx ry h
  obtain ⟨i, j, rfl, rfl, hz, q⟩ := h
  obtain ⟨t, rfl⟩ := rx
  obtain ⟨t', rfl⟩ := ry
  exact iadd_str (fun t' tk => ⟨.str (i ++ j), H, I.tok _, ⟨_, rfl⟩, q⟩) hz
theorem op_add_byt : OpR X (binaryOp .Add) (fun x y H Q => ∃ i j, x = .byt i ∧ y = .byt j ∧ i.size + j.size ≤ 16777216 ∧ Q (.byt (i ++ j)) H) := by
  intro pins s σ H x y v u Q I rx ry h
  obtain ⟨i, j, rfl, rfl, hz, q⟩ := h
  obtain ⟨t, rfl⟩ := rx
  obtain ⟨t', rfl⟩ := ry
  exact PySem.W.KBy.add_bytes hz (fun t' tk => ⟨.byt (i ++ j), H, I.tok _, ⟨_, rfl⟩, q⟩)

def PlainIxT (b : Expr) : Prop := ∀ o i, subscripted b false o i = operate [o, i] (getItem o i)
/-- s[i], 0 ≤ i < len -/
theorem pe_item_str (ha : PE X a ta) (hb : PE X b tb) (hs : PlainIxT b) :
    PE X (.Subscript a b pos) (tOp (fun x y H Q => ∃ z i c, x = .str z ∧ y = .int i ∧ 0 ≤ i ∧ i < 2 ^ 63 ∧ i < z.length ∧ z.cps[i.toNat]? = some c ∧ Q (.str ⟨#[c]⟩) H) ta tb) := by
  intro pins s σ H Q I h
  refine Subscript_ (binT ha hb I h fun v u s2 x y H2 I2 rx ry q => ?_)
  obtain ⟨z, i, c, rfl, rfl, h0, h63, h1, hc, q⟩ := q
  obtain ⟨t, rfl⟩ := rx
  obtain ⟨t', rfl⟩ := ry
  have e : seqIndex? i z.length = some i.toNat := PySem.StrLaws.seqIndex_nonneg h0 h1
  exact tail_any (typeIs_str s2 z t) slot_str_getitem.lookup (getItem_str (c := c) (by
    have e1 : decide (i < -(2 ^ 63 : Int)) = false := decide_eq_false (by omega)
    have e2 : decide (i ≥ 2 ^ 63) = false := decide_eq_false (by omega)
    rw [e1, e2] <;> rfl) (by rw [e]; exact hc) ⟨.str ⟨#[c]⟩, H2, I2.tok _, ⟨_, rfl⟩, q⟩) (hs _ _)
/-- b[i], 0 ≤ i < len -/
theorem pe_item_byt (ha : PE X a ta) (hb : PE X b tb) (hs : PlainIxT b) :
    PE X (.Subscript a b pos) (tOp (fun x y H Q => ∃ (z : List UInt8) (i : Int), x = .byt z.toArray ∧ y = .int i ∧ z.length ≤ sizeLine ∧ 0 ≤ i ∧ i < z.length ∧ Q (.int ((z.getD i.toNat 0).toNat : Nat)) H) ta tb) := by
  intro pins s σ H Q I h
  refine Subscript_ (binT ha hb I h fun v u s2 x y H2 I2 rx ry q => ?_)
  obtain ⟨z, i, rfl, rfl, hz, h0, h1, q⟩ := q
  obtain ⟨t, rfl⟩ := rx
  obtain ⟨t', rfl⟩ := ry
  have hl : sizeLine = 16777216 := sizeLine_eq
  exact tail_any (PySem.W.typeIs_bytes s2 z.toArray t) PySem.W.FB.slot_bytes_getitem.lookup (PySem.W.getItem_bytes (by omega) h0 h1 ⟨.int ((z.getD i.toNat 0).toNat : Nat), H2, I2.tok _, ⟨_, rfl⟩, q⟩) (hs _ _)

/-! ### scalar builtins, by CallR -/
theorem vals1 {x : V} {us : List Value} (r : Vals [x] us) : ∃ u, us = [u] ∧ RelV x u := by
  cases r with
  | cons r1 r2 => cases r2; exact ⟨_, rfl, r1⟩
theorem vals2 {x y : V} {us : List Value} (r : Vals [x, y] us) : ∃ u w', us = [u, w'] ∧ RelV x u ∧ RelV y w' := by
  cases r with
  | cons r1 r2 =>
    cases r2 with
    | cons r3 r4 => cases r4; exact ⟨_, _, rfl, r1, r3⟩
theorem call_abs : CallR X (.builtin "abs") (fun xs H Q => ∃ i, xs = [.int i] ∧ Q (.int (if i < 0 then -i else i)) H) := by
  intro pins s σ H xs us Q I r h
  obtain ⟨i, rfl, q⟩ := h
  obtain ⟨u, rfl, t, rfl⟩ := vals1 r
  exact call_abs_int fun u tk => ⟨.int (if i < 0 then -i else i), H, I.tok _, ⟨_, rfl⟩, q⟩
theorem call_max2 (hc : X.calm = true) : CallR X (.builtin "max") (fun xs H Q => ∃ i j, xs = [.int i, .int j] ∧ Q (.int (if j > i then j else i)) H) := by
  intro pins s σ H xs us Q I r h
  obtain ⟨i, j, rfl, q⟩ := h
  obtain ⟨u, w', rfl, ⟨t, rfl⟩, ⟨t', rfl⟩⟩ := vals2 r
  refine max_two_ints (I.ok.hd hc) fun h' tk k => ⟨_, H, I.kept k, ?_, q⟩
  by_cases hj : j > i
  · rw [if_pos hj, if_pos hj]; exact ⟨_, rfl⟩
  · rw [if_neg hj, if_neg hj]; exact ⟨_, rfl⟩
theorem call_min2 (hc : X.calm = true) : CallR X (.builtin "min") (fun xs H Q => ∃ i j, xs = [.int i, .int j] ∧ Q (.int (if j < i then j else i)) H) := by
  intro pins s σ H xs us Q I r h
  obtain ⟨i, j, rfl, q⟩ := h
  obtain ⟨u, w', rfl, ⟨t, rfl⟩, ⟨t', rfl⟩⟩ := vals2 r
  refine min_two_ints (I.ok.hd hc) fun h' tk k => ⟨_, H, I.kept k, ?_, q⟩
  by_cases hj : j < i
  · rw [if_pos hj, if_pos hj]; exact ⟨_, rfl⟩
  · rw [if_neg hj, if_neg hj]; exact ⟨_, rfl⟩
theorem call_int1 : CallR X (.type "int") (fun xs H Q => (∃ i, xs = [.int i] ∧ Q (.int i) H) ∨ ∃ k, xs = [.bl k] ∧ Q (.int (if k then 1 else 0)) H) := by
  intro pins s σ H xs us Q I r h
  rcases h with ⟨i, rfl, q⟩ | ⟨k, rfl, q⟩
  · obtain ⟨u, rfl, t, rfl⟩ := vals1 r
    exact call_int_int ⟨.int i, H, I, ⟨_, rfl⟩, q⟩
  · obtain ⟨u, rfl, r1⟩ := vals1 r
    cases r1
    exact call_int_bool ⟨.int (if k then 1 else 0), H, I.tok _, ⟨_, rfl⟩, q⟩
theorem call_bool1 : CallR X (.type "bool") (fun xs H Q => (∃ i, xs = [.int i] ∧ Q (.bl (i != 0)) H) ∨ ∃ k, xs = [.bl k] ∧ Q (.bl k) H) := by
  intro pins s σ H xs us Q I r h
  rcases h with ⟨i, rfl, q⟩ | ⟨k, rfl, q⟩
  · obtain ⟨u, rfl, t, rfl⟩ := vals1 r
    exact call_bool_int ⟨.bl (i != 0), H, I, rfl, q⟩
  · obtain ⟨u, rfl, r1⟩ := vals1 r
    cases r1
    exact call_bool_bool ⟨.bl k, H, I, rfl, q⟩
theorem call_str_int : CallR X (.type "str") (fun xs H Q => ∃ i, xs = [.int i] ∧ i.natAbs.log2 < 1920 ∧ Q (.str (toString i)) H) := by
  intro pins s σ H xs us Q I r h
  obtain ⟨i, rfl, hz, q⟩ := h
  obtain ⟨u, rfl, t, rfl⟩ := vals1 r
  exact PySem.P.str_of_int hz ⟨.str _, H, I.tok _, ⟨_, rfl⟩, q⟩
theorem call_ord : CallR X (.builtin "ord") (fun xs H Q => ∃ x, xs = [.str x] ∧ x.length = 1 ∧ Q (.int (x.cps.getD 0 0 : Nat)) H) := by
  intro pins s σ H xs us Q I r h
  obtain ⟨x, rfl, hz, q⟩ := h
  obtain ⟨u, rfl, t, rfl⟩ := vals1 r
  exact ord_of_one hz ⟨.int _, H, I.tok _, ⟨_, rfl⟩, q⟩
theorem call_chr : CallR X (.builtin "chr") (fun xs H Q => ∃ i, xs = [.int i] ∧ 0 ≤ i ∧ i ≤ 1114111 ∧ Q (.str ⟨#[i.toNat]⟩) H) := by
  intro pins s σ H xs us Q I r h
  obtain ⟨i, rfl, h0, h1, q⟩ := h
  obtain ⟨u, rfl, t, rfl⟩ := vals1 r
  exact chr_of_range h0 h1 ⟨.str _, H, I.tok _, ⟨_, rfl⟩, q⟩
/-- len of a str, a bytes, a list, a tuple -/
def LenV (K : PySem.W.Frag) (x : V) (H : Hp) (n : Nat) : Prop :=
  match x with
  | .str y => y.length ≤ sizeLine ∧ n = y.length
  | .byt y => y.size ≤ sizeLine ∧ n = y.size
  | .ref p => (∃ xs, SqL K H p xs ∧ n = xs.length) ∨ ∃ xs, SqT K H p xs ∧ n = xs.length
  | _ => False
theorem call_len : CallR X (.builtin "len") (fun xs H Q => ∃ x n, xs = [x] ∧ LenV X.K x H n ∧ Q (.int n) H) := by
  intro pins s σ H xs us Q I r h
  obtain ⟨x, n, rfl, e, q⟩ := h
  obtain ⟨u, rfl, rx⟩ := vals1 r
  have hl := line63
  have hs : sizeLine = 16777216 := sizeLine_eq
  cases x with
  | str y =>
    obtain ⟨t, rfl⟩ := rx
    obtain ⟨hy, e'⟩ : y.length ≤ sizeLine ∧ n = y.length := e
    subst e'
    exact len_str (by omega) ⟨.int _, H, I.tok _, ⟨_, rfl⟩, q⟩
  | byt y =>
    obtain ⟨t, rfl⟩ := rx
    obtain ⟨hy, e'⟩ : y.size ≤ sizeLine ∧ n = y.size := e
    subst e'
    exact PySem.W.len_bytes (by omega) ⟨.int _, H, I.tok _, ⟨_, rfl⟩, q⟩
  | ref p =>
    cases rx
    have e' : (∃ xs, SqL X.K H p xs ∧ n = xs.length) ∨ ∃ xs, SqT X.K H p xs ∧ n = xs.length := e
    rcases e' with ⟨xs, hx, e'⟩ | ⟨xs, hx, e'⟩
    · subst e'
      obtain ⟨its, r', pl, hz⟩ := I.list hx
      have hlen := r'.length
      exact Calls.call_len_list pl.isList (by simp only [List.size_toArray]; omega) ⟨.int xs.length, H, I.tok _, ⟨_, by simp only [List.size_toArray]; rw [hlen]⟩, q⟩
    · subst e'
      obtain ⟨its, r', pl, hz⟩ := I.tuple hx
      have hlen := r'.length
      exact len_tuple pl (by simp only [List.size_toArray]; omega) ⟨.int xs.length, H, I.tok _, ⟨_, by simp only [List.size_toArray]; rw [hlen]⟩, q⟩
  | _ => exact (show False from e).elim
/-- divmod: a new tuple -/
theorem call_divmod : CallR X (.builtin "divmod") (fun xs H Q => ∃ i j, xs = [.int i, .int j] ∧ CDiv i j ∧ ∀ p, H p = none → Q (.ref p) (upd H p (.tup [.int (i / j), .int (i % j)]))) := by
  intro pins s σ H xs us Q I r h
  obtain ⟨i, j, rfl, ⟨h1, h2⟩, q⟩ := h
  obtain ⟨u, w', rfl, ⟨t, rfl⟩, ⟨t', rfl⟩⟩ := vals2 r
  refine divmod_int (by omega) ?_ (.inl (PyProof.noPylong_small (by omega)))
  rw [Int.fdiv_eq_ediv_of_nonneg i (by omega), Int.fmod_eq_emod_of_nonneg i (by omega)]
  have hn : H s.heap.objs.size = none := I.hok.fresh (Nat.le_refl _)
  refine ⟨.ref s.heap.objs.size, _, ?_, rfl, q _ hn⟩
  refine I.laid (fun b o e => Heap.get?_push_of_some _ e) (Nat.le_refl _) ⟨by simp only [List.length_cons, List.length_nil]; rw [sizeLine_eq]; decide, [.int (i / j) s.toks, .int (i % j) (s.toks + 1)], .cons ⟨_, rfl⟩ (.cons ⟨_, rfl⟩ .nil), ?_⟩
  exact ⟨_, Heap.get?_push_size s.heap rfl, rfl, 0, rfl⟩
end
end L2
namespace L2
open PySem PySem.Spec PyProof.Rows

/-! ### an instance, its attributes a map -/
structure ObjM (h : Heap) (x dx C : Addr) (mA : Str → Option Value) : Prop where
  obj : h.get? x = some (PySem.W.instObj C dx)
  ns : h.Ns1 dx mA
  ne : dx ≠ x

theorem lookIn_ns {h : Heap} {dx : Addr} {mA : Str → Option Value} (n : h.Ns1 dx mA) : ∃ od, h.get? dx = some od ∧ ∀ name, PySem.W.lookIn name od = some (mA name) := by
  obtain ⟨o, es, ep, ho, hd, hk, _, hm⟩ := n
  refine ⟨o, ho, fun name => ?_⟩
  have e := hm name
  unfold nsFind findBy at e
  rw [← Array.find?_toList] at e
  unfold PySem.W.lookIn
  rw [hd]
  dsimp only
  split
  · rename_i y q
    rw [q] at e
    exact congrArg some e
  · rename_i q
    rw [q] at e
    have a : es.toList.any (·.refKey) = false := by
      rw [List.any_eq_false]
      intro y hy
      obtain ⟨z, t, hkey⟩ := hk y (Array.mem_toList_iff.mp hy)
      simp [DictEntry.refKey, hkey]
    have a' : ¬ es.toList.any (·.refKey) = true := by rw [a]; exact Bool.false_ne_true
    rw [if_neg a']
    exact congrArg some e

theorem ObjM.look {h : Heap} {x dx C : Addr} {mA : Str → Option Value} (I : ObjM h x dx C mA) : ∃ od, PySem.W.InstAt h x (PySem.W.instObj C dx) C (some od) ∧ ∀ name, PySem.W.lookIn name od = some (mA name) :=
  let ⟨od, ho, hl⟩ := lookIn_ns I.ns
  ⟨od, ⟨I.obj, rfl, rfl, ho⟩, hl⟩

section
variable {prog : Program} {w : World} {A : Around} {E : Value → Shared → Prop} {s : Shared} {K : PySem.W.Frag} {x dx C f : Addr} {mA : Str → Option Value} {name : Str} {v : Value}

theorem get_map {expr : Bool} {Q : Value → Shared → Prop} (X : K.In s.heap) (I : ObjM s.heap x dx C mA) (hg : PySem.W.plainGet K C name = true) (hh : PySem.W.hasDictIn K C = true)
    (ha : PySem.W.findIn K (.ref C) name = some none) (hv : mA name = some v) (hv' : PySem.W.handedIn v = true) (h : Q v { s with toks := s.toks + 1 }) :
    wpAny (model prog w) A (getAttr (.ref x) name expr) Q E s := by
  obtain ⟨od, J, hl⟩ := I.look
  exact PySem.W.get_value X J (PySem.W.plainGet_of hg).1 (PySem.W.findObj_own hh ha rfl (by rw [hl, hv])) hv' h

theorem get_const {expr : Bool} {a : Value} {Q : Value → Shared → Prop} (X : K.In s.heap) (I : ObjM s.heap x dx C mA) (hg : PySem.W.plainGet K C name = true) (hh : PySem.W.hasDictIn K C = true)
    (ha : PySem.W.findIn K (.ref C) name = some (some a)) (hn : PySem.W.specialIn K a "__get__" = some none) (hc : PySem.W.copiedNames.contains name = false) (hv : mA name = none) (hv' : PySem.W.handedIn a = true)
    (h : Q a { s with toks := s.toks + 1 }) : wpAny (model prog w) A (getAttr (.ref x) name expr) Q E s := by
  obtain ⟨od, J, hl⟩ := I.look
  exact PySem.W.get_value X J (PySem.W.plainGet_of hg).1 (PySem.W.findObj_cls hh ha hn hv' hc (by rw [hl, hv])) hv' h

theorem get_meth {pl : Sem Bool} {Q : Value × List Value → Shared → Prop} (X : K.In s.heap) (I : ObjM s.heap x dx C mA) (hg : PySem.W.plainGet K C name = true)
    (hf : PySem.W.findIn K (.ref C) name = some (some (.ref f))) (ht : PySem.W.isFn K (.ref f) = true) (hv : mA name = none) (h : Q (.ref f, [.ref x]) s) :
    wpAny (model prog w) A (getMethod (.ref x) name pl) Q E s := by
  obtain ⟨od, J, hl⟩ := I.look
  exact PySem.W.method_fn X J (PySem.W.plainGet_of hg).1 (PySem.W.plainGet_of hg).2 hf (beq_iff_eq.mp ht) (by show (PySem.W.lookIn name od).map (·.isSome) = some false; rw [hl, hv]; rfl) h

theorem set_map {ns : List Str} {Q : Unit → Shared → Prop} (X : K.In s.heap) (I : ObjM s.heap x dx C mA)
    (hs : PySem.W.findIn K (.ref C) "__setattr__" = some (some (.builtin "object.__setattr__"))) (hp : PySem.W.plainOver K C = true) (ht : PySem.W.takerIn K C name = some none) (hh : PySem.W.hasDictIn K C = true)
    (hw : PySem.Within mA ns) (hsz : ns.length ≤ sizeLine)
    (h : ∀ h', ObjM h' x dx C (fun y => if y = name then some v else mA y) → Heap.SameBut dx s.heap h' → Q () { s with heap := h', toks := s.toks + 2 }) :
    wpAny (model prog w) A (setAttr (.ref x) name v) Q E s := by
  obtain ⟨od, J, hl⟩ := I.look
  refine PySem.W.set_plain X J hs (PySem.W.osa_open (s := { s with toks := s.toks + 1 }) (r := none) X J hp ht fun b => ?_)
  obtain ⟨cd, hc, hd'⟩ := PySem.W.any_some hh
  have hx : s.heap.get? x = some ⟨.ref C, some dx, .plain, #[]⟩ := I.obj
  refine wpAny_bind (wpAny_pure (wpAny_bind (wpAny_bind (wpAny_loadPart hx (wpAny_bind (PySem.W.Looks.here (s := { s with toks := s.toks + 1 }) (PySem.W.looks_clsIn X hc) ?_))))))
  rw [hd']
  refine wpAny_pure (a := some dx) (wpAny_bind (wpAny_pure (wpAny_bind ?_)))
  refine wpAny_nsSet1 (s := { s with toks := s.toks + 1 }) I.ns fun h' hn2 hs2 => ?_
  obtain ⟨oD, esD, epD, hoD, hdD, hcD⟩ := hn2.count (PySem.Within.cons name v hw)
  refine wpAny_bind (wpAny_lookBehind hoD (by rw [hdD]; exact pastItsLine_dict (Nat.le_trans hcD (by rw [List.length_cons]; omega))) ?_)
  exact wpAny_pure (h _ ⟨(hs2.2 _ (Ne.symm I.ne)).trans I.obj, hn2, I.ne⟩ hs2)

/-- C(..): the dict at the heap's end, the instance behind it; then its __init__ -/
theorem make_map {R : Result → Shared → Prop} {vs : List Value} {kw : List (Str × Value)} (X : K.In s.heap) (hm : PySem.W.makesIn K C = true)
    (hi : PySem.W.findIn K (.ref C) "__init__" = some (some (.ref f))) (hf : PySem.W.typeIn K (.ref f) = some (.type "function"))
    (h : codeAny (model prog w) (A.under (.builtin "type.__call__" ⟨.ref C :: vs, kw⟩)) (.call (.ref f) ⟨.ref (s.heap.objs.size + 1) :: vs, kw⟩) (PySem.W.InitBack (s.heap.objs.size + 1) R)
      { s with heap := (s.heap.push PySem.W.emptyDict).push (PySem.W.instObj C s.heap.objs.size) }) :
    codeAny (model prog w) A (.call (.ref C) ⟨vs, kw⟩) R s := by
  obtain ⟨hh, g, d, t, os⟩ := s
  exact PySem.W.make_core (PySem.W.makes_of X hm) (PySem.W.looks_findIn X hi) (fun self => PySem.W.bind_fn X self hf) (.inl rfl) h
/-- C() where there is no __init__ but object's -/
theorem make_map0 {R : Result → Shared → Prop} (X : K.In s.heap) (hm : PySem.W.makesIn K C = true)
    (hi : PySem.W.findIn K (.ref C) "__init__" = some (some (.builtin "object.__init__")))
    (hb : ∀ self, PySem.W.Looks (model prog w) s.heap (bindSpecial (.builtin "object.__init__") self) (.builtin "object.__init__", [self]))
    (h : codeAny (model prog w) (A.under (.builtin "type.__call__" ⟨[.ref C], []⟩)) (.call (.builtin "object.__init__") ⟨[.ref (s.heap.objs.size + 1)], []⟩) (PySem.W.InitBack (s.heap.objs.size + 1) R)
      { s with heap := (s.heap.push PySem.W.emptyDict).push (PySem.W.instObj C s.heap.objs.size) }) :
    codeAny (model prog w) A (.call (.ref C) ⟨[], []⟩) R s := by
  obtain ⟨hh, g, d, t, os⟩ := s
  exact PySem.W.make_core (PySem.W.makes_of X hm) (PySem.W.looks_findIn X hi) hb (.inr ⟨rfl, rfl⟩) h
end

/-! ### the attributes as a list of pairs -/
def putF (f : Str) (v : V) : List (Str × V) → List (Str × V)
  | [] => [(f, v)]
  | (g, x) :: r => if g = f then (g, v) :: r else (g, x) :: putF f v r
theorem lookup_putF (f g : Str) (v : V) : ∀ fs : List (Str × V), (putF f v fs).lookup g = if g = f then some v else fs.lookup g
  | [] => by
    show List.lookup g [(f, v)] = _
    by_cases h : g = f
    · have hb : (g == f) = true := beq_iff_eq.mpr h
      simp only [List.lookup, hb, if_pos h]
    · have hb : (g == f) = false := beq_eq_false_iff_ne.mpr h
      simp only [List.lookup, hb, if_neg h]
  | (k, x) :: r => by
    have ih := lookup_putF f g v r
    rw [show putF f v ((k, x) :: r) = (if k = f then (k, v) :: r else (k, x) :: putF f v r) from rfl]
    by_cases hk : k = f
    · rw [if_pos hk]
      by_cases h : g = k
      · have hb : (g == k) = true := beq_iff_eq.mpr h
        simp only [List.lookup, hb, if_pos (h.trans hk)]
      · have hb : (g == k) = false := beq_eq_false_iff_ne.mpr h
        simp only [List.lookup, hb, if_neg (fun e : g = f => h (e.trans hk.symm))]
    · rw [if_neg hk]
      by_cases h : g = k
      · have hb : (g == k) = true := beq_iff_eq.mpr h
        simp only [List.lookup, hb, if_neg (fun e : g = f => hk (h.symm.trans e))]
      · have hb : (g == k) = false := beq_eq_false_iff_ne.mpr h
        simp only [List.lookup, hb]
        exact ih
theorem keys_putF (f : Str) (v : V) : ∀ fs : List (Str × V), f ∈ (putF f v fs).map (·.1) ∧ ∀ g, g ∈ fs.map (·.1) → g ∈ (putF f v fs).map (·.1)
  | [] => ⟨by simp [putF], fun g h => by simp at h⟩
  | (k, x) :: r => by
    obtain ⟨i1, i2⟩ := keys_putF f v r
    rw [show putF f v ((k, x) :: r) = (if k = f then (k, v) :: r else (k, x) :: putF f v r) from rfl]
    by_cases hk : k = f
    · rw [if_pos hk]
      subst hk
      exact ⟨by simp, fun g h => by simpa using h⟩
    · rw [if_neg hk]
      refine ⟨?_, fun g h => ?_⟩
      · rw [List.map_cons]
        exact List.mem_cons_of_mem _ i1
      · rw [List.map_cons] at h ⊢
        rcases List.mem_cons.mp h with e | e
        · exact List.mem_cons.mpr (.inl e)
        · exact List.mem_cons_of_mem _ (i2 g e)
theorem length_putF (f : Str) (v : V) : ∀ fs : List (Str × V), (putF f v fs).length ≤ fs.length + 1
  | [] => by simp [putF]
  | (k, x) :: r => by
    have ih := length_putF f v r
    rw [show putF f v ((k, x) :: r) = (if k = f then (k, v) :: r else (k, x) :: putF f v r) from rfl]
    by_cases hk : k = f
    · rw [if_pos hk, List.length_cons, List.length_cons]; omega
    · rw [if_neg hk, List.length_cons, List.length_cons]; omega

theorem RelO.some_of {v : V} {o : Option Value} (r : RelO (some v) o) : ∃ u, o = some u ∧ RelV v u := by
  cases o with
  | none => exact (show False from r).elim
  | some u => exact ⟨u, rfl, r⟩
theorem RelO.none_of {o : Option Value} (r : RelO none o) : o = none := by
  cases o with
  | none => rfl
  | some u => exact (show False from r).elim
theorem handed_of {v : V} {u : Value} (r : RelV v u) : PySem.W.handedIn u = true := by
  cases v with
  | non => cases (show u = Value.none from r); rfl
  | bl b => cases (show u = Value.bool b from r); rfl
  | int i => obtain ⟨t, e⟩ := (show ∃ t, u = Value.int i t from r); cases e; rfl
  | str x => obtain ⟨t, e⟩ := (show ∃ t, u = Value.str x t from r); cases e; rfl
  | byt b => obtain ⟨t, e⟩ := (show ∃ t, u = Value.bytes b t from r); cases e; rfl
  | flt b => obtain ⟨t, e⟩ := (show ∃ t, u = Value.float b t from r); cases e; rfl
  | ref a => cases (show u = Value.ref a from r); rfl
  | ty n => cases (show u = Value.type n from r); rfl

section
variable {P : Program} {w : World} {H H' : Hp} {h h' : Heap} {a C dx : Addr} {fs fs' : List (Str × V)}
theorem ins_get (hok : HOk P w H h) (e : H a = some (.ins C dx fs)) : ∃ mA, ObjM h a dx C mA ∧ (∀ f, RelO (fs.lookup f) (mA f)) ∧ PySem.Within mA (fs.map (·.1)) ∧ fs.length ≤ 1000 ∧ H dx = some (.own a) := by
  obtain ⟨d, z, ne, ob, mA, n, r, q⟩ := (show ObjOk P w H h a (.ins C dx fs) from hok a _ e)
  exact ⟨mA, ⟨ob, n, ne⟩, r, q, z, d⟩
end

/-! ### what of the text a class must have -/
structure Cls (K : PySem.W.Frag) (C : Addr) : Prop where
  pg : PySem.W.plainGet K C Str.empty = true
  hd : PySem.W.hasDictIn K C = true
  po : PySem.W.plainOver K C = true
  sa : PySem.W.findIn K (.ref C) "__setattr__" = some (some (.builtin "object.__setattr__"))
theorem Cls.get {K : PySem.W.Frag} {C : Addr} (c : Cls K C) (f : Str) : PySem.W.plainGet K C f = true := c.pg
/-- no class of it has the name -/
def NoAttr (K : PySem.W.Frag) (C : Addr) (f : Str) : Prop := PySem.W.findIn K (.ref C) f = some none
theorem NoAttr.taker {K : PySem.W.Frag} {C : Addr} {f : Str} (n : NoAttr K C f) : PySem.W.takerIn K C f = some none := by
  unfold PySem.W.takerIn
  rw [show PySem.W.findIn K (.ref C) f = some none from n]
  rfl
/-- a constant of the class -/
structure Con (K : PySem.W.Frag) (C : Addr) (f : Str) (v : V) (u : Value) : Prop where
  at_ : PySem.W.findIn K (.ref C) f = some (some u)
  rel : RelV v u
  get : PySem.W.specialIn K u "__get__" = some none
  cp : PySem.W.copiedNames.contains f = false
/-- a method: a plain def of the class or of one above it -/
structure Meth (K : PySem.W.Frag) (C : Addr) (m : Str) (f : Addr) : Prop where
  at_ : PySem.W.findIn K (.ref C) m = some (some (.ref f))
  fn : PySem.W.isFn K (.ref f) = true
  kp : PySem.W.keepIn K (.ref f) = true

section
variable {X : Cx} {pins : List (Addr × Obj)} {σ : St} {H : Hp} {s : Shared} {a C dx : Addr} {fs : List (Str × V)} {f : Str} {v : V} {A : Around} {E : Value → Shared → Prop}

theorem getattr_ok {b : Bool} {Q : Value → Shared → Prop} (I : Inv X pins σ H s) (e : H a = some (.ins C dx fs)) (c : Cls X.K C) (n : NoAttr X.K C f) (l : fs.lookup f = some v)
    (h : ∀ u s', Inv X pins σ H s' → RelV v u → Q u s') : wpAny (model X.prog X.w) A (getAttr (.ref a) f b) Q E s := by
  obtain ⟨mA, O, r, _, _, _⟩ := ins_get I.hok e
  obtain ⟨u, hu, ru⟩ := RelO.some_of (v := v) (o := mA f) (by rw [← l]; exact r f)
  exact get_map I.kIn O (c.get f) c.hd n hu (handed_of ru) (h u _ (I.tok _) ru)

theorem getcon_ok {b : Bool} {u : Value} {Q : Value → Shared → Prop} (I : Inv X pins σ H s) (e : H a = some (.ins C dx fs)) (c : Cls X.K C) (k : Con X.K C f v u) (l : fs.lookup f = none)
    (h : ∀ s', Inv X pins σ H s' → Q u s') : wpAny (model X.prog X.w) A (getAttr (.ref a) f b) Q E s := by
  obtain ⟨mA, O, r, _, _, _⟩ := ins_get I.hok e
  have hn : mA f = none := RelO.none_of (by rw [← l]; exact r f)
  exact get_const I.kIn O (c.get f) c.hd k.at_ k.get k.cp hn (handed_of k.rel) (h _ (I.tok _))

theorem getmeth_ok {m : Str} {g : Addr} {pl : Sem Bool} {Q : Value × List Value → Shared → Prop} (I : Inv X pins σ H s) (e : H a = some (.ins C dx fs)) (c : Cls X.K C) (k : Meth X.K C m g) (l : fs.lookup m = none)
    (h : Q (.ref g, [.ref a]) s) : wpAny (model X.prog X.w) A (getMethod (.ref a) m pl) Q E s := by
  obtain ⟨mA, O, r, _, _, _⟩ := ins_get I.hok e
  have hn : mA m = none := RelO.none_of (by rw [← l]; exact r m)
  exact get_meth I.kIn O (c.get m) k.at_ k.fn hn h

theorem setattr_ok {y : V} {u : Value} {Q : Unit → Shared → Prop} (I : Inv X pins σ H s) (e : H a = some (.ins C dx fs)) (c : Cls X.K C) (n : NoAttr X.K C f) (hl : fs.length < 1000) (ry : RelV y u)
    (h : ∀ s', Inv X pins σ (upd H a (.ins C dx (putF f y fs))) s' → Q () s') : wpAny (model X.prog X.w) A (setAttr (.ref a) f u) Q E s := by
  obtain ⟨mA, O, r, wi, _, ho⟩ := ins_get I.hok e
  have hz : (fs.map (·.1)).length ≤ sizeLine := by rw [List.length_map, sizeLine_eq]; omega
  refine set_map I.kIn O c.sa c.po n.taker c.hd wi hz fun h' O' sb => h _ ?_
  have hd : ∃ o, h'.get? dx = some o := let ⟨o, _, _, e', _⟩ := O'.ns; ⟨o, e'⟩
  refine I.write (x := a) (e := dx) (by rw [e]; exact True.intro) (.inr ho) (fun b q hb z => (sb.2 b hb).trans z) hd ?_
  refine ⟨by rw [upd_ne O.ne]; exact ho, ?_, O.ne, O'.obj, _, O'.ns, fun g => ?_, fun g hg => ?_⟩
  · have := length_putF f y fs; omega
  · show RelO ((putF f y fs).lookup g) (if g = f then some u else mA g)
    rw [lookup_putF]
    by_cases q : g = f
    · rw [if_pos q, if_pos q]; exact ry
    · rw [if_neg q, if_neg q]; exact r g
  · by_cases q : g = f
    · rw [q]; exact (keys_putF f y fs).1
    · refine (keys_putF f y fs).2 g (wi g fun z => hg ?_)
      show (if g = f then some u else mA g) = none
      rw [if_neg q]; exact z

/-- a new instance, tracked, without attributes -/
theorem Inv.made (I : Inv X pins σ H s) : Inv X pins σ (upd (upd H s.heap.objs.size (.own (s.heap.objs.size + 1))) (s.heap.objs.size + 1) (.ins C s.heap.objs.size []))
    { s with heap := (s.heap.push PySem.W.emptyDict).push (PySem.W.instObj C s.heap.objs.size) } := by
  have e1 : (s.heap.push PySem.W.emptyDict).get? s.heap.objs.size = some PySem.W.emptyDict := Heap.get?_push_size s.heap rfl
  have e2 : ((s.heap.push PySem.W.emptyDict).push (PySem.W.instObj C s.heap.objs.size)).get? (s.heap.objs.size + 1) = some (PySem.W.instObj C s.heap.objs.size) := by
    have := Heap.get?_push_size (s.heap.push PySem.W.emptyDict) (o := PySem.W.instObj C s.heap.objs.size) rfl
    rwa [Heap.size_push] at this
  have e3 : (s.heap.push PySem.W.emptyDict).Ns s.heap.objs.size (fun _ => none) := ⟨PySem.W.emptyDict, #[], _, e1, rfl, (fun e he => absurd he (by simp)), fun _ => rfl⟩
  have I1 := I.laid (a := s.heap.objs.size) (o := .own (s.heap.objs.size + 1)) (h' := s.heap.push PySem.W.emptyDict) (t' := s.toks) (fun b u q => Heap.get?_push_of_some _ q) (Nat.le_refl _) ⟨_, e1⟩
  refine I1.laid (a := s.heap.objs.size + 1) (o := .ins C s.heap.objs.size []) (t' := s.toks) (fun b u q => Heap.get?_push_of_some _ q) (Nat.le_of_eq (Heap.size_push _ _)) ?_
  have ne : s.heap.objs.size ≠ s.heap.objs.size + 1 := Nat.ne_of_lt (Nat.lt_succ_self _)
  refine ⟨by rw [upd_ne ne, upd_same], Nat.zero_le _, ne, e2, fun _ => none, (Heap.Ns1.of_empty e3).at fun o q => Heap.get?_push_of_some _ q, fun _ => True.intro, fun y hy => absurd rfl hy⟩

/-- e.f where nothing but the object is asked: through attributeBase (super) and the last hold -/
theorem attr_of {prog : Program} {w : World} {env : Env} {e : Expr} {f : Str} {pos : Pos} {s : Shared} {Q : Value → Shared → Prop} (hb : attributeBase e f env (eval e env) = eval e env)
    (h : wpAny (model prog w) A (eval e env) (fun o s₁ => wpAny (model prog w) A (getAttr o f true) Q E s₁) E s) : wpAny (model prog w) A (eval (.Attribute e f pos) env) Q E s :=
  Attribute_any_ h (by rw [arm_eval_Attribute, hb])
end

/-! ### readings and rules -/
/-- e.f, an attribute of the instance -/
def tFld (K : PySem.W.Frag) (ta : TE) (f : Str) : TE := fun σ H Q => ta σ H fun x H1 => ∃ a C dx fs v, x = .ref a ∧ H1 a = some (.ins C dx fs) ∧ Cls K C ∧ NoAttr K C f ∧ fs.lookup f = some v ∧ Q v H1
/-- e.f, a constant of the class -/
def tCon (K : PySem.W.Frag) (ta : TE) (f : Str) : TE := fun σ H Q => ta σ H fun x H1 => ∃ a C dx fs v u, x = .ref a ∧ H1 a = some (.ins C dx fs) ∧ Cls K C ∧ Con K C f v u ∧ fs.lookup f = none ∧ Q v H1
/-- e.f = value -/
def sFld (K : PySem.W.Frag) (ta tv : TE) (f : Str) : TS := fun D σ H => tv σ H fun y H1 => ta σ H1 fun x H2 => ∃ a C dx fs, x = .ref a ∧ H2 a = some (.ins C dx fs) ∧ Cls K C ∧ NoAttr K C f ∧ fs.length < 1000 ∧
  D.nx σ (upd H2 a (.ins C dx (putF f y fs)))
/-- an augmented operator on two values -/
def InOp (X : Cx) (op : Operator) (rd : V → V → Hp → VK → Prop) : Prop :=
  ∀ (pins : List (Addr × Obj)) (s : Shared) (σ : St) (H : Hp) (x y : V) (u v : Value) (Q : VK), Inv X pins σ H s → RelV x u → RelV y v → rd x y H Q → wpAny (model X.prog X.w) X.A (inplaceOp op u v) (EP X pins σ Q) X.xe s
/-- e.f op= value -/
def sFldAug (K : PySem.W.Frag) (ta tv : TE) (rd : V → V → Hp → VK → Prop) (f : Str) : TS := fun D σ H => ta σ H fun x H1 => ∃ a C dx fs v, x = .ref a ∧ H1 a = some (.ins C dx fs) ∧ Cls K C ∧ NoAttr K C f ∧ fs.lookup f = some v ∧
  tv σ H1 fun y H2 => rd v y H2 fun z H3 => ∃ dx' fs', H3 a = some (.ins C dx' fs') ∧ fs'.length < 1000 ∧ D.nx σ (upd H3 a (.ins C dx' (putF f z fs')))

section
variable {X : Cx} {o e value : Expr} {f : Str} {pos pos' tpos : Pos} {ta tv : TE}
theorem pe_fld (he : PE X e ta) (hb : attributeBase e f X.env (eval e X.env) = eval e X.env) : PE X (.Attribute e f pos) (tFld X.K ta f) := by
  intro pins s σ H Q I h
  refine attr_of hb (thn (he pins s σ H _ I h) fun u s1 ⟨x, H1, I1, rx, a, C, dx, fs, v, ex, ea, c, n, l, q⟩ => ?_)
  subst ex
  obtain rfl : u = Value.ref a := rx
  exact getattr_ok I1 ea c n l fun u' s2 I2 ru => ⟨v, H1, I2, ru, q⟩
theorem pe_con (he : PE X e ta) (hb : attributeBase e f X.env (eval e X.env) = eval e X.env) : PE X (.Attribute e f pos) (tCon X.K ta f) := by
  intro pins s σ H Q I h
  refine attr_of hb (thn (he pins s σ H _ I h) fun u s1 ⟨x, H1, I1, rx, a, C, dx, fs, v, u0, ex, ea, c, k, l, q⟩ => ?_)
  subst ex
  obtain rfl : u = Value.ref a := rx
  exact getcon_ok I1 ea c k l fun s2 I2 => ⟨v, H1, I2, k.rel, q⟩
theorem ps_fld (ha : PE X o ta) (hv : PE X value tv) (hs : swapsWith value (some (.Attribute o f pos')) pos.line X.env = pure false) : PS X (.Assign [.Attribute o f pos'] value pos) (sFld X.K ta tv f) := by
  intro pins s σ H D I h
  refine plainObj_wpAny_Assign_Attribute (thn (hv pins s σ H _ I h) fun u s1 ⟨y, H1, I1, ry, q⟩ => thn (ha pins s1 σ H1 _ I1 q) fun ov s2 ⟨x, H2, I2, rx, a, C, dx, fs, ex, ea, c, n, l, q2⟩ => ?_) hs
  subst ex
  obtain rfl : ov = Value.ref a := rx
  exact setattr_ok I2 ea c n l ry fun s3 I3 => ⟨σ, _, I3, q2⟩
theorem ps_fldaug {op : Operator} {rd : V → V → Hp → VK → Prop} (ha : PE X o ta) (hv : PE X value tv) (hop : InOp X op rd) : PS X (.AugAssign (.Attribute o f tpos) op value pos) (sFldAug X.K ta tv rd f) := by
  intro pins s σ H D I h
  refine wpAny_AugAssign_AttributeAny (thn (ha pins s σ H _ I h) fun ov s1 ⟨x, H1, I1, rx, a, C, dx, fs, v, ex, ea, c, n, l, q⟩ => ?_)
  subst ex
  obtain rfl : ov = Value.ref a := rx
  refine getattr_ok I1 ea c n l fun u s2 I2 ru => thn (hv pins s2 σ H1 _ I2 q) fun w3 s3 ⟨y, H2, I3, ry, q3⟩ => thn (hop pins s3 σ H2 v y u w3 _ I3 ru ry q3) fun w4 s4 ⟨z, H3, I4, rz, dx', fs', ea', l', q4⟩ => ?_
  exact setattr_ok I4 ea' c n l' rz fun s5 I5 => ⟨σ, _, I5, q4⟩
def rAdd : V → V → Hp → VK → Prop := fun x y H Q => ∃ i j, x = .int i ∧ y = .int j ∧ Q (.int (i + j)) H
def rSub : V → V → Hp → VK → Prop := fun x y H Q => ∃ i j, x = .int i ∧ y = .int j ∧ Q (.int (i - j)) H
theorem in_add : InOp X .Add rAdd := by
  rintro pins s σ H x y u v Q I rx ry ⟨i, j, rfl, rfl, q⟩
  obtain ⟨t, rfl⟩ := (show ∃ t, u = Value.int i t from rx)
  obtain ⟨t', rfl⟩ := (show ∃ t', v = Value.int j t' from ry)
  exact PyProof.Rows.iadd_int ⟨.int (i + j), H, I.tok _, ⟨_, rfl⟩, q⟩
theorem in_sub : InOp X .Sub rSub := by
  rintro pins s σ H x y u v Q I rx ry ⟨i, j, rfl, rfl, q⟩
  obtain ⟨t, rfl⟩ := (show ∃ t, u = Value.int i t from rx)
  obtain ⟨t', rfl⟩ := (show ∃ t', v = Value.int j t' from ry)
  exact PyProof.Rows.isub_int ⟨.int (i - j), H, I.tok _, ⟨_, rfl⟩, q⟩

/-- what is between an instance and its method: the tree of a method call -/
theorem methcall_of {pl : Sem Bool} {m : Str} {apos : Pos} {args : List Expr} {pins : List (Addr × Obj)} {s : Shared} {σ : St} {H : Hp} {Q : Value → Shared → Prop} {te : TE} (he : PE X e te) (I : Inv X pins σ H s)
    (h : te σ H fun x H1 => ∃ a C dx fs g, x = .ref a ∧ H1 a = some (.ins C dx fs) ∧ Cls X.K C ∧ Meth X.K C m g ∧ fs.lookup m = none ∧
      ∀ s1, Inv X pins σ H1 s1 → wpAny (model X.prog X.w) X.A (callWith pos (.ref g) [.ref a] (backTo pos (starEach args X.env)) (backToKw pos (keywordEach [] X.env))) Q X.xe s1)
    (ht : eval (.Call (.Attribute e m apos) args [] pos) X.env = (do
      let ov ← eval e X.env
      standAt apos.atName
      let (f, first) ← holding [ov] (getMethod ov m pl)
      callWith pos f first (backTo pos (starEach args X.env)) (backToKw pos (keywordEach [] X.env)))) :
    wpAny (model X.prog X.w) X.A (eval (.Call (.Attribute e m apos) args [] pos) X.env) Q X.xe s := by
  refine PySem.W.methodCall_KW (pl := pl) (thn (he pins s σ H _ I h) fun u s1 ⟨x, H1, I1, rx, a, C, dx, fs, g, ex, ea, c, k, l, q⟩ => ?_) ht
  subst ex
  obtain rfl : u = Value.ref a := rx
  exact getmeth_ok I1 ea c k l (q s1 I1)
end

/-! ### isinstance -/
section
variable {X : Cx} {pins : List (Addr × Obj)} {σ : St} {H : Hp} {s : Shared} {A : Around} {E : Value → Shared → Prop} {Q : Value → Shared → Prop} {c : Value} {b : Bool}
/-- the type of a value, as the fragment's deciders take it; for an instance its class -/
inductive TyOf (K : PySem.W.Frag) (H : Hp) : V → Value → Prop where
  | non : TyOf K H .non (.type "NoneType")
  | bl (x : Bool) : TyOf K H (.bl x) (.type "bool")
  | int (i : Int) : TyOf K H (.int i) (.type "int")
  | str (x : Str) : TyOf K H (.str x) (.type "str")
  | flt (x : UInt64) : TyOf K H (.flt x) (.type "float")
  | lst {a : Addr} {xs : List V} (e : H a = some (.lst xs)) : TyOf K H (.ref a) (.type "list")
  | frz {a : Addr} {o : Obj} {xs : List V} (e : H a = some (.frz o (.lst xs))) : TyOf K H (.ref a) (.type "list")
  | tup {a : Addr} {xs : List V} (e : H a = some (.tup xs)) : TyOf K H (.ref a) (.type "tuple")
  | dK {a : Addr} {kvs : List (Key × V)} (e : H a = some (.dK kvs)) : TyOf K H (.ref a) (.type "dict")
  | dT {a : Addr} {kvs : List (List Key × V)} (e : H a = some (.dT kvs)) : TyOf K H (.ref a) (.type "dict")
  | ins {a C dx : Addr} {fs : List (Str × V)} (e : H a = some (.ins C dx fs)) (cl : Cls K C) (ha : PySem.W.findIn K (.ref C) "__class__" = some (some (.builtin "object.__class__")))
      (hn : PySem.W.specialIn K (.builtin "object.__class__") "__get__" = some (some (.builtin "getset_descriptor.__get__"))) (htk : PySem.W.takesIn K (.builtin "object.__class__") = some true)
      (hm : PySem.W.mroIn K C (.type "object") = some true) : TyOf K H (.ref a) (.ref C)
/-- isinstance(x, c) for one class c, a built-in or an own one: kitOne's answer -/
theorem isinst_ok {x : V} {u t : Value} (I : Inv X pins σ H s) (rx : RelV x u) (ty : TyOf X.K H x t) (e : PySem.W.kitOne X.K t c = some b) (h : ∀ tk, Q (.bool b) { s with toks := tk }) :
    wpAny (model X.prog X.w) A (call (.builtin "isinstance") [u, c]) Q E s := by
  cases ty with
  | non => cases (show u = Value.none from rx); exact PySem.W.kia_one PySem.W.kitx_none I.kIn True.intro e (fun z => nomatch z) h
  | bl y => cases (show u = Value.bool y from rx); exact PySem.W.kia_one PySem.W.kitx_bool I.kIn True.intro e (fun z => nomatch z) h
  | int i => obtain ⟨t, q⟩ := (show ∃ t, u = Value.int i t from rx); cases q; exact PySem.W.kia_one PySem.W.kitx_int I.kIn True.intro e (fun z => nomatch z) h
  | str y => obtain ⟨t, q⟩ := (show ∃ t, u = Value.str y t from rx); cases q; exact PySem.W.kia_one PySem.W.kitx_str I.kIn True.intro e (fun z => nomatch z) h
  | flt y => obtain ⟨t, q⟩ := (show ∃ t, u = Value.float y t from rx); cases q; exact PySem.W.kia_one PySem.W.kitx_float I.kIn True.intro e (fun z => nomatch z) h
  | @lst a xs ea =>
    cases (show u = Value.ref a from rx)
    obtain ⟨_, _, n, _, h1⟩ := (show ObjOk X.prog X.w H s.heap a (.lst xs) from I.hok a _ ea)
    exact PySem.W.kia_one PySem.W.kitx_list I.kIn ⟨_, h1, rfl⟩ e (fun z => nomatch z) h
  | @frz a ob xs ea =>
    cases (show u = Value.ref a from rx)
    obtain ⟨_, _, _, n, _, h1⟩ := (show ObjOk X.prog X.w H s.heap a (.frz ob (.lst xs)) from I.hok a _ ea)
    exact PySem.W.kia_one PySem.W.kitx_list I.kIn ⟨_, h1, rfl⟩ e (fun z => nomatch z) h
  | @tup a xs ea =>
    cases (show u = Value.ref a from rx)
    obtain ⟨_, _, _, p⟩ := (show ObjOk X.prog X.w H s.heap a (.tup xs) from I.hok a _ ea)
    obtain ⟨o, h1, h2, _⟩ := p
    exact PySem.W.kia_one PySem.W.kitx_tuple I.kIn ⟨o, h1, h2⟩ e (fun z => nomatch z) h
  | @dK a kvs ea =>
    cases (show u = Value.ref a from rx)
    obtain ⟨_, _, vs, _, p⟩ := (show ObjOk X.prog X.w H s.heap a (.dK kvs) from I.hok a _ ea)
    obtain ⟨o, es, ep, h1, h2, _⟩ := p
    exact PySem.W.kia_one PySem.W.kitx_dict I.kIn ⟨o, h1, h2.1⟩ e (fun z => nomatch z) h
  | @dT a kvs ea =>
    cases (show u = Value.ref a from rx)
    obtain ⟨_, _, xs, _, o, es, ep, h1, h2, _⟩ := (show ObjOk X.prog X.w H s.heap a (.dT kvs) from I.hok a _ ea)
    exact PySem.W.kia_one PySem.W.kitx_dict I.kIn ⟨o, h1, h2.1⟩ e (fun z => nomatch z) h
  | @ins a C dx fs ea cl ha hn htk hm =>
    cases (show u = Value.ref a from rx)
    obtain ⟨mA, O, _⟩ := ins_get I.hok ea
    obtain ⟨od, J, _⟩ := O.look
    exact PySem.W.kia_one (PySem.W.kitx_own (cl.get _) cl.hd ha hn htk hm) I.kIn J e (fun z => nomatch z) h
end
end L2
namespace L2
open PySem PySem.Spec PyProof.Rows

/-! ### room -/
structure Room (k : Nat) (A : Around) : Prop where
  hd : A.handled = none
  dp : A.depth + 3 * k + 5 < recursionLimit
  un : A.units + 16 * k + 200 < cLine
theorem Room.mono {j k : Nat} {A : Around} (r : Room k A) (h : j ≤ k) : Room j A := ⟨r.hd, by have := r.dp; omega, by have := r.un; omega⟩
theorem Room.deeper {k : Nat} {A : Around} (r : Room (k + 1) A) (env : Env) : Room k (A.deeper env) :=
  ⟨r.hd, by have := r.dp; show A.depth + 1 + 3 * k + 5 < _; omega, by have := r.un; show A.units + 3 + 16 * k + 200 < _; omega⟩
theorem Room.in1 {k : Nat} {A : Around} (r : Room (k + 1) A) : Room k A.in1 :=
  ⟨r.hd, by have := r.dp; show A.depth + 3 * k + 5 < _; omega, by have := r.un; show A.units + 1 + 16 * k + 200 < _; omega⟩
theorem make_depth {A : Around} {C : Addr} {us : List Value} {kw : List (Str × Value)} : (A.under (.builtin "type.__call__" ⟨.ref C :: us, kw⟩)).depth = A.depth + 1 := by
  first | rfl | simp [Around.under, Code.weight, Code.isCreation, Code.isGuard, Code.isCaller, Code.frames, Code.isFrame, guardIds]
theorem make_units {A : Around} {C : Addr} {us : List Value} {kw : List (Str × Value)} : (A.under (.builtin "type.__call__" ⟨.ref C :: us, kw⟩)).units = A.units + 1 := by
  first | rfl | simp [Around.under, Code.cUnits, Code.frames, Code.isFrame]
theorem Room.make {k : Nat} {A : Around} (r : Room (k + 1) A) (C : Addr) (us : List Value) (kw : List (Str × Value)) : Room k (A.under (.builtin "type.__call__" ⟨.ref C :: us, kw⟩)) :=
  ⟨r.hd, by have := r.dp; rw [make_depth]; omega, by have := r.un; rw [make_units]; omega⟩
theorem Room.depth {k : Nat} {A : Around} (r : Room k A) : A.depth < recursionLimit := by have := r.dp; omega
theorem Room.units {k : Nat} {A : Around} (r : Room k A) : A.units + 64 < cLine := by have := r.un; omega
theorem Room.units0 {k : Nat} {A : Around} (r : Room k A) : A.units < cLine := by have := r.un; omega

/-! ### argument lists and displays -/
def tNil : TA := fun _ H Q => Q [] H
def tCons (ta : TE) (tr : TA) : TA := fun σ H Q => ta σ H fun x H1 => tr σ H1 fun xs H2 => Q (x :: xs) H2
section
variable {X : Cx} {e : Expr} {es : List Expr} {te : TE} {t : TA} {pos : Pos}
theorem pa_nil : PA X [] tNil := fun _ _ _ _ H Q I h => Calls.spliced_nil ⟨[], H, I, .nil, h⟩
theorem pa_cons (ha : PE X e te) (hr : PA X es t) (hs : starEach (e :: es) X.env = (false, eval e X.env) :: starEach es X.env := by rfl) : PA X (e :: es) (tCons te t) := by
  intro pos pins s σ H Q I h
  rw [hs]
  show wpAny _ _ (spliced ((false, eval e X.env) :: backTo pos (starEach es X.env))) _ _ s
  refine Calls.spliced_cons (thn (ha pins s σ H _ I h) fun u s1 ⟨x, H1, I1, r1, q1⟩ => ?_)
  exact thn (hr pos pins s1 σ H1 _ I1 q1) fun us s2 ⟨xs, H2, I2, r2, q2⟩ => ⟨x :: xs, H2, I2, .cons r1 r2, q2⟩

/-- a tuple, a list of written items -/
def tTup (t : TA) : TE := fun σ H Q => t σ H fun xs H1 => xs.length ≤ sizeLine ∧ ∀ p, H1 p = none → Q (.ref p) (upd H1 p (.tup xs))
def tLst (t : TA) : TE := fun σ H Q => t σ H fun xs H1 => xs.length ≤ sizeLine ∧ ∀ p, H1 p = none → Q (.ref p) (upd H1 p (.lst xs))
theorem pe_tup {x1} (h : PA X es t) : PE X (.Tuple es x1 pos) (tTup t) := by
  intro pins s σ H Q I hq
  refine wpAny_Tuple_spliced (thn (h pos pins s σ H _ I hq) fun us s1 ⟨xs, H1, I1, r, z, q⟩ => ⟨by rw [← r.length]; exact z, ?_⟩)
  have hf : H1 s1.heap.objs.size = none := I1.hok.fresh (Nat.le_refl _)
  refine ⟨.ref s1.heap.objs.size, upd H1 s1.heap.objs.size (.tup xs), I1.laid (t' := s1.toks) (fun b u e => Heap.get?_push_of_some _ e) (Nat.le_refl _) ?_, rfl, q _ hf⟩
  exact ⟨z, us, r, ⟨_, Heap.get?_push_size _ rfl, rfl, _, rfl⟩⟩
theorem pe_lst (h : PA X es t) : PE X (.List es pos) (tLst t) := by
  intro pins s σ H Q I hq
  refine wpAny_List_spliced (thn (h pos pins s σ H _ I hq) fun us s1 ⟨xs, H1, I1, r, z, q⟩ => ⟨by rw [← r.length]; exact z, ?_⟩)
  have hf : H1 s1.heap.objs.size = none := I1.hok.fresh (Nat.le_refl _)
  refine ⟨.ref s1.heap.objs.size, upd H1 s1.heap.objs.size (.lst xs), I1.laid (t' := s1.toks) (fun b u e => Heap.get?_push_of_some _ e) (Nat.le_refl _) ?_, rfl, q _ hf⟩
  exact ⟨z, us, 0, r, Heap.get?_push_size _ rfl⟩
end

/-! ### what a def promises -/
/-- a def's promise: the bound arguments in the parameters' order, the heap, the wanted end, the wanted exception -/
abbrev Sp := List V → Hp → VK → XK → Prop
/-- how an exception lies behind a call (file 08 gives it): the callers' frames, abstract heap and state ahead of the call, the wish, the exception, the state -/
abbrev CXT := List Env → Hp → Shared → XK → Value → Shared → Prop

/-- the state at a call -/
structure Env0 (P : Program) (w : World) (K : PySem.W.Frag) (mg : Str → Option Value) (base : Heap) (A : Around) (outer : List Env) (s : Shared) (H : Hp) : Prop where
  frames : A.frames = some outer
  mod : Mod K mg base
  bs : ∀ b o, base.get? b = some o → s.heap.get? b = some o ∧ H b = none
  bsz : base.objs.size ≤ s.heap.objs.size
  funs : s.heap.FunFrames base outer
  frf : ∀ b ∈ frs outer, H b = none
  hok : HOk P w H s.heap
  bare : AllBare s.gens
/-- a call's end -/
def CE (outer : List Env) (P : Program) (w : World) (H : Hp) (s : Shared) (Q : VK) (u : Value) (s' : Shared) : Prop :=
  ∃ v H', s'.os = s.os ∧ AllBare s'.gens ∧ Un (frs outer) [] H H' s.heap s'.heap ∧ HOk P w H' s'.heap ∧ RelV v u ∧ Q v H'
def CR (CX : CXT) (outer : List Env) (P : Program) (w : World) (H : Hp) (s : Shared) (Q : VK) (E : XK) (r : Result) (s' : Shared) : Prop :=
  match r with
  | .ok (.ret u) => CE outer P w H s Q u s'
  | .ok _ => False
  | .error e => CX outer H s E e s'
structure FnOk (P : Program) (w : World) (K : PySem.W.Frag) (mg : Str → Option Value) (base : Heap) (CX : CXT) (k : Nat) (f : Addr) (fd : FuncData) (ps : List Str) (sp : Sp) : Prop where
  len : ∀ vs H Q E, sp vs H Q E → vs.length = ps.length
  run : ∀ (A : Around) (outer : List Env) (s : Shared) (H : Hp) (args : Args) (us : List Value) (vs : List V) (Q : VK) (E : XK), Room k A → Env0 P w K mg base A outer s H → BindsTo s fd args (ps.zip us) → Vals vs us → sp vs H Q E →
    codeAny (model P w) A (.call (.ref f) args) (CR CX outer P w H s Q E) s
theorem FnOk.mono {P : Program} {w : World} {K : PySem.W.Frag} {mg : Str → Option Value} {base : Heap} {CX : CXT} {j k : Nat} {f : Addr} {fd : FuncData} {ps : List Str} {sp : Sp} (F : FnOk P w K mg base CX j f fd ps sp) (h : j ≤ k) :
    FnOk P w K mg base CX k f fd ps sp := ⟨F.len, fun A outer s H args us vs Q E hr => F.run A outer s H args us vs Q E (hr.mono h)⟩
/-- a weaker promise -/
theorem FnOk.imp {P : Program} {w : World} {K : PySem.W.Frag} {mg : Str → Option Value} {base : Heap} {CX : CXT} {k : Nat} {f : Addr} {fd : FuncData} {ps : List Str} {sp sp' : Sp} (F : FnOk P w K mg base CX k f fd ps sp)
    (h : ∀ vs H Q E, sp' vs H Q E → sp vs H Q E) : FnOk P w K mg base CX k f fd ps sp' :=
  ⟨fun vs H Q E q => F.len vs H Q E (h _ _ _ _ q), fun A outer s H args us vs Q E hr he hb hv hs => F.run A outer s H args us vs Q E hr he hb hv (h _ _ _ _ hs)⟩

theorem Env0.make {P : Program} {w : World} {K : PySem.W.Frag} {mg : Str → Option Value} {base : Heap} {A : Around} {outer : List Env} {s : Shared} {H : Hp} (e : Env0 P w K mg base A outer s H) (C : Addr) (us : List Value) (kw : List (Str × Value)) :
    Env0 P w K mg base (A.under (.builtin "type.__call__" ⟨.ref C :: us, kw⟩)) outer s H := ⟨by first | exact e.frames | (simpa [Around.under, Code.envs, Code.isFrame, pushEnvs] using e.frames), e.mod, e.bs, e.bsz, e.funs, e.frf, e.hok, e.bare⟩
theorem Env0.in1 {P : Program} {w : World} {K : PySem.W.Frag} {mg : Str → Option Value} {base : Heap} {A : Around} {outer : List Env} {s : Shared} {H : Hp} (e : Env0 P w K mg base A outer s H) :
    Env0 P w K mg base A.in1 outer s H := ⟨e.frames, e.mod, e.bs, e.bsz, e.funs, e.frf, e.hok, e.bare⟩

section
variable {X : Cx} {pins : List (Addr × Obj)} {σ : St} {H : Hp} {s s' : Shared}
/-- from a body: what a callee wants -/
theorem Inv.env0 (I : Inv X pins σ H s) : Env0 X.prog X.w X.K X.mg X.base X.A X.stack s H :=
  ⟨I.ok.frames, I.ok.mod, I.bs, Nat.le_trans I.ok.bsz I.sz, I.stack, I.stkFree, I.hok, I.bare⟩
/-- behind a call -/
theorem Inv.after {Q : VK} {u : Value} (I : Inv X pins σ H s) (h : CE X.stack X.prog X.w H s Q u s') : EP X pins σ Q u s' := by
  obtain ⟨v, H', os, bare, un, hok, r, q⟩ := h
  obtain ⟨hh, g, d, t, os'⟩ := s'
  obtain rfl : os' = s.os := os
  exact ⟨v, H', I.call (h' := hh) (g' := g) (d' := d) (t' := t) (ch := []) un hok bare (fun b z => absurd z (by simp)), r, q⟩
end

/-! ### calls -/
/-- f(..): the written arguments, then the defaults dvs; E: what is wanted of an exception -/
def tCall (sp : Sp) (dvs : List V) (E : XK) (t : TA) : TE := fun σ H Q => t σ H fun vs H1 => sp (vs ++ dvs) H1 Q E
/-- o.m(..) of an instance of the class at C -/
def tMeth (C : Addr) (m : Str) (sp : Sp) (dvs : List V) (E : XK) (ta : TE) (t : TA) : TE := fun σ H Q => ta σ H fun x H1 => ∃ a dx fs, x = .ref a ∧ H1 a = some (.ins C dx fs) ∧ fs.lookup m = none ∧
  t σ H1 fun vs H2 => sp (x :: (vs ++ dvs)) H2 Q E
/-- C(..): a new instance and its dict, then __init__ -/
def tMake (C : Addr) (sp : Sp) (dvs : List V) (E : XK) (t : TA) : TE := fun σ H Q => t σ H fun vs H1 => ∀ x dx, H1 x = none → H1 dx = none → dx ≠ x →
  sp (.ref x :: (vs ++ dvs)) (upd (upd H1 dx (.own x)) x (.ins C dx [])) (fun v H2 => v = .non ∧ Q (.ref x) H2) E

/-- how the parameters are bound: us the positional arguments, kw the keywords' values by name, ds the defaults that fill up -/
def Binds (K : PySem.W.Frag) (fd : FuncData) (ps : List Str) (ds : List Value) : Prop :=
  ∀ (s : Shared) (us : List Value), K.In s.heap → (us ++ ds).length = ps.length → BindsTo s fd ⟨us, []⟩ (ps.zip (us ++ ds))
/-- every parameter is given -/
theorem Binds.all {K : PySem.W.Frag} {fd : FuncData} {ps : List Str} (h : ∀ us : List Value, us.length = ps.length → bindArgs fd ⟨us, []⟩ = pure (ps.zip us)) : Binds K fd ps [] := fun s us _ hl => by
  rw [List.append_nil] at hl ⊢
  exact .of_eq (h us hl)

/-- an exception of a callee reaches what this body wants of exceptions -/
def Passes (CX : CXT) (X : Cx) (E : XK) : Prop := ∀ (pins : List (Addr × Obj)) (σ : St) (H : Hp) (s : Shared) (e : Value) (s' : Shared), Inv X pins σ H s → CX X.stack H s E e s' → X.xe e s'

section
variable {X : Cx} {CX : CXT} {k : Nat} {f C : Addr} {fd : FuncData} {ps : List Str} {sp : Sp} {dvs : List V} {ds : List Value} {E : XK} {x m : Str} {p pos apos : Pos} {e o : Expr} {es : List Expr} {ta : TE} {t : TA}

/-- the callee runs -/
theorem run_fn {pins : List (Addr × Obj)} {σ : St} {H : Hp} {s : Shared} {Q : VK} {us : List Value} {vs : List V} (F : FnOk X.prog X.w X.K X.mg X.base CX k f fd ps sp) (hr : Room k X.A) (hb : Binds X.K fd ps ds) (hd : Vals dvs ds) (hx : Passes CX X E)
    (I : Inv X pins σ H s) (r : Vals vs us) (h : sp (vs ++ dvs) H Q E) : wpAny (model X.prog X.w) X.A (call (.ref f) us) (EP X pins σ Q) X.xe s := by
  have r2 : Vals (vs ++ dvs) (us ++ ds) := r.append hd
  have hl : (us ++ ds).length = ps.length := by rw [← r2.length]; exact F.len _ _ _ _ h
  refine wpAny_call (codeAny_mono (F.run X.A X.stack s H ⟨us, []⟩ (us ++ ds) (vs ++ dvs) Q E hr I.env0 (hb s us I.kIn hl) r2 h) fun r s' hq => ?_)
  cases r with
  | error e => exact hx pins σ H s e s' I hq
  | ok fl =>
    cases fl with
    | ret u => exact I.after hq
    | next => exact False.elim hq
    | brk => exact False.elim hq
    | cont => exact False.elim hq

theorem pe_call (F : FnOk X.prog X.w X.K X.mg X.base CX k f fd ps sp) (hr : Room k X.A) (hg : Gl X x) (hm : X.mg x = some (.ref f)) (hk : PySem.W.keepIn X.K (.ref f) = true) (hb : Binds X.K fd ps ds) (hd : Vals dvs ds) (hx : Passes CX X E)
    (ha : PA X (e :: es) t) (hdb : (x == ("__debug__" : Str)) = false := by decide) (he : starEach (e :: es) X.env = (false, eval e X.env) :: starEach es X.env := by rfl) (hpl : (backTo pos (starEach es X.env)).any (·.1) = false := by rfl) :
    PE X (.Call (.Name x p) (e :: es) [] pos) (tCall sp dvs E t) := by
  intro pins s σ H Q I h
  refine wpAny_Call_Name_kw (ld_glob I hg hm ?_ hdb)
  refine PySem.W.callWith_K (h₀ := X.base) I.ok.mod.kin hk (thn (ha pos pins s σ H _ I h) fun us s1 ⟨vs, H1, I1, r, q⟩ => ⟨I1.kIn, ?_⟩) he hpl
  exact run_fn F hr hb hd hx I1 r q
theorem pe_call0 (F : FnOk X.prog X.w X.K X.mg X.base CX k f fd ps sp) (hr : Room k X.A) (hg : Gl X x) (hm : X.mg x = some (.ref f)) (hk : PySem.W.keepIn X.K (.ref f) = true) (hb : Binds X.K fd ps ds) (hd : Vals dvs ds) (hx : Passes CX X E)
    (hdb : (x == ("__debug__" : Str)) = false := by decide) : PE X (.Call (.Name x p) [] [] pos) (tCall sp dvs E tNil) := by
  intro pins s σ H Q I h
  refine wpAny_Call_Name_kw (ld_glob I hg hm ?_ hdb)
  exact PySem.W.callWith_K0 I.kIn hk (run_fn (us := []) F hr hb hd hx I .nil h)

/-- o.m(e, ..) -/
theorem pe_meth {pl : Sem Bool} (he : PE X o ta) (c : Cls X.K C) (hm : Meth X.K C m f) (F : FnOk X.prog X.w X.K X.mg X.base CX k f fd ps sp) (hr : Room k X.A) (hb : Binds X.K fd ps ds) (hd : Vals dvs ds) (hx : Passes CX X E) (ha : PA X (e :: es) t)
    (hst : starEach (e :: es) X.env = (false, eval e X.env) :: starEach es X.env := by rfl) (hpl : (backTo pos (starEach es X.env)).any (·.1) = false := by rfl)
    (ht : eval (.Call (.Attribute o m apos) (e :: es) [] pos) X.env = (do
      let ov ← eval o X.env
      standAt apos.atName
      let (f, first) ← holding [ov] (getMethod ov m pl)
      callWith pos f first (backTo pos (starEach (e :: es) X.env)) (backToKw pos (keywordEach [] X.env))) := by rfl) :
    PE X (.Call (.Attribute o m apos) (e :: es) [] pos) (tMeth C m sp dvs E ta t) := by
  intro pins s σ H Q I h
  refine PySem.W.methodCall_KW (pl := pl) (thn (he pins s σ H _ I h) fun u s1 ⟨x, H1, I1, rx, a, dx, fs, ex, ea, l, q⟩ => ?_) ht
  subst ex
  obtain rfl : u = Value.ref a := rx
  refine getmeth_ok I1 ea c hm l ?_
  refine PySem.W.callWith_K (first := [.ref a]) (h₀ := X.base) I.ok.mod.kin hm.kp (thn (ha pos pins s1 σ H1 _ I1 q) fun us s2 ⟨vs, H2, I2, r, q2⟩ => ⟨I2.kIn, ?_⟩) hst hpl
  exact run_fn (us := .ref a :: us) (vs := .ref a :: vs) F hr hb hd hx I2 (.cons rfl r) q2
/-- o.m() -/
theorem pe_meth0 {pl : Sem Bool} (he : PE X o ta) (c : Cls X.K C) (hm : Meth X.K C m f) (F : FnOk X.prog X.w X.K X.mg X.base CX k f fd ps sp) (hr : Room k X.A) (hb : Binds X.K fd ps ds) (hd : Vals dvs ds) (hx : Passes CX X E)
    (ht : eval (.Call (.Attribute o m apos) [] [] pos) X.env = (do
      let ov ← eval o X.env
      standAt apos.atName
      let (f, first) ← holding [ov] (getMethod ov m pl)
      callWith pos f first (backTo pos (starEach [] X.env)) (backToKw pos (keywordEach [] X.env))) := by rfl) :
    PE X (.Call (.Attribute o m apos) [] [] pos) (tMeth C m sp dvs E ta tNil) := by
  intro pins s σ H Q I h
  refine PySem.W.methodCall_KW (pl := pl) (thn (he pins s σ H _ I h) fun u s1 ⟨x, H1, I1, rx, a, dx, fs, ex, ea, l, q⟩ => ?_) ht
  subst ex
  obtain rfl : u = Value.ref a := rx
  refine getmeth_ok I1 ea c hm l ?_
  exact PySem.W.callWith_K0 (first := [.ref a]) I1.kIn hm.kp (run_fn (us := [.ref a]) (vs := [.ref a]) F hr hb hd hx I1 (.cons rfl .nil) q)

/-- what a class must have to be made -/
structure Mk (K : PySem.W.Frag) (C f : Addr) : Prop where
  makes : PySem.W.makesIn K C = true
  init : PySem.W.findIn K (.ref C) "__init__" = some (some (.ref f))
  fn : PySem.W.isFn K (.ref f) = true
  kp : PySem.W.keepIn K (.ref C) = true

theorem run_make {pins : List (Addr × Obj)} {σ : St} {H : Hp} {s : Shared} {Q : VK} {us : List Value} {vs : List V} (M : Mk X.K C f) (F : FnOk X.prog X.w X.K X.mg X.base CX k f fd ps sp) (hr : Room (k + 1) X.A) (hb : Binds X.K fd ps ds) (hd : Vals dvs ds)
    (hx : Passes CX X E) (I : Inv X pins σ H s) (r : Vals vs us)
    (h : ∀ x dx, H x = none → H dx = none → dx ≠ x → sp (.ref x :: (vs ++ dvs)) (upd (upd H dx (.own x)) x (.ins C dx [])) (fun v H2 => v = .non ∧ Q (.ref x) H2) E) :
    wpAny (model X.prog X.w) X.A (call (.ref C) us) (EP X pins σ Q) X.xe s := by
  have hq := h (s.heap.objs.size + 1) s.heap.objs.size (I.hok.fresh (Nat.le_succ _)) (I.hok.fresh (Nat.le_refl _)) (Nat.ne_of_lt (Nat.lt_succ_self _))
  have I2 := Inv.made (C := C) I
  have r2 : Vals (V.ref (s.heap.objs.size + 1) :: (vs ++ dvs)) (Value.ref (s.heap.objs.size + 1) :: (us ++ ds)) := .cons rfl (r.append hd)
  have hl : (Value.ref (s.heap.objs.size + 1) :: us ++ ds).length = ps.length := by
    have e := r2.length
    rw [F.len _ _ _ _ hq] at e
    exact e.symm
  refine wpAny_call (make_map (f := f) I.kIn M.makes M.init (beq_iff_eq.mp M.fn) (codeAny_mono (F.run _ X.stack _ _ ⟨Value.ref (s.heap.objs.size + 1) :: us, []⟩ (Value.ref (s.heap.objs.size + 1) :: (us ++ ds)) _ _ E (hr.make C us [])
    (I2.env0.make C us []) (hb _ (Value.ref (s.heap.objs.size + 1) :: us) I2.kIn hl) r2 hq) fun r s' hq' => ?_))
  cases r with
  | error e => exact hx pins σ _ _ e s' I2 hq'
  | ok fl =>
    cases fl with
    | ret u =>
      obtain ⟨v, H', I3, rv, ev, q3⟩ := I2.after hq'
      subst ev
      exact ⟨rv, ⟨V.ref (s.heap.objs.size + 1), H', I3, rfl, q3⟩⟩
    | next => exact False.elim hq'
    | brk => exact False.elim hq'
    | cont => exact False.elim hq'
theorem pe_make (M : Mk X.K C f) (F : FnOk X.prog X.w X.K X.mg X.base CX k f fd ps sp) (hr : Room (k + 1) X.A) (hg : Gl X x) (hm : X.mg x = some (.ref C)) (hb : Binds X.K fd ps ds) (hd : Vals dvs ds) (hx : Passes CX X E)
    (ha : PA X (e :: es) t) (hdb : (x == ("__debug__" : Str)) = false := by decide) (he : starEach (e :: es) X.env = (false, eval e X.env) :: starEach es X.env := by rfl) (hpl : (backTo pos (starEach es X.env)).any (·.1) = false := by rfl) :
    PE X (.Call (.Name x p) (e :: es) [] pos) (tMake C sp dvs E t) := by
  intro pins s σ H Q I h
  refine wpAny_Call_Name_kw (ld_glob I hg hm ?_ hdb)
  refine PySem.W.callWith_K (h₀ := X.base) I.ok.mod.kin M.kp (thn (ha pos pins s σ H _ I h) fun us s1 ⟨vs, H1, I1, r, q⟩ => ⟨I1.kIn, ?_⟩) he hpl
  exact run_make M F hr hb hd hx I1 r q
theorem pe_make0 (M : Mk X.K C f) (F : FnOk X.prog X.w X.K X.mg X.base CX k f fd ps sp) (hr : Room (k + 1) X.A) (hg : Gl X x) (hm : X.mg x = some (.ref C)) (hb : Binds X.K fd ps ds) (hd : Vals dvs ds) (hx : Passes CX X E)
    (hdb : (x == ("__debug__" : Str)) = false := by decide) : PE X (.Call (.Name x p) [] [] pos) (tMake C sp dvs E tNil) := by
  intro pins s σ H Q I h
  refine wpAny_Call_Name_kw (ld_glob I hg hm ?_ hdb)
  exact PySem.W.callWith_K0 I.kIn M.kp (run_make (us := []) M F hr hb hd hx I .nil h)
end

/-! ### keywords -/
/-- the values of the keywords, from the left -/
def PK (X : Cx) (kws : List Keyword) (t : TA) : Prop :=
  ∀ (pos : Pos) (pins : List (Addr × Obj)) (s : Shared) (σ : St) (H : Hp) (Q : List V → Hp → Prop), Inv X pins σ H s → t σ H Q → wpAny (model X.prog X.w) X.A (evalAll ((backToKw pos (keywordEach kws X.env)).map (·.2))) (AP X pins σ Q) X.xe s
section
variable {X : Cx} {CX : CXT} {k : Nat} {f C : Addr} {fd : FuncData} {ps ks : List Str} {sp : Sp} {E : XK} {x m : Str} {p pos apos kpos : Pos} {e o : Expr} {es : List Expr} {kws : List Keyword} {te ta : TE} {t tk : TA} {nm : Option Str}
theorem pk_nil : PK X [] tNil := fun _ _ _ _ H Q I h => wpAny_evalAll_nil ⟨[], H, I, .nil, h⟩
theorem pk_cons (ha : PE X e te) (hr : PK X kws t) : PK X (⟨nm, e, kpos⟩ :: kws) (tCons te t) := by
  intro pos pins s σ H Q I h
  show wpAny _ _ (evalAll ((do let v ← eval e X.env; standAt pos; pure v) :: (backToKw pos (keywordEach kws X.env)).map (·.2))) _ _ s
  refine wpAny_evalAll_cons (wpAny_bind (thn (ha pins s σ H _ I h) fun u s1 ⟨x, H1, I1, r1, q1⟩ => wpAny_bind (wpAny_standAt (wpAny_pure ?_))))
  exact thn (hr pos pins s1 σ H1 _ I1 q1) fun us s2 ⟨xs, H2, I2, r2, q2⟩ => ⟨x :: xs, H2, I2, .cons r1 r2, q2⟩

/-- how a call with keywords binds: g puts the positional values us and the keywords' values ws (names ks) in the parameters' order, defaults among them -/
structure KBinds (K : PySem.W.Frag) (fd : FuncData) (ps ks : List Str) (g : List Value → List Value → List Value) (gV : List V → List V → List V) : Prop where
  to : ∀ (s : Shared) (us ws : List Value), K.In s.heap → (g us ws).length = ps.length → BindsTo s fd ⟨us, ks.zip ws⟩ (ps.zip (g us ws))
  rel : ∀ {vs : List V} {us : List Value} {zs : List V} {ws : List Value}, Vals vs us → Vals zs ws → Vals (gV vs zs) (g us ws)
def tCallK (sp : Sp) (gV : List V → List V → List V) (E : XK) (t tk : TA) : TE := fun σ H Q => t σ H fun vs H1 => tk σ H1 fun zs H2 => sp (gV vs zs) H2 Q E
variable {g : List Value → List Value → List Value} {gV : List V → List V → List V}
theorem run_fnk {pins : List (Addr × Obj)} {σ : St} {H : Hp} {s : Shared} {Q : VK} {us ws : List Value} {vs zs : List V} (F : FnOk X.prog X.w X.K X.mg X.base CX k f fd ps sp) (hr : Room k X.A) (hb : KBinds X.K fd ps ks g gV) (hx : Passes CX X E)
    (I : Inv X pins σ H s) (r : Vals vs us) (rz : Vals zs ws) (h : sp (gV vs zs) H Q E) : wpAny (model X.prog X.w) X.A (call (.ref f) us (ks.zip ws)) (EP X pins σ Q) X.xe s := by
  have r2 := hb.rel r rz
  have hl : (g us ws).length = ps.length := by rw [← r2.length]; exact F.len _ _ _ _ h
  refine wpAny_call (codeAny_mono (F.run X.A X.stack s H ⟨us, ks.zip ws⟩ (g us ws) (gV vs zs) Q E hr I.env0 (hb.to s us ws I.kIn hl) r2 h) fun r s' hq => ?_)
  cases r with
  | error e => exact hx pins σ H s e s' I hq
  | ok fl =>
    cases fl with
    | ret u => exact I.after hq
    | next => exact False.elim hq
    | brk => exact False.elim hq
    | cont => exact False.elim hq
/-- f(e, .., k = v, ..) -/
theorem pe_callK (F : FnOk X.prog X.w X.K X.mg X.base CX k f fd ps sp) (hr : Room k X.A) (hg : Gl X x) (hm : X.mg x = some (.ref f)) (hk : PySem.W.keepIn X.K (.ref f) = true) (hb : KBinds X.K fd ps ks g gV) (hx : Passes CX X E)
    (ha : PA X (e :: es) t) (hkw : PK X kws tk) (hall : (backToKw pos (keywordEach kws X.env)).all (·.1.isSome) = true := by rfl) (hks : (backToKw pos (keywordEach kws X.env)).filterMap (·.1) = ks := by rfl)
    (hdb : (x == ("__debug__" : Str)) = false := by decide) (he : starEach (e :: es) X.env = (false, eval e X.env) :: starEach es X.env := by rfl)
    (hpl : ((backTo pos (starEach (e :: es) X.env)).any (·.1) || (backToKw pos (keywordEach kws X.env)).any (·.1.isNone)) = false := by rfl) :
    PE X (.Call (.Name x p) (e :: es) kws pos) (tCallK sp gV E t tk) := by
  intro pins s σ H Q I h
  refine wpAny_Call_Name_kw (ld_glob I hg hm ?_ hdb)
  refine PySem.W.callWith_KW (h₀ := X.base) I.ok.mod.kin hk hall (thn (ha pos pins s σ H _ I h) fun us s1 ⟨vs, H1, I1, r, q⟩ => ?_) hpl he
  refine thn (hkw pos pins s1 σ H1 _ I1 q) fun ws s2 ⟨zs, H2, I2, rz, q2⟩ => ⟨I2.kIn, ?_⟩
  rw [hks]
  exact run_fnk F hr hb hx I2 r rz q2
end

/-! ### a def's body keeps its promise -/
/-- names: the parameters first -/
structure FnScope (N P : List Str) (sc : Scope) : Prop where
  kind : sc.kind = .function
  co : sc.isCoroutine = false
  gen : sc.isGenerator = false
  nd : N.Nodup
  pre : N.take P.length = P
  par : ∀ x ∈ P, sc.names.lookup x = some .local ∨ sc.names.lookup x = some .cell
  nofree : ∀ y ∈ sc.names, y.2 ≠ .free

theorem bindL_out {kindOf : Str → Option NameKind} {x : Str} : ∀ {binds : List (Str × Value)} {m : Str → Option Value}, (∀ v, (x, v) ∉ binds) → bindL kindOf binds m x = m x
  | [], _, _ => rfl
  | (n, v) :: r, m, h => by
    unfold bindL
    rw [bindL_out fun w hw => h w (List.mem_cons_of_mem _ hw)]
    split
    · have : x ≠ n := by rintro rfl; exact h v List.mem_cons_self
      simp [this]
    · rfl
theorem bindC_out {kindOf : Str → Option NameKind} {x : Str} : ∀ {binds : List (Str × Value)} {m : Str → Option Value}, (∀ v, (x, v) ∉ binds) → bindC kindOf binds m x = m x
  | [], _, _ => rfl
  | (n, v) :: r, m, h => by
    unfold bindC
    rw [bindC_out fun w hw => h w (List.mem_cons_of_mem _ hw)]
    split
    · rfl
    · have : x ≠ n := by rintro rfl; exact h v List.mem_cons_self
      simp [this]
theorem bindL_get {kindOf : Str → Option NameKind} {x : Str} {v : Value} : ∀ {P : List Str} {vs : List Value} {i : Nat} {m : Str → Option Value}, P.Nodup → P[i]? = some x → vs[i]? = some v → kindOf x = some .local →
    bindL kindOf (P.zip vs) m x = some v
  | [], _, _, _, _, h, _, _ => by simp at h
  | _ :: _, [], _, _, _, _, h, _ => by simp at h
  | p :: P, w :: vs, 0, m, nd, h1, h2, hk => by
    simp at h1 h2; subst h1; subst h2
    show bindL kindOf ((p, w) :: P.zip vs) m p = _
    unfold bindL
    rw [bindL_out fun v hv => (List.nodup_cons.mp nd).1 (List.of_mem_zip hv).1, if_pos hk]
    simp
  | p :: P, w :: vs, i + 1, m, nd, h1, h2, hk => by
    show bindL kindOf ((p, w) :: P.zip vs) m x = _
    unfold bindL
    exact bindL_get (i := i) (List.nodup_cons.mp nd).2 (by simpa using h1) (by simpa using h2) hk
theorem bindC_get {kindOf : Str → Option NameKind} {x : Str} {v : Value} : ∀ {P : List Str} {vs : List Value} {i : Nat} {m : Str → Option Value}, P.Nodup → P[i]? = some x → vs[i]? = some v → kindOf x ≠ some .local →
    bindC kindOf (P.zip vs) m x = some v
  | [], _, _, _, _, h, _, _ => by simp at h
  | _ :: _, [], _, _, _, _, h, _ => by simp at h
  | p :: P, w :: vs, 0, m, nd, h1, h2, hk => by
    simp at h1 h2; subst h1; subst h2
    show bindC kindOf ((p, w) :: P.zip vs) m p = _
    unfold bindC
    rw [bindC_out fun v hv => (List.nodup_cons.mp nd).1 (List.of_mem_zip hv).1, if_neg hk]
    simp
  | p :: P, w :: vs, i + 1, m, nd, h1, h2, hk => by
    show bindC kindOf ((p, w) :: P.zip vs) m x = _
    unfold bindC
    exact bindC_get (i := i) (List.nodup_cons.mp nd).2 (by simpa using h1) (by simpa using h2) hk

/-- the names' values at the entry -/
def start (N : List Str) (vs : List V) : St := vs.map some ++ List.replicate (N.length - vs.length) none

/-- the context of a def's body, at its entry; an exception leaves the frame, then lies as CX says -/
def cxOf (CX : CXT) (P : Program) (w : World) (K : PySem.W.Frag) (mg : Str → Option Value) (base : Heap) (N : List Str) (qual : Str) (scope : Scope) (f : Addr) (cd : Value) (A : Around) (outer : List Env) (s : Shared) (H : Hp) (E : XK) : Cx where
  prog := P
  w := w
  K := K
  mg := mg
  base := base
  A := A.deeper (envOfC qual scope s.heap.objs.size f cd)
  N := N
  s₀ := s
  H₀ := H
  env := envOfC qual scope s.heap.objs.size f cd
  outer := outer
  stack := envOfC qual scope s.heap.objs.size f cd :: outer
  ex := []
  calm := true
  fn := fun _ => true
  pn := []
  xe := fun e s' => wpAny (model P w) (A.deeper (envOfC qual scope s.heap.objs.size f cd)) (leaving (envOfC qual scope s.heap.objs.size f cd) e) (fun _ s'' => CX outer H s E e s'') (fun e' s'' => CX outer H s E e' s'') s'

theorem cell_has {sc : Scope} {n : Nat} {x : Str} (h : sc.names.lookup x = some .cell) : ∃ c, (cellsFrom n sc.names []).lookup x = some c := by
  have q := PySem.W.cellsFrom_some sc.names n [] (.inl h)
  exact Option.isSome_iff_exists.mp q

theorem inv_start {CX : CXT} {P : Program} {w : World} {K : PySem.W.Frag} {mg : Str → Option Value} {base : Heap} {N ps : List Str} {qual : Str} {scope : Scope} {f : Addr} {cd : Value} {A : Around} {outer : List Env} {s s1 : Shared} {H : Hp} {E : XK} {us : List Value} {vs : List V}
    (S : FnScope N ps scope) (hd : A.handled = none) (e0 : Env0 P w K mg base A outer s H) (hl : vs.length = ps.length) (r : Vals vs us)
    (x : InCallC s s.heap.objs.size (bindL (envOfC qual scope s.heap.objs.size f cd).kindOf (ps.zip us) fun _ => none) (cellsFrom (s.heap.objs.size + 1) scope.names []) (bindC (envOfC qual scope s.heap.objs.size f cd).kindOf (ps.zip us) fun _ => none) s1) :
    Inv (cxOf CX P w K mg base N qual scope f cd A outer s H E) [] (start N vs) H s1 := by
  have hpl : ps.length ≤ N.length := by have := congrArg List.length S.pre; rw [List.length_take] at this; omega
  obtain ⟨h1, tk, rfl, hk⟩ := x.done
  have noA : ∀ b : Addr, b ∉ (cxOf CX P w K mg base N qual scope f cd A outer s H E).ex := fun b z => absurd (show b ∈ ([] : List Addr) from z) (by simp)
  refine ⟨⟨e0.mod, S.kind, rfl, rfl, Nat.le_refl _, fun y z c h1 h2 => ?_, fun y hy => ?_, fun y c _ h => ?_, fun _ => hd, Around.frames_deeper e0.frames, .inr ⟨rfl, rfl⟩, fun b z => absurd z (noA b), e0.bs, e0.bsz, fun b _ _ => noA b, fun b z => absurd z (noA b), e0.funs, e0.frf⟩,
    rfl, e0.bare, Un.kept hk, ⟨_, x.toInCall.ns, fun i y v h1 h2 h3 => ?_⟩, fun y c h => ⟨_, x.cell y c h⟩, e0.hok.fresh (Nat.le_refl _), fun y c h => ?_, fun p hp => absurd (show p ∈ ([] : List (Addr × Obj)) from hp) (by simp), e0.hok.kept hk, ?_⟩
  · exact name_of_addr x.apart (PySem.mem_of_lookup h1) (PySem.mem_of_lookup h2)
  · have hy : scope.names.lookup y = some .cell ∨ scope.names.lookup y = some .free := hy
    rcases hy with hy | hy
    · exact cell_has hy
    · exact absurd rfl (S.nofree _ (PySem.mem_of_lookup hy))
  · exact Nat.le_of_lt (x.above y c (PySem.mem_of_lookup h))
  · have hi : i < vs.length := by
      unfold start at h2
      by_cases hi : i < vs.length
      · exact hi
      · rw [List.getElem?_append_right (by simpa using hi)] at h2
        rw [List.getElem?_replicate] at h2
        split at h2 <;> cases h2
    have ha : vs[i]? = some v := by
      unfold start at h2
      rw [List.getElem?_append_left (by simpa using hi), List.getElem?_map] at h2
      cases e : vs[i]? with
      | none => rw [e] at h2; cases h2
      | some a => rw [e] at h2; cases h2; rfl
    obtain ⟨u, hu, rv⟩ := r.get ha
    have hp : ps[i]? = some y := by
      rw [← S.pre, List.getElem?_take_of_lt (by omega)]; exact h1
    have ndP : ps.Nodup := by rw [← S.pre]; exact S.nd.sublist (List.take_sublist _ _)
    refine ⟨u, rv, ?_⟩
    rcases S.par y (List.mem_of_getElem? hp) with k | k
    · exact .inl ⟨k, bindL_get ndP hp hu k⟩
    · obtain ⟨c, e⟩ := cell_has (n := s.heap.objs.size + 1) k
      refine .inr ⟨.inl k, c, e, ?_⟩
      have q := x.cell y c e
      rw [bindC_get ndP hp hu (by show scope.names.lookup y ≠ _; rw [k]; decide)] at q
      exact q
  · exact e0.hok.fresh (Nat.le_of_lt (x.above y c (PySem.mem_of_lookup h)))
  · unfold start
    show _ = N.length
    rw [List.length_append, List.length_map, List.length_replicate]
    omega

/-- THE RULE: a def (or a method) of the text, by its body. The body's reading t is chosen for each entry; it is run at the parameters' values -/
theorem fn_of {CX : CXT} {P : Program} {w : World} {K : PySem.W.Frag} {mg : Str → Option Value} {base : Heap} {k : Nat} {f : Addr} {name qual : Str} {params : Arguments} {body : List Stmt} {scope : Scope} {dV kV doc pm cdv ct oc : Value} {an od : Option Addr}
    {osl : Array (Option Value)} {N ps : List Str} {sp : Sp} (lk : K.lookup f = some ⟨oc, od, .func (PySem.W.fnOf name qual params body scope dV kV doc pm an cdv ct), osl⟩) (hcd : PySem.W.codeIn K cdv qual = true) (S : FnScope N ps scope)
    (len : ∀ vs H Q E, sp vs H Q E → vs.length = ps.length)
    (hbody : ∀ (A : Around) (outer : List Env) (s : Shared) (H : Hp) (vs : List V) (Q : VK) (E : XK), Room k (A.deeper (envOfC qual scope s.heap.objs.size f cdv)) → sp vs H Q E →
      ∃ t, PSs (cxOf CX P w K mg base N qual scope f cdv A outer s H E) body t ∧ t { nx := fun _ H' => Q .non H', rt := Q } (start N vs) H) :
    FnOk P w K mg base CX (k + 1) f (PySem.W.fnOf name qual params body scope dV kV doc pm an cdv ct) ps sp := by
  refine ⟨len, fun A outer s H args us vs Q E hr e0 hb r hsp => ?_⟩
  have hl := len _ _ _ _ hsp
  have KX : K.In s.heap := e0.mod.kin.keeps fun b o e => (e0.bs b o e).1
  have lim : s.heap.NoLimit := e0.mod.nolimit.keeps fun b o e => (e0.bs b o e).1
  have hkind : ∀ y ∈ ps.zip us, scope.names.lookup y.1 = some .local ∨ (scope.names.lookup y.1 = some .cell ∧ ((cellsFrom (s.heap.objs.size + 1) scope.names []).lookup y.1).isSome = true) := fun ⟨n, v⟩ hy => by
    rcases S.par n (List.of_mem_zip hy).1 with q | q
    · exact .inl q
    · exact .inr ⟨q, PySem.W.cellsFrom_some _ _ _ (.inl q)⟩
  refine codeAny_call_function hr.depth (KX _ _ lk) rfl S.co S.gen rfl (PySem.W.codeRec_of KX hcd) (hb _ _ _ _ ?_)
  refine wpAny_newFunctionEnv_cells S.kind hkind fun env he s1 x => ?_
  subst he
  refine ⟨lim.keeps x.toInCall.keep, codeAny_func ?_⟩
  obtain ⟨t, ht, hq⟩ := hbody A outer s H vs Q E (hr.deeper _) hsp
  have I : Inv (cxOf CX P w K mg base N qual scope f cdv A outer s H E) [] (start N vs) H s1 := inv_start S hr.hd e0 hl r x
  refine wpAny_mono (ht [] s1 (start N vs) H _ I hq) (fun fl s' hs => ?_) fun e s' hs => hs
  have fin : ∀ {σ' : St} {H' : Hp} {v : V} {u : Value}, Inv (cxOf CX P w K mg base N qual scope f cdv A outer s H E) [] σ' H' s' → RelV v u → Q v H' → CE outer P w H s Q u s' :=
    fun {σ' H' v u} J rv q => ⟨v, H', J.os, J.bare, J.base, J.hok, rv, q⟩
  cases fl with
  | ret u =>
    obtain ⟨v, σ', H', J, rv, q⟩ := hs
    exact fin J rv q
  | next =>
    obtain ⟨σ', H', J, q⟩ := hs
    exact fin (v := V.non) (u := Value.none) J rfl q
  | brk =>
    obtain ⟨_, _, _, q⟩ := hs
    exact False.elim q
  | cont =>
    obtain ⟨_, _, _, q⟩ := hs
    exact False.elim q
end L2
namespace L2
open PySem PySem.Spec PyProof.Rows
section
variable {X : Cx} {x : Str} {p pos : Pos} {e : Expr} {es : List Expr} {t : TA} {id T : String} {r : List V → Hp → VK → Prop}

def tCB (r : List V → Hp → VK → Prop) (t : TA) : TE := fun σ H Q => t σ H fun vs H1 => r vs H1 Q
/-- f(e, ..), f a built-in function -/
theorem pe_callB (hc : CallR X (.builtin id) r) (hg : Gl X x) (hm : X.mg x = none) (hv : bootBuiltins x = some (.builtin id)) (ha : PA X (e :: es) t) (hn : x ≠ "__name__" := by decide) (hdb : (x == ("__debug__" : Str)) = false := by decide)
    (he : starEach (e :: es) X.env = (false, eval e X.env) :: starEach es X.env := by rfl) (hpl : (backTo pos (starEach es X.env)).any (·.1) = false := by rfl) : PE X (.Call (.Name x p) (e :: es) [] pos) (tCB r t) := by
  intro pins s σ H Q I h
  refine wpAny_Call_Name_kw (ld_blt I hg hm hv ?_ hn hdb)
  exact PyProof.Rows.callWith_builtin1 (thn (ha pos pins s σ H _ I h) fun us s1 ⟨vs, H1, I1, r1, q1⟩ => hc pins s1 σ H1 vs us Q I1 r1 q1) he hpl
/-- T(e, ..), T a built-in type -/
theorem pe_callTy (hc : CallR X (.type T) r) (hg : Gl X x) (hm : X.mg x = none) (hv : bootBuiltins x = some (.type T)) (ha : PA X (e :: es) t) (hn : x ≠ "__name__" := by decide) (hdb : (x == ("__debug__" : Str)) = false := by decide)
    (he : starEach (e :: es) X.env = (false, eval e X.env) :: starEach es X.env := by rfl) (hpl : (backTo pos (starEach es X.env)).any (·.1) = false := by rfl) : PE X (.Call (.Name x p) (e :: es) [] pos) (tCB r t) := by
  intro pins s σ H Q I h
  refine wpAny_Call_Name_kw (ld_blt I hg hm hv ?_ hn hdb)
  exact PyProof.Rows.callWith_type1 (thn (ha pos pins s σ H _ I h) fun us s1 ⟨vs, H1, I1, r1, q1⟩ => hc pins s1 σ H1 vs us Q I1 r1 q1) he hpl
/-- T() -/
theorem pe_callTy0 (hc : CallR X (.type T) r) (hg : Gl X x) (hm : X.mg x = none) (hv : bootBuiltins x = some (.type T)) (hn : x ≠ "__name__" := by decide) (hdb : (x == ("__debug__" : Str)) = false := by decide) :
    PE X (.Call (.Name x p) [] [] pos) (tCB r tNil) := by
  intro pins s σ H Q I h
  refine wpAny_Call_Name_kw (ld_blt I hg hm hv ?_ hn hdb)
  exact PyProof.Rows.callWith_type0 (hc pins s σ H [] [] Q I .nil h)
end
end L2
namespace HT
open PySem PyProof.Rows

/-- t < u of tuples of ints -/
def lexLt : List Int → List Int → Bool
  | [], [] => false
  | [], _ :: _ => true
  | _ :: _, [] => false
  | x :: xs, y :: ys => if x = y then lexLt xs ys else decide (x < y)
theorem lexLt_cons (x y : Int) (xs ys : List Int) : lexLt (x :: xs) (y :: ys) = if x = y then lexLt xs ys else decide (x < y) := rfl
theorem lexLt_nil_nil : lexLt [] [] = false := rfl
theorem lexLt_nil_cons (y : Int) (ys : List Int) : lexLt [] (y :: ys) = true := rfl
theorem lexLt_cons_nil (x : Int) (xs : List Int) : lexLt (x :: xs) [] = false := rfl

theorem eqAt_int (A : Around) (s : Shared) (a : Int) (t : Tok) (c : Int) (u : Tok) : ∃ e, SeqAt.EqAt A s (.int a t) (.int c u) e ∧ (e = true ↔ a = c) :=
  ⟨(a == c), SeqAt.EqAt.int_int a t c u, by simp⟩
theorem rcLt_int (A : Around) (s : Shared) (a : Int) (t : Tok) (c : Int) (u : Tok) (prog : Program) (w : World) (E : Value → Shared → Prop) (Q : Value → Shared → Prop) (h : Q (.bool (decide (a < c))) s) :
    wpAny (model prog w) A (richCompare .Lt (.int a t) (.int c u)) Q E s :=
  (PyProof.Rows.lt_int h : wpAny (model prog w) A (compareOp .Lt (.int a t) (.int c u)) Q E s)

section
open PySem.SeqAt
open PySem.AutoSeq1 (wpAny_loadPart')
open PySem.MeetsSeq PySem.MeetsSeq2 PySem.MeetsSeq3

theorem tuple_lt_ints (l b : Addr) (items items2 : Array Value) (n n2 : Nat) (dd dd2 : Option Addr) (sl sl2 : Array (Option Value)) (ns ms : List Int) (hi : IntsAre items.toList ns) (hj : IntsAre items2.toList ms) :
    Meets (Builtin.«tuple.__lt__» ⟨[.ref l, .ref b], []⟩)
      (fun _ R s => s.heap.get? l = some { cls := .type "tuple", dict := dd, data := .seq items n, slots := sl } ∧ s.heap.get? b = some { cls := .type "tuple", dict := dd2, data := .seq items2 n2, slots := sl2 } ∧
        R (.ok (.ret (.bool (lexLt ns ms)))) s) :=
  .of_wp fun prog w A R s h => by
    obtain ⟨hp, g, d, tk, os⟩ := s; obtain ⟨hl, hb, h⟩ := h
    have f2 := AutoSeq1.sub_tuple_tuple
    have z1 : items.size = ns.length := by rw [← hi.length]; simp
    have z2 : items2.size = ms.length := by rw [← hj.length]; simp
    wp_walk using wpAny_loadPart' hl, wpAny_loadPart' hb, wpAny_forIn_list _ (fun rest b s' => b.1 = none ∧ s' = ⟨hp, g, d, tk, os⟩ ∧ ∃ (vs ws : List Value) (ns' ms' : List Int), rest = vs.zip ws ∧
      IntsAre vs ns' ∧ IntsAre ws ms' ∧ ns'.length + items2.size = ms'.length + items.size ∧ R (.ok (.ret (.bool (lexLt ns' ms')))) ⟨hp, g, d, tk, os⟩) _
    case turn =>
      rintro ⟨y, x⟩ rest b s' ⟨hb', rfl, vs, ws, ns', ms', hz, hvi, hwi, hlen, hR⟩
      cases hvi with
      | nil => rw [List.zip_nil_left] at hz; cases hz
      | cons a t hvi' =>
        cases hwi with
        | nil => rw [List.zip_nil_right] at hz; cases hz
        | cons c u hwi' =>
          rw [List.zip_cons_cons] at hz
          injection hz with hyx hrest
          injection hyx with hy hx
          subst hy hx
          rw [lexLt_cons] at hR
          simp only [List.length_cons] at hlen
          obtain ⟨e, he, hiff⟩ := eqAt_int A.in1 ⟨hp, g, d, tk, os⟩ a t c u
          refine wpAny_bind (he prog w _ _ ?_)
          cases e with
          | true =>
            rw [if_pos (hiff.mp rfl)] at hR
            wp_walk
            exact ⟨rfl, rfl, _, _, _, _, hrest, hvi', hwi', by omega, hR⟩
          | false =>
            rw [if_neg (fun q => absurd (hiff.mpr q) Bool.false_ne_true)] at hR
            have hri := rcLt_int A.in1 ⟨hp, g, d, tk, os⟩ a t c u prog w
            wp_walk using hri
            exact ⟨_, rfl, by simpa using hR⟩
    case fin =>
      rintro ⟨b1, b2⟩ s' ⟨hb', rfl, vs, ws, ns', ms', hz, hvi, hwi, hlen, hR⟩
      simp only at hb'
      subst hb'
      have hv : lexLt ns' ms' = decide (items.size < items2.size) := by
        cases hvi with
        | nil =>
          cases hwi with
          | nil =>
            simp only [List.length_nil] at hlen
            rw [lexLt_nil_nil]
            exact (decide_eq_false (by omega)).symm
          | cons c u hw =>
            simp only [List.length_nil, List.length_cons] at hlen
            rw [lexLt_nil_cons]
            exact (decide_eq_true (by omega)).symm
        | cons a t hv =>
          cases hwi with
          | nil =>
            simp only [List.length_nil, List.length_cons] at hlen
            rw [lexLt_cons_nil]
            exact (decide_eq_false (by omega)).symm
          | cons c u hw =>
            rw [List.zip_cons_cons] at hz
            cases hz
      rw [hv] at hR
      wp_walk
      exact ⟨_, rfl, by simpa [Builtin.Tuple.tupleCompareSizes] using hR⟩
    case h =>
      exact ⟨rfl, rfl, items.toList, items2.toList, ns, ms, rfl, hi, hj, by omega, h⟩
end

section
variable {prog : Program} {w : World} {A : Around} {E : Value → Shared → Prop} {s : Shared}

theorem lt_tupInts {l b : Addr} {items items2 : Array Value} {ns ms : List Int} {Q : Value → Shared → Prop} (hl : IsTup s.heap l items) (hb : IsTup s.heap b items2) (hi : IntsAre items.toList ns) (hj : IntsAre items2.toList ms)
    (hu : A.units < cLine) (h : Q (.bool (lexLt ns ms)) s) : wpAny (model prog w) A (compareOp .Lt (.ref l) (.ref b)) Q E s := by
  obtain ⟨⟨cls, dd, data, sl⟩, ho, hc, n, hd⟩ := id hl
  obtain ⟨⟨cls2, dd2, data2, sl2⟩, ho2, hc2, n2, hd2⟩ := id hb
  simp only at hc hd hc2 hd2
  subst hc hd hc2 hd2
  exact richCompare_meets_room (op := .Lt) ⟨_, ho, rfl⟩ ⟨_, ho2, rfl⟩ PySem.F.slot_tuple_lt PySem.F.entry_tuple_lt (PySem.F.args_tuple_lt_2 _ _) (tuple_lt_ints l b items items2 n n2 dd dd2 sl sl2 ns ms hi hj)
    ⟨ho, ho2, show Value.bool (lexLt ns ms) ≠ Value.notImplemented ∧ Q (.bool (lexLt ns ms)) s from ⟨(fun x => nomatch x), h⟩⟩ hu

/-- t + u, t not empty -/
theorem cat_tup {t b : Addr} {vs ws : List Value} {Q : Value → Shared → Prop} (ht : IsTup s.heap t vs.toArray) (hb : IsTup s.heap b ws.toArray) (hv : vs ≠ [])
    (h1 : ws = [] → Q (.ref t) s) (h2 : ws ≠ [] → Q (.ref s.heap.objs.size) { s with heap := s.heap.push { cls := .type "tuple", data := .seq (vs ++ ws).toArray } })
    (hsz : vs.length + ws.length ≤ sizeLine) : wpAny (model prog w) A (binaryOp .Add (.ref t) (.ref b)) Q E s := by
  obtain ⟨⟨cls, dd, data, sl⟩, ho, hc, n, hd⟩ := id ht
  obtain ⟨⟨cls2, dd2, data2, sl2⟩, ho2, hc2, n2, hd2⟩ := id hb
  simp only at hc hd hc2 hd2
  subst hc hd hc2 hd2
  have e : vs.toArray ++ ws.toArray = (vs ++ ws).toArray := by simp
  by_cases hw : ws = []
  · exact concat_meets ⟨_, ho, rfl⟩ ⟨_, ho2, rfl⟩ noFill_tuple_add seq_tuple_add PySem.F.slot_tuple_add PySem.F.entry_tuple_add (PySem.F.args_tuple_add_2 _ _)
      (tuple_addW1 t b vs.toArray ws.toArray n n2 dd dd2 sl sl2 (by simpa using hv) (by simp [hw])) ⟨ho, ho2, h1 hw⟩
  · refine concat_meets ⟨_, ho, rfl⟩ ⟨_, ho2, rfl⟩ noFill_tuple_add seq_tuple_add PySem.F.slot_tuple_add PySem.F.entry_tuple_add (PySem.F.args_tuple_add_2 _ _)
      (tuple_addW2 t b vs.toArray ws.toArray n n2 dd dd2 sl sl2 (by simpa using hv) (by simpa using hw) (by rw [List.size_toArray, List.size_toArray]; exact hsz)) ⟨ho, ho2, ?_⟩
    rw [e]
    exact h2 hw

/-! ### t[a:b], not the whole -/
/-- a slice's bound as a place among n (d where it is left out) -/
def sIx (n d : Nat) : Option Int → Nat
  | none => d
  | some v => if v < 0 then (v + (n : Int)).toNat else min v.toNat n
theorem sIx_none (n d : Nat) : sIx n d none = d := rfl
theorem sIx_nat (n d k : Nat) : sIx n d (some (k : Int)) = min k n := by
  show (if (k : Int) < 0 then ((k : Int) + (n : Int)).toNat else min (k : Int).toNat n) = min k n
  rw [if_neg (by omega), Int.toNat_natCast]
theorem sIx_le (n d : Nat) (hd : d ≤ n) (o : Option Int) : sIx n d o ≤ n := by
  cases o with
  | none => exact hd
  | some v =>
    show (if v < 0 then (v + (n : Int)).toNat else min v.toNat n) ≤ n
    by_cases hv : v < 0
    · rw [if_pos hv]; omega
    · rw [if_neg hv]; exact Nat.min_le_right _ _
theorem clip_eq (v : Int) (n d : Nat) : (if v < 0 then max (v + (n : Int)) 0 else min v (n : Int)) = ((sIx n d (some v) : Nat) : Int) := by
  show (if v < 0 then max (v + (n : Int)) 0 else min v (n : Int)) = (((if v < 0 then (v + (n : Int)).toNat else min v.toNat n) : Nat) : Int)
  by_cases hv : v < 0
  · simp only [if_pos hv]; omega
  · simp only [if_neg hv]; omega
theorem adjust_gen (lo hi : Option Int) (n : Nat) : Builtin.Slice.sliceAdjust lo hi 1 (n : Int) = (((sIx n 0 lo : Nat) : Int), ((sIx n n hi : Nat) : Int)) := by
  have h1 : ¬ ((1 : Int) < 0) := by omega
  unfold Builtin.Slice.sliceAdjust
  simp only [h1, if_false]
  refine Prod.ext ?_ ?_
  · cases lo with
    | none => rfl
    | some v => exact clip_eq v n 0
  · cases hi with
    | none => rfl
    | some v => exact clip_eq v n n
theorem places_gen (i j : Nat) : Builtin.Slice.slicePlaces (i : Int) (j : Int) 1 = j - i := by
  unfold Builtin.Slice.slicePlaces
  have h1 : (1 : Int) > 0 := by omega
  simp only [h1, if_true, Int.ediv_one]
  split <;> omega
theorem slicePart_ {v : Value} {o : Option Int} {Q : Option Int → Shared → Prop} (p : IsPart v o) (h : Q o s) : wpAny (model prog w) A (Builtin.Slice.slicePartIndex v) Q E s := by
  cases p with
  | none => exact slicePart_none h
  | int i t => exact slicePart_int h
theorem sliceApplied_gen {sl : Addr} {vl vu : Value} {lo hi : Option Int} {n : Nat} {Q : Int × Int × Nat → Shared → Prop} (hs : s.heap.IsSliceOf sl vl vu .none) (pl : IsPart vl lo) (pu : IsPart vu hi)
    (h : Q (((sIx n 0 lo : Nat) : Int), 1, sIx n n hi - sIx n 0 lo) s) : wpAny (model prog w) A (Builtin.Slice.sliceApplied (.ref sl) (pure (n : Int))) Q E s := by
  obtain ⟨os, hos, hcs, hds⟩ := id hs
  unfold Builtin.Slice.sliceApplied Builtin.Slice.sliceFields
  refine wpAny_bind (wpAny_bind (wpAny_field hos hds (x := vl) rfl (wpAny_bind (wpAny_field hos hds (x := vu) rfl (wpAny_bind (wpAny_field hos hds (x := .none) rfl (wpAny_pure ?_)))))))
  refine wpAny_bind (slicePart_none ?_)
  show wpAny _ _ (if ((1 : Int) == 0) = true then _ else _) _ _ s
  rw [if_neg (by decide)]
  refine wpAny_bind (slicePart_ pl (wpAny_bind (slicePart_ pu (wpAny_bind (wpAny_pure ?_)))))
  show wpAny _ _ (match Builtin.Slice.sliceAdjust lo hi 1 (n : Int) with | (lo, hi) => pure (lo, (1 : Int), Builtin.Slice.slicePlaces lo hi 1)) _ _ s
  rw [adjust_gen lo hi n]
  show wpAny _ _ (pure (((sIx n 0 lo : Nat) : Int), (1 : Int), Builtin.Slice.slicePlaces ((sIx n 0 lo : Nat) : Int) ((sIx n n hi : Nat) : Int) 1)) _ _ s
  rw [places_gen]
  exact wpAny_pure h
theorem pick_gen (xs : Array Value) (i k : Nat) : ((List.range k).filterMap fun (m : Nat) => xs[((i : Int) + (m : Int) * 1).toNat]?).toArray = ((xs.toList.drop i).take k).toArray := by
  have e : (fun (m : Nat) => xs[((i : Int) + (m : Int) * 1).toNat]?) = fun m => xs[i + m]? := by
    funext m
    have : ((i : Int) + (m : Int) * 1).toNat = i + m := by omega
    rw [this]
  rw [e]
  have := pick_run xs i k
  rw [List.filterMap_map] at this
  have e2 : ((fun x => xs[x]?) ∘ fun x => i + x) = fun m => xs[i + m]? := rfl
  rw [e2] at this
  rw [this]

theorem getItem_tuple_cut {t sl : Addr} {items : Array Value} {vl vu : Value} {lo hi : Option Int} {Q : Value → Shared → Prop} (ht : IsTup s.heap t items) (hs : s.heap.IsSliceOf sl vl vu .none) (pl : IsPart vl lo) (pu : IsPart vu hi)
    (hw : ¬ (sIx items.size 0 lo = 0 ∧ sIx items.size items.size hi = items.size))
    (h : Q (.ref s.heap.objs.size) { s with heap := s.heap.push { cls := .type "tuple", data := .seq ((items.toList.drop (sIx items.size 0 lo)).take (sIx items.size items.size hi - sIx items.size 0 lo)).toArray } })
    (hsz : items.size ≤ sizeLine) : wpAny (model prog w) A (getItem (.ref t) (.ref sl)) Q E s := by
  have htake : sizeOk (.seq ((items.toList.drop (sIx items.size 0 lo)).take (sIx items.size items.size hi - sIx items.size 0 lo)).toArray) := by
    show ((items.toList.drop (sIx items.size 0 lo)).take (sIx items.size items.size hi - sIx items.size 0 lo)).toArray.size ≤ sizeLine
    rw [List.size_toArray, List.length_take, List.length_drop, Array.length_toList]
    omega
  have hj : sIx items.size items.size hi ≤ items.size := sIx_le _ _ (Nat.le_refl _) hi
  obtain ⟨os, hos, hcs, hds⟩ := id hs
  have hTs : s.TypeIs (.ref sl) "slice" := ⟨os, hos, hcs⟩
  unfold getItem
  try with_reducible refine wpAny_holding ?_
  first | refine wpAny_bind (wpAny_pure ?_) | skip
  refine wpAny_bind (wpAny_sequenceKey ht.typeIs (by decide) ?_)
  refine wpAny_bind (wpAny_callSpecial?_slot (name := Str.ofString "__getitem__") ht.typeIs PyProof.Rows.slot_tuple_getitem
    (wpAny_call_entry PyProof.Rows.slot_tuple_getitem ht.typeIs entry_tuple_getitem ?_ (args_tuple_getitem _ _)))
  show wpAny _ _ (Builtin.Tuple.tupleItemsOf (.ref t) >>= _) _ _ s
  refine wpAny_bind (tupleItemsOf_ ht ?_)
  refine wpAny_bind (wpAny_typeOf hTs ?_)
  rw [if_pos (by decide)]
  refine wpAny_bind (sliceApplied_gen hs pl pu ?_)
  have hno : ¬ ((((sIx items.size 0 lo : Nat) : Int) == 0 && (1 : Int) == 1 && (sIx items.size items.size hi - sIx items.size 0 lo) == items.size) = true) := by
    intro q
    rw [Bool.and_eq_true, Bool.and_eq_true] at q
    have q1 : ((sIx items.size 0 lo : Nat) : Int) = 0 := eq_of_beq q.1.1
    have q2 : sIx items.size items.size hi - sIx items.size 0 lo = items.size := eq_of_beq q.2
    exact hw ⟨by omega, by omega⟩
  show wpAny _ _ (if (((sIx items.size 0 lo : Nat) : Int) == 0 && (1 : Int) == 1 && (sIx items.size items.size hi - sIx items.size 0 lo) == items.size) = true then _ else _) _ _ s
  rw [if_neg hno, pick_gen]
  first
    | exact wpAny_bind (m := Builtin.Tuple.tupleExact _) (wpAny_newObj_type (wpAny_pure ⟨_, rfl, wpAny_pure h⟩) htake)
    | exact wpAny_bind (m := Builtin.Tuple.tupleExact _) (wpAny_newObj_type (wpAny_bind (wpAny_pure (wpAny_pure ⟨_, rfl, wpAny_pure h⟩))) htake)
    | exact wpAny_bind (wpAny_bind (m := Builtin.Tuple.tupleExact _) (wpAny_newObj_type (wpAny_pure (wpAny_pure ⟨_, rfl, wpAny_pure h⟩)) htake))
    | exact wpAny_bind (wpAny_bind (m := Builtin.Tuple.tupleExact _) (wpAny_newObj_type (wpAny_pure ⟨_, rfl, wpAny_pure h⟩) htake))
end
end HT
namespace L2
open PySem PySem.Spec PyProof.Rows

/-! ### the parts of a slice -/
abbrev TO := St → Hp → (Option Int → Hp → Prop) → Prop
/-- a slice's part (left out, or an int) -/
def PO (X : Cx) (e : Option Expr) (t : TO) : Prop :=
  ∀ (pins : List (Addr × Obj)) (s : Shared) (σ : St) (H : Hp) (Q : Option Int → Hp → Prop), Inv X pins σ H s → t σ H Q →
    wpAny (model X.prog X.w) X.A (evalPart e X.env) (fun u s' => ∃ o H', Inv X pins σ H' s' ∧ IsPart u o ∧ Q o H') X.xe s
def tNoPart : TO := fun _ H Q => Q none H
def tPart (t : TE) : TO := fun σ H Q => t σ H fun x H1 => ∃ i, x = .int i ∧ Q (some i) H1

theorem intsAre_of {ns : List Int} : ∀ {us : List Value}, Vals (ns.map V.int) us → IntsAre us ns := by
  induction ns with
  | nil => intro us r; rw [List.map_nil] at r; cases r; exact .nil
  | cons n ns ih =>
    intro us r
    rw [List.map_cons] at r
    cases r with
    | cons r1 r2 =>
      obtain ⟨t, e⟩ := r1
      subst e
      exact .cons n t (ih r2)

section
variable {X : Cx} {e : Expr} {te : TE} {lo hi : Option Expr} {tl th : TO} {pos p2 : Pos}

theorem po_none : PO X none tNoPart := by
  intro pins s σ H Q I h
  rw [evalPart_none]
  exact wpAny_pure ⟨none, H, I, .none, h⟩
theorem po_some (h : PE X e te) : PO X (some e) (tPart te) := by
  intro pins s σ H Q I hw
  rw [evalPart_some]
  refine thn (h pins s σ H _ I hw) fun u s1 ⟨x, H1, I1, r1, q1⟩ => ?_
  obtain ⟨i, rfl, q⟩ := q1
  obtain ⟨t, rfl⟩ := r1
  exact ⟨some i, H1, I1, .int i t, q⟩

/-- what a slice of a value is, by values: the slice object stands at sl -/
def SlR (X : Cx) (r : V → Option Int → Option Int → Hp → VK → Prop) : Prop :=
  ∀ (pins : List (Addr × Obj)) (s : Shared) (σ : St) (H : Hp) (x : V) (v vl vu : Value) (lo hi : Option Int) (sl : Addr) (Q : VK), Inv X pins σ H s → RelV x v → s.heap.IsSliceOf sl vl vu .none → IsPart vl lo → IsPart vu hi → r x lo hi H Q →
    ∃ T id, typeLookup (.type T) "__getitem__" = pure (some (.builtin id)) ∧ s.TypeIs v T ∧ wpAny (model X.prog X.w) X.A (getItem v (.ref sl)) (EP X pins σ Q) X.xe s
theorem SlR.or {r r' : V → Option Int → Option Int → Hp → VK → Prop} (h : SlR X r) (h' : SlR X r') : SlR X (fun x lo hi H Q => r x lo hi H Q ∨ r' x lo hi H Q) := by
  intro pins s σ H x v vl vu lo hi sl Q I rx hs pl pu q
  rcases q with q | q
  · exact h pins s σ H x v vl vu lo hi sl Q I rx hs pl pu q
  · exact h' pins s σ H x v vl vu lo hi sl Q I rx hs pl pu q
def tSl (r : V → Option Int → Option Int → Hp → VK → Prop) (te : TE) (tl th : TO) : TE := fun σ H Q => te σ H fun x H1 => tl σ H1 fun l H2 => th σ H2 fun u H3 => r x l u H3 Q
/-- a[lo:hi], any a -/
theorem pe_slice {r : V → Option Int → Option Int → Hp → VK → Prop} (hr : SlR X r) (he : PE X e te) (hl : PO X lo tl) (hu : PO X hi th) : PE X (.Subscript e (.Slice lo hi none p2) pos) (tSl r te tl th) := by
  intro pins s σ H Q I h
  refine Subscript_ (thn (he pins s σ H _ I h) fun v s1 ⟨x, H1, I1, r1, q1⟩ => ?_)
  refine wpAny_Slice (thn (hl pins s1 σ H1 _ I1 q1) fun vl s2 ⟨l, H2, I2, pl, q2⟩ => thn (hu pins s2 σ H2 _ I2 q2) fun vu s3 ⟨u, H3, I3, pu, q3⟩ => ?_)
  rw [evalPart_none]
  refine wpAny_pure ?_
  have I4 : Inv X pins σ H3 { s3 with heap := s3.heap.push { cls := .type "slice", data := .fields #[vl, vu, .none] } } := I3.kept (t' := s3.toks) fun b ob q => Heap.get?_push_of_some _ q
  obtain ⟨T, id, hT, ht, hg⟩ := hr pins { s3 with heap := s3.heap.push { cls := .type "slice", data := .fields #[vl, vu, .none] } } σ H3 x v vl vu l u s3.heap.objs.size Q I4 r1 (Heap.IsSliceOf.new ..) pl pu q3
  show wpAny (model X.prog X.w) X.A (subscriptTail e (.Slice lo hi none p2) v (.ref s3.heap.objs.size)) (EP X pins σ Q) X.xe { s3 with heap := s3.heap.push { cls := .type "slice", data := .fields #[vl, vu, .none] } }
  exact tail_any (ops := [.ref s3.heap.objs.size, v]) ht hT hg (by with_unfolding_all rfl)

/-- the items of xs[lo:hi] -/
def cutV (xs : List V) (lo hi : Option Int) : List V := (xs.drop (HT.sIx xs.length 0 lo)).take (HT.sIx xs.length xs.length hi - HT.sIx xs.length 0 lo)
theorem cutV_length (xs : List V) (lo hi : Option Int) : (cutV xs lo hi).length ≤ xs.length := by
  unfold cutV
  rw [List.length_take, List.length_drop]
  omega
/-- t[lo:hi], not the whole of it (the whole would be t itself) -/
def rSlT (K : PySem.W.Frag) : V → Option Int → Option Int → Hp → VK → Prop := fun x lo hi H Q => ∃ a xs, x = .ref a ∧ SqT K H a xs ∧
  ¬ (HT.sIx xs.length 0 lo = 0 ∧ HT.sIx xs.length xs.length hi = xs.length) ∧ ∀ p, H p = none → Q (.ref p) (upd H p (.tup (cutV xs lo hi)))
theorem sl_tup : SlR X (rSlT X.K) := by
  intro pins s σ H x v vl vu lo hi sl Q I rx hs pl pu h
  obtain ⟨a, xs, rfl, hx, hw, q⟩ := h
  cases rx
  obtain ⟨its, r, ht, hz⟩ := I.tuple hx
  have hlen : its.toArray.size = xs.length := by rw [List.size_toArray]; exact r.length.symm
  refine ⟨"tuple", _, PyProof.Rows.slot_tuple_getitem.lookup, ht.typeIs, ?_⟩
  refine HT.getItem_tuple_cut ht hs pl pu (by rw [hlen]; exact hw) ?_ (by rw [hlen]; exact hz)
  rw [hlen]
  refine ⟨.ref s.heap.objs.size, _, I.laid (t' := s.toks) (o := .tup (cutV xs lo hi)) (fun b ob q => Heap.get?_push_of_some _ q) (Nat.le_refl _) ?_, rfl, q _ (I.hok.fresh (Nat.le_refl _))⟩
  exact ⟨Nat.le_trans (cutV_length xs lo hi) hz, _, (r.drop (HT.sIx xs.length 0 lo)).take (HT.sIx xs.length xs.length hi - HT.sIx xs.length 0 lo), IsTup.new _ _⟩

/-! ### t < u, t + u -/
def rLtT (K : PySem.W.Frag) : R2 := fun x y H Q => ∃ a b ns ms, x = .ref a ∧ y = .ref b ∧ SqT K H a (ns.map V.int) ∧ SqT K H b (ms.map V.int) ∧ Q (.bl (HT.lexLt ns ms)) H
theorem op_ltT (hu : X.A.units < cLine) : OpR X (compareOp .Lt) (rLtT X.K) := by
  intro pins s σ H x y v u Q I rx ry h
  obtain ⟨a, b, ns, ms, rfl, rfl, ha, hb, q⟩ := h
  cases rx
  cases ry
  obtain ⟨its, r1, p1, _⟩ := I.tuple ha
  obtain ⟨its2, r2, p2, _⟩ := I.tuple hb
  have i1 : IntsAre its.toArray.toList ns := intsAre_of r1
  have i2 : IntsAre its2.toArray.toList ms := intsAre_of r2
  exact HT.lt_tupInts p1 p2 i1 i2 hu ⟨.bl (HT.lexLt ns ms), H, I, rfl, q⟩
/-- t + u, t not empty: u empty gives t itself -/
def rCatT (K : PySem.W.Frag) : R2 := fun x y H Q => ∃ a b xs ys, x = .ref a ∧ y = .ref b ∧ SqT K H a xs ∧ SqT K H b ys ∧ xs ≠ [] ∧ xs.length + ys.length ≤ sizeLine ∧
  (ys = [] → Q (.ref a) H) ∧ (ys ≠ [] → ∀ p, H p = none → Q (.ref p) (upd H p (.tup (xs ++ ys))))
theorem Vals.nil_iff {xs : List V} {us : List Value} (r : Vals xs us) : us = [] ↔ xs = [] := by
  cases r with
  | nil => simp
  | cons _ _ => simp
theorem op_catT : OpR X (binaryOp .Add) (rCatT X.K) := by
  intro pins s σ H x y v u Q I rx ry h
  obtain ⟨a, b, xs, ys, rfl, rfl, ha, hb, hx, hz, q1, q2⟩ := h
  cases rx
  cases ry
  obtain ⟨its, r1, p1, _⟩ := I.tuple ha
  obtain ⟨its2, r2, p2, _⟩ := I.tuple hb
  refine HT.cat_tup p1 p2 (fun z => hx (r1.nil_iff.mp z)) (fun z => ⟨.ref a, H, I, rfl, q1 (r2.nil_iff.mp z)⟩) (fun z => ?_) (by rw [← r1.length, ← r2.length]; exact hz)
  refine ⟨.ref s.heap.objs.size, _, I.laid (t' := s.toks) (o := .tup (xs ++ ys)) (fun b ob q => Heap.get?_push_of_some _ q) (Nat.le_refl _) ?_, rfl, q2 (fun w => z (r2.nil_iff.mpr w)) _ (I.hok.fresh (Nat.le_refl _))⟩
  exact ⟨by rw [List.length_append]; exact hz, _, r1.append r2, IsTup.new _ _⟩
/-- tuple(t) -/
theorem call_tupleT : CallR X (.type "tuple") (fun xs H Q => ∃ a ys, xs = [.ref a] ∧ SqT X.K H a ys ∧ Q (.ref a) H) := by
  intro pins s σ H xs us Q I r h
  obtain ⟨a, ys, rfl, ha, q⟩ := h
  obtain ⟨u, rfl, ru⟩ := vals1 r
  cases ru
  obtain ⟨its, _, p1, _⟩ := I.tuple ha
  exact call_tuple_same (items := its.toArray) p1 ⟨.ref a, H, I, rfl, q⟩
end
end L2
namespace L2
open PySem PySem.Spec PyProof.Rows

/-! ### places -/
/-- the place that an index of any sign means -/
def ixN (n : Nat) (i : Int) : Option Nat := if 0 ≤ i then (if i < n then some i.toNat else none) else if -(n : Int) ≤ i then some (i + n).toNat else none
def atI {α : Type} (xs : List α) (i : Int) : Option α := (ixN xs.length i).bind fun j => xs[j]?
theorem ixN_seq {n : Nat} {i : Int} {j : Nat} (h : ixN n i = some j) : seqIndex? i n = some j ∧ j < n ∧ -(n : Int) ≤ i ∧ i < n := by
  unfold ixN at h
  by_cases h0 : 0 ≤ i
  · rw [if_pos h0] at h
    by_cases h1 : i < n
    · rw [if_pos h1] at h
      have e : i.toNat = j := Option.some.inj h
      exact ⟨by rw [seqIndex_of h0 h1, e], by omega, by omega, h1⟩
    · rw [if_neg h1] at h; cases h
  · rw [if_neg h0] at h
    by_cases h1 : -(n : Int) ≤ i
    · rw [if_pos h1] at h
      have e : (i + n).toNat = j := Option.some.inj h
      exact ⟨by rw [seqIndex_neg (by omega) h1, e], by omega, h1, by omega⟩
    · rw [if_neg h1] at h; cases h
theorem atI_get {α : Type} {xs : List α} {i : Int} {v : α} (h : atI xs i = some v) : ∃ j, seqIndex? i xs.length = some j ∧ xs[j]? = some v ∧ j < xs.length ∧ -(xs.length : Int) ≤ i ∧ i < xs.length := by
  unfold atI at h
  cases e : ixN xs.length i with
  | none => rw [e] at h; cases h
  | some j =>
    rw [e] at h
    obtain ⟨h1, h2, h3, h4⟩ := ixN_seq e
    exact ⟨j, h1, h, h2, h3, h4⟩
theorem atI_nat {α : Type} {xs : List α} {j : Nat} {v : α} (h : xs[j]? = some v) : atI xs (j : Int) = some v := by
  have hj : j < xs.length := (List.getElem?_eq_some_iff.mp h).1
  have e : ixN xs.length (j : Int) = some j := by
    unfold ixN
    rw [if_pos (by omega), if_pos (by omega)]; simp
  unfold atI; rw [e]; exact h
theorem atI_last {α : Type} (xs : List α) (v : α) : atI (xs ++ [v]) (-1) = some v := by
  have hl : (xs ++ [v]).length = xs.length + 1 := by simp
  have e : ixN (xs ++ [v]).length (-1) = some xs.length := by
    unfold ixN
    rw [hl, if_neg (by decide), if_pos (by omega)]
    congr 1
    omega
  unfold atI
  rw [e]
  show (xs ++ [v])[xs.length]? = some v
  simp

/-! ### what may be subscripted -/
/-- what stands as an index of a plain subscript -/
def PlainIx (b : Expr) : Prop := ∀ o i, subscripted b false o i = operate [o, i] (getItem o i)
/-- a subscript by values -/
def IxR (X : Cx) (r : R2) : Prop :=
  ∀ (value slice : Expr) (pins : List (Addr × Obj)) (s : Shared) (σ : St) (H : Hp) (x y : V) (v u : Value) (Q : VK), Inv X pins σ H s → RelV x v → RelV y u → r x y H Q →
    subscripted slice false v u = operate [v, u] (getItem v u) → wpAny (model X.prog X.w) X.A (subscriptTail value slice v u) (EP X pins σ Q) X.xe s
/-- a call of a builtin's method by values: the receiver, the arguments -/
def MtR (X : Cx) (id : String) (r : V → List V → Hp → VK → Prop) : Prop :=
  ∀ (pins : List (Addr × Obj)) (s : Shared) (σ : St) (H : Hp) (x : V) (xs : List V) (v : Value) (us : List Value) (Q : VK), Inv X pins σ H s → RelV x v → Vals xs us → r x xs H Q →
    wpAny (model X.prog X.w) X.A (call (.builtin id) (v :: us)) (EP X pins σ Q) X.xe s
section
variable {X : Cx} {a b : Expr} {ta tb : TE} {pos : Pos}
theorem IxR.or {r r' : R2} (h : IxR X r) (h' : IxR X r') : IxR X (fun x y H Q => r x y H Q ∨ r' x y H Q) := by
  intro value slice pins s σ H x y v u Q I rx ry q hs
  rcases q with q | q
  · exact h value slice pins s σ H x y v u Q I rx ry q hs
  · exact h' value slice pins s σ H x y v u Q I rx ry q hs
theorem MtR.or {id : String} {r r' : V → List V → Hp → VK → Prop} (h : MtR X id r) (h' : MtR X id r') : MtR X id (fun x xs H Q => r x xs H Q ∨ r' x xs H Q) := by
  intro pins s σ H x xs v us Q I rx rs q
  rcases q with q | q
  · exact h pins s σ H x xs v us Q I rx rs q
  · exact h' pins s σ H x xs v us Q I rx rs q
/-- a[b] -/
theorem pe_ix {r : R2} (hr : IxR X r) (ha : PE X a ta) (hb : PE X b tb) (hs : PlainIx b) : PE X (.Subscript a b pos) (tOp r ta tb) := by
  intro pins s σ H Q I h
  exact Subscript_ (binT ha hb I h fun v u s2 x y H2 I2 rx ry q => hr a b pins s2 σ H2 x y v u Q I2 rx ry q (hs _ _))

def rIxL (K : PySem.W.Frag) : R2 := fun x y H Q => ∃ p xs i v, x = .ref p ∧ y = .int i ∧ SqL K H p xs ∧ atI xs i = some v ∧ Q v H
def rIxT (K : PySem.W.Frag) : R2 := fun x y H Q => ∃ p xs i v, x = .ref p ∧ y = .int i ∧ SqT K H p xs ∧ atI xs i = some v ∧ Q v H
def rIxS : R2 := fun x y H Q => ∃ z i c, x = .str z ∧ y = .int i ∧ z.length ≤ sizeLine ∧ atI z.cps.toList i = some c ∧ Q (.str ⟨#[c]⟩) H
theorem ix_list : IxR X (rIxL X.K) := by
  intro value slice pins s σ H x y v u Q I rx ry h hs
  obtain ⟨p, xs, i, z, rfl, rfl, hq, he, q⟩ := h
  cases rx
  obtain ⟨t, rfl⟩ := ry
  obtain ⟨its, r, pl, hz⟩ := I.list hq
  obtain ⟨j, h1, h2, h3, h4, h5⟩ := atI_get he
  obtain ⟨w, ew, rw'⟩ := r.get h2
  have hl := r.length
  have hn := line63
  have fin : EP X pins σ Q w s := ⟨z, H, I, rw', q⟩
  by_cases h0 : 0 ≤ i
  · have hj : i.toNat = j := by
      rw [seqIndex_of h0 h5] at h1
      exact Option.some.inj h1
    exact item_listR pl.isList h0 (by omega) (by rw [hj]; simpa using ew) fin hs
  · have hj : (i + (its.toArray.size : Int)).toNat = j := by
      rw [seqIndex_neg (by omega) h4] at h1
      rw [List.size_toArray, ← hl]
      exact Option.some.inj h1
    exact subscriptTail_builtinR (x := w) pl.isList.typeIs slot_list_getitem.lookup
      (wpAny_getItem_list_neg (Q := fun r s' => r = w ∧ EP X pins σ Q r s') pl.isList (by omega) (by rw [List.size_toArray] <;> omega) (by omega) (by rw [hj]; simpa using ew) ⟨rfl, fin⟩) hs
theorem ix_tup : IxR X (rIxT X.K) := by
  intro value slice pins s σ H x y v u Q I rx ry h hs
  obtain ⟨p, xs, i, z, rfl, rfl, hq, he, q⟩ := h
  cases rx
  obtain ⟨t, rfl⟩ := ry
  obtain ⟨its, r, pl, hz⟩ := I.tuple hq
  obtain ⟨j, h1, h2, h3, h4, h5⟩ := atI_get he
  obtain ⟨w, ew, rw'⟩ := r.get h2
  have hl := r.length
  have hn := line63
  have fin : EP X pins σ Q w s := ⟨z, H, I, rw', q⟩
  exact subscriptTail_builtinR (x := w) pl.typeIs slot_tuple_getitem.lookup
    (getItem_tuple (j := j) (Q := fun r s' => r = w ∧ EP X pins σ Q r s') pl (by omega) (by omega) (by rw [List.size_toArray, ← hl]; exact h1) (by simpa using ew) ⟨rfl, fin⟩) hs
theorem ix_str : IxR X rIxS := by
  intro value slice pins s σ H x y v u Q I rx ry h hs
  obtain ⟨z, i, c, rfl, rfl, hz, he, q⟩ := h
  obtain ⟨t, rfl⟩ := rx
  obtain ⟨t', rfl⟩ := ry
  obtain ⟨j, h1, h2, h3, h4, h5⟩ := atI_get he
  have hl : z.cps.toList.length = z.length := by simp [Str.length]
  rw [hl] at h1 h4 h5
  have hn := line63
  exact tail_any (typeIs_str s z t) slot_str_getitem.lookup (getItem_str (c := c) (by
    have e1 : decide (i < -(2 ^ 63 : Int)) = false := decide_eq_false (by omega)
    have e2 : decide (i ≥ 2 ^ 63) = false := decide_eq_false (by omega)
    rw [e1, e2, Bool.or_false]) (by rw [h1]; simpa using h2) ⟨.str ⟨#[c]⟩, H, I.tok _, ⟨_, rfl⟩, q⟩) hs
/-- list, tuple or str -/
def rIx (K : PySem.W.Frag) : R2 := fun x y H Q => rIxL K x y H Q ∨ rIxT K x y H Q ∨ rIxS x y H Q
theorem ix_seq : IxR X (rIx X.K) := ix_list.or (ix_tup.or ix_str)

/-! ### xs[i] = v, any sign -/
/-- the list's object behind a store -/
theorem mapSeq_set (its : List Value) (n j : Nat) (u : Value) : Obj.mapSeq (·.setIfInBounds j u) { cls := .type "list", data := .seq its.toArray n } = { cls := .type "list", data := .seq (its.set j u).toArray n } := by
  simp [Obj.mapSeq]
theorem Inv.lst {pins : List (Addr × Obj)} {σ : St} {H : Hp} {s : Shared} {p : Addr} {xs : List V} (I : Inv X pins σ H s) (h : H p = some (.lst xs)) :
    ∃ (its : List Value) (n : Nat), Vals xs its ∧ s.heap.get? p = some { cls := .type "list", data := .seq its.toArray n } ∧ xs.length ≤ sizeLine := by
  obtain ⟨z, its, n, r, e⟩ := I.hok p _ h
  exact ⟨its, n, r, e, z⟩
/-- the list at p is written by an update of its object -/
theorem Inv.lstUpd {pins : List (Addr × Obj)} {σ : St} {H : Hp} {s : Shared} {p : Addr} {xs ys : List V} {its its' : List Value} {n n' : Nat} {f : Obj → Obj} (I : Inv X pins σ H s) (h : H p = some (.lst xs))
    (ho : s.heap.get? p = some { cls := .type "list", data := .seq its.toArray n }) (hf : f { cls := .type "list", data := .seq its.toArray n } = { cls := .type "list", data := .seq its'.toArray n' }) (r : Vals ys its') (hz : ys.length ≤ sizeLine) (t : Nat) :
    Inv X pins σ (upd H p (.lst ys)) { s with heap := s.heap.update p f, toks := t } := by
  have e : (s.heap.update p f).get? p = some { cls := .type "list", data := .seq its'.toArray n' } := by
    rw [Heap.get?_update_self f ho (by rw [hf] <;> rfl), hf]
  refine I.write (x := p) (e := p) (by rw [h]; trivial) (.inl rfl) (fun b u hb q => (Heap.get?_update_other _ _ (Ne.symm hb)).trans q) ⟨_, e⟩ ?_
  exact ⟨hz, its', n', r, e⟩
def rSetL : V → V → V → Hp → (Hp → Prop) → Prop := fun o i v H Q => ∃ p xs k j, o = .ref p ∧ i = .int k ∧ H p = some (.lst xs) ∧ ixN xs.length k = some j ∧ Q (upd H p (.lst (xs.set j v)))
theorem set_list : PSet X rSetL := by
  intro pins s σ H o i v ov iv u Q I ro ri rv h
  obtain ⟨p, xs, k, j, rfl, rfl, hp, hj, q⟩ := h
  cases ro
  obtain ⟨t, rfl⟩ := ri
  obtain ⟨its, n, r, ho, hz⟩ := I.lst hp
  obtain ⟨h1, h2, h3, h4⟩ := ixN_seq hj
  have hl := r.length
  have hn := line63
  have I' : Inv X pins σ (upd H p (.lst (xs.set j v))) { s with heap := s.heap.update p (Obj.mapSeq (·.setIfInBounds j u)) } :=
    I.lstUpd hp ho (mapSeq_set its n j u) (r.set rv j) (by rw [List.length_set]; exact hz) s.toks
  by_cases h0 : 0 ≤ k
  · have hk : k.toNat = j := by
      rw [seqIndex_of h0 h4] at h1
      exact Option.some.inj h1
    exact PySem.W.ki_setAt ho h0 (by omega) (by rw [List.size_toArray, ← hl]; exact h4) (by rw [hk]; exact ⟨_, I', q⟩)
  · have hk : (k + (its.toArray.size : Int)).toNat = j := by
      rw [seqIndex_neg (by omega) h3] at h1
      rw [List.size_toArray, ← hl]
      exact Option.some.inj h1
    exact PySem.W.ki_setBack ho (by omega) (by rw [List.size_toArray, ← hl]; exact h3) (by omega) (by rw [hk]; exact ⟨_, I', q⟩)

/-! ### slices -/
theorem slice_bounds (lo hi : Option Int) (n : Nat) : (sliceBounds lo hi none n).1 = ((HT.sIx n 0 lo : Nat) : Int) ∧ (sliceBounds lo hi none n).2.1 = ((HT.sIx n n hi : Nat) : Int) ∧ (sliceBounds lo hi none n).2.2 = 1 := by
  refine ⟨?_, ?_, rfl⟩
  · cases lo with
    | none => simp [sliceBounds, HT.sIx]
    | some i =>
      simp only [sliceBounds, HT.sIx, Option.getD_none, show (1 : Int) > 0 by decide, if_true]
      by_cases h : i < 0
      · simp only [h, if_true] <;> omega
      · simp only [h, if_false] <;> omega
  · cases hi with
    | none => simp [sliceBounds, HT.sIx]
    | some i =>
      simp only [sliceBounds, HT.sIx, Option.getD_none, show (1 : Int) > 0 by decide, if_true]
      by_cases h : i < 0
      · simp only [h, if_true] <;> omega
      · simp only [h, if_false] <;> omega
theorem slicePick_cut (its : List Value) (lo hi : Option Int) : slicePick its.toArray lo hi none = ((its.drop (HT.sIx its.length 0 lo)).take (HT.sIx its.length its.length hi - HT.sIx its.length 0 lo)).toArray := by
  obtain ⟨h1, h2, h3⟩ := slice_bounds lo hi its.toArray.size
  unfold slicePick
  rw [h1, h2, h3]
  simp only [sliceRange_one, pick_run, List.size_toArray] <;> rfl
/-- xs[lo:hi] of a list: a new list -/
def rSlL (K : PySem.W.Frag) : V → Option Int → Option Int → Hp → VK → Prop := fun x lo hi H Q => ∃ a xs, x = .ref a ∧ SqL K H a xs ∧ ∀ p, H p = none → Q (.ref p) (upd H p (.lst (cutV xs lo hi)))
theorem sl_list : SlR X (rSlL X.K) := by
  intro pins s σ H x v vl vu lo hi sl Q I rx hs pl pu h
  obtain ⟨a, xs, rfl, hx, q⟩ := h
  cases rx
  obtain ⟨its, r, ht, hz⟩ := I.list hx
  have hlen := r.length
  refine ⟨"list", _, slot_list_getitem.lookup, ht.isList.typeIs, ?_⟩
  refine wpAny_getItem_list_slice ht.isList hs pl pu .none (by simp) ?_ (by rw [List.size_toArray] <;> omega)
  rw [slicePick_cut, ← hlen]
  refine ⟨.ref s.heap.objs.size, _, I.laid (t' := s.toks) (o := .lst (cutV xs lo hi)) (fun b ob q => Heap.get?_push_of_some _ q) (Nat.le_refl _) ?_, rfl, q _ (I.hok.fresh (Nat.le_refl _))⟩
  exact ⟨Nat.le_trans (cutV_length xs lo hi) hz, _, 0, (r.drop (HT.sIx xs.length 0 lo)).take (HT.sIx xs.length xs.length hi - HT.sIx xs.length 0 lo), Heap.get?_push_size _ rfl⟩

/-! ### in, not in: flat items -/
def flatV : V → Bool
  | .non => true
  | .bl _ => true
  | .int _ => true
  | .str _ => true
  | _ => false
/-- == of flat values -/
def eqV : V → V → Bool
  | .non, .non => true
  | .bl a, .bl b => a == b
  | .bl a, .int b => (if a then 1 else 0) == b
  | .int a, .bl b => a == (if b then 1 else 0)
  | .int a, .int b => a == b
  | .str a, .str b => a == b
  | _, _ => false
theorem eqAt_V {A : Around} {s : Shared} {y x : V} {u v : Value} (ry : RelV y u) (rx : RelV x v) (fy : flatV y = true) (fx : flatV x = true) : SeqAt.EqAt A s u v (eqV y x) := by
  cases y with
  | non =>
    cases ry
    cases x with
    | non => cases rx; exact SeqAt.EqAt.same _
    | bl b => cases rx; exact SeqAt.EqAt.none_bool b
    | int b => obtain ⟨t, rfl⟩ := rx; exact SeqAt.EqAt.none_int b t
    | str b => obtain ⟨t, rfl⟩ := rx; exact SeqAt.EqAt.none_str b t
    | _ => exact absurd (show false = true from fx) Bool.false_ne_true
  | bl a =>
    cases ry
    cases x with
    | non => cases rx; exact SeqAt.EqAt.bool_none a
    | bl b => cases rx; exact SeqAt.EqAt.bool_bool a b
    | int b => obtain ⟨t, rfl⟩ := rx; exact SeqAt.EqAt.bool_int a b t
    | str b => obtain ⟨t, rfl⟩ := rx; exact SeqAt.EqAt.bool_str a b t
    | _ => exact absurd (show false = true from fx) Bool.false_ne_true
  | int a =>
    obtain ⟨t', rfl⟩ := ry
    cases x with
    | non => cases rx; exact SeqAt.EqAt.int_none a t'
    | bl b => cases rx; exact SeqAt.EqAt.int_bool a t' b
    | int b => obtain ⟨t, rfl⟩ := rx; exact SeqAt.EqAt.int_int a t' b t
    | str b => obtain ⟨t, rfl⟩ := rx; exact SeqAt.EqAt.int_str a t' b t
    | _ => exact absurd (show false = true from fx) Bool.false_ne_true
  | str a =>
    obtain ⟨t', rfl⟩ := ry
    cases x with
    | non => cases rx; exact SeqAt.EqAt.str_none a t'
    | bl b => cases rx; exact SeqAt.EqAt.str_bool a t' b
    | int b => obtain ⟨t, rfl⟩ := rx; exact SeqAt.EqAt.str_int a t' b t
    | str b => obtain ⟨t, rfl⟩ := rx; exact SeqAt.EqAt.str_str a t' b t
    | _ => exact absurd (show false = true from fx) Bool.false_ne_true
  | _ => exact absurd (show false = true from fy) Bool.false_ne_true
/-- the items' answers, read off the values (a value's own answer does not lean on its token) -/
def eqU (x : V) (u : Value) : Bool := match u with
  | .none => eqV .non x
  | .bool b => eqV (.bl b) x
  | .int i _ => eqV (.int i) x
  | .str z _ => eqV (.str z) x
  | _ => false
theorem eqU_of {x y : V} {u : Value} (r : RelV y u) (f : flatV y = true) : eqU x u = eqV y x := by
  cases y with
  | non => cases r; rfl
  | bl b => cases r; rfl
  | int i => obtain ⟨t, rfl⟩ := r; rfl
  | str z => obtain ⟨t, rfl⟩ := r; rfl
  | _ => exact absurd (show false = true from f) Bool.false_ne_true
theorem any_eqU {x : V} : ∀ {xs : List V} {us : List Value}, Vals xs us → xs.all flatV = true → us.any (eqU x) = xs.any fun y => eqV y x
  | _, _, .nil, _ => rfl
  | y :: xs, u :: us, .cons r t, f => by
    rw [List.all_cons, Bool.and_eq_true] at f
    rw [List.any_cons, List.any_cons, eqU_of r f.1, any_eqU t f.2]
theorem mem_eqAt {A : Around} {s : Shared} {x : V} {v : Value} (rx : RelV x v) (fx : flatV x = true) : ∀ {xs : List V} {us : List Value}, Vals xs us → xs.all flatV = true → ∀ u ∈ us, SeqAt.EqAt A s u v (eqU x u)
  | _, _, .nil, _ => fun u hu => by cases hu
  | y :: xs, u :: us, .cons r t, f => fun u' hu => by
    rw [List.all_cons, Bool.and_eq_true] at f
    rcases List.mem_cons.mp hu with rfl | hu
    · rw [eqU_of r f.1]; exact eqAt_V r rx f.1 fx
    · exact mem_eqAt rx fx t f.2 u' hu
def inV (x : V) (xs : List V) : Bool := xs.any fun y => eqV y x
/-- x in a list or tuple of flat items -/
def rIn (K : PySem.W.Frag) (neg : Bool) : R2 := fun x y H Q => ∃ p xs, y = .ref p ∧ (SqL K H p xs ∨ SqT K H p xs) ∧ flatV x = true ∧ xs.all flatV = true ∧ Q (.bl (if neg then !inV x xs else inV x xs)) H
theorem op_in_seq : OpR X (compareOp .In) (rIn X.K false) := by
  intro pins s σ H x y v u Q I rx ry h
  obtain ⟨p, xs, rfl, hq, fx, fs, q⟩ := h
  cases ry
  rcases hq with hq | hq
  · obtain ⟨its, r, pl, hz⟩ := I.list hq
    refine SeqAt.in_listAt (eqU x) pl.isList (fun w hw => mem_eqAt rx fx r fs w (by simpa using hw)) ⟨.bl _, H, I, rfl, ?_⟩
    rw [show its.toArray.any (eqU x) = its.any (eqU x) by simp, any_eqU r fs]
    exact q
  · obtain ⟨its, r, pl, hz⟩ := I.tuple hq
    refine SeqAt.in_tupleAt (eqU x) pl (fun w hw => mem_eqAt rx fx r fs w (by simpa using hw)) ⟨.bl _, H, I, rfl, ?_⟩
    rw [show its.toArray.any (eqU x) = its.any (eqU x) by simp, any_eqU r fs]
    exact q
theorem op_notIn_seq : OpR X (compareOp .NotIn) (rIn X.K true) := by
  intro pins s σ H x y v u Q I rx ry h
  obtain ⟨p, xs, rfl, hq, fx, fs, q⟩ := h
  cases ry
  rcases hq with hq | hq
  · obtain ⟨its, r, pl, hz⟩ := I.list hq
    refine SeqAt.notIn_listAt (eqU x) pl.isList (fun w hw => mem_eqAt rx fx r fs w (by simpa using hw)) ⟨.bl _, H, I, rfl, ?_⟩
    rw [show its.toArray.any (eqU x) = its.any (eqU x) by simp, any_eqU r fs]
    exact q
  · obtain ⟨its, r, pl, hz⟩ := I.tuple hq
    refine SeqAt.notIn_tupleAt (eqU x) pl (fun w hw => mem_eqAt rx fx r fs w (by simpa using hw)) ⟨.bl _, H, I, rfl, ?_⟩
    rw [show its.toArray.any (eqU x) = its.any (eqU x) by simp, any_eqU r fs]
    exact q
theorem op_notIn_str : OpR X (compareOp .NotIn) (fun x y H Q => ∃ i j, x = .str i ∧ y = .str j ∧ Q (.bl (!(!(Builtin.Str.occurrences j i 0 j.length 1).isEmpty))) H) := by
  intro pins s σ H x y v u Q I rx ry h
  obtain ⟨i, j, rfl, rfl, q⟩ := h
  obtain ⟨t, rfl⟩ := rx
  obtain ⟨t', rfl⟩ := ry
  exact notIn_str ⟨.bl _, H, I, rfl, q⟩

/-! ### len, list(x), tuple(x) of any list or tuple that is read -/
theorem call_len_seq : CallR X (.builtin "len") (fun xs H Q => ∃ p ys, xs = [.ref p] ∧ (SqL X.K H p ys ∨ SqT X.K H p ys) ∧ Q (.int ys.length) H) := by
  intro pins s σ H xs us Q I r h
  obtain ⟨p, ys, rfl, hq, q⟩ := h
  obtain ⟨u, rfl, rx⟩ := vals1 r
  cases rx
  have hn := line63
  rcases hq with hq | hq
  · obtain ⟨its, r', pl, hz⟩ := I.list hq
    have hlen := r'.length
    exact Calls.call_len_list pl.isList (by simp only [List.size_toArray] <;> omega) ⟨.int ys.length, H, I.tok _, ⟨s.toks + 1, by rw [List.size_toArray, hlen]⟩, q⟩
  · obtain ⟨its, r', pl, hz⟩ := I.tuple hq
    have hlen := r'.length
    exact len_tuple pl (by simp only [List.size_toArray] <;> omega) ⟨.int ys.length, H, I.tok _, ⟨s.toks + 1, by rw [List.size_toArray, hlen]⟩, q⟩
theorem call_len_str : CallR X (.builtin "len") (fun xs H Q => ∃ z, xs = [.str z] ∧ z.length ≤ sizeLine ∧ Q (.int z.length) H) := by
  intro pins s σ H xs us Q I r h
  obtain ⟨z, rfl, hz, q⟩ := h
  obtain ⟨u, rfl, t, rfl⟩ := vals1 r
  have hn := line63
  exact len_str (by omega) ⟨.int z.length, H, I.tok _, ⟨_, rfl⟩, q⟩
theorem CallR.or {f : Value} {r r' : List V → Hp → VK → Prop} (h : CallR X f r) (h' : CallR X f r') : CallR X f (fun xs H Q => r xs H Q ∨ r' xs H Q) := by
  intro pins s σ H xs us Q I rs q
  rcases q with q | q
  · exact h pins s σ H xs us Q I rs q
  · exact h' pins s σ H xs us Q I rs q
theorem call_list_of : CallR X (.type "list") (fun xs H Q => ∃ p ys, xs = [.ref p] ∧ (SqL X.K H p ys ∨ SqT X.K H p ys) ∧ ∀ l, H l = none → Q (.ref l) (upd H l (.lst ys))) := by
  intro pins s σ H xs us Q I r h
  obtain ⟨p, ys, rfl, hq, q⟩ := h
  obtain ⟨u, rfl, rx⟩ := vals1 r
  cases rx
  have fin : ∀ (its : List Value), Vals ys its → ys.length ≤ sizeLine → ∀ (h' : Heap) (c' : Nat), (∀ b o', s.heap.get? b = some o' → h'.get? b = some o') →
      h'.get? s.heap.objs.size = some { cls := .type "list", dict := none, data := .seq its.toArray c', slots := #[] } → EP X pins σ Q (.ref s.heap.objs.size) { s with heap := h' } := fun its r' hz h' c' kp e =>
    ⟨.ref s.heap.objs.size, _, I.laid (t' := s.toks) kp (Nat.le_refl _) (show ObjOk X.prog X.w _ h' _ (.lst ys) from ⟨hz, its, c', r', e⟩), rfl, q _ (I.hok.fresh (Nat.le_refl _))⟩
  rcases hq with hq | hq
  · obtain ⟨its, r', pl, hz⟩ := I.list hq
    have hlen := r'.length
    obtain ⟨o, ho, hc, n, hd⟩ := pl.isList
    exact call_list_seq p (.inl rfl) ho hc hd (fun h' c' kp e => fin its r' hz h' c' kp e) (by simp only [List.size_toArray] <;> omega)
  · obtain ⟨its, r', pl, hz⟩ := I.tuple hq
    have hlen := r'.length
    obtain ⟨o, ho, hc, n, hd⟩ := pl
    exact call_list_seq p (.inr rfl) ho hc hd (fun h' c' kp e => fin its r' hz h' c' kp e) (by simp only [List.size_toArray] <;> omega)
theorem call_tuple_of : CallR X (.type "tuple") (fun xs H Q => ∃ p ys, xs = [.ref p] ∧ ((SqL X.K H p ys ∧ ∀ l, H l = none → Q (.ref l) (upd H l (.tup ys))) ∨ (SqT X.K H p ys ∧ Q (.ref p) H))) := by
  intro pins s σ H xs us Q I r h
  obtain ⟨p, ys, rfl, h⟩ := h
  obtain ⟨u, rfl, rx⟩ := vals1 r
  cases rx
  rcases h with ⟨hq, q⟩ | ⟨hq, q⟩
  · obtain ⟨its, r', pl, hz⟩ := I.list hq
    have hlen := r'.length
    refine call_tuple_list pl.isList (fun h' kp => ?_) (by simp only [List.size_toArray] <;> omega)
    have I1 : Inv X pins σ H { s with heap := h' } := I.kept (t' := s.toks) kp
    have I2 : Inv X pins σ (upd H h'.objs.size (.tup ys)) { s with heap := h'.push { cls := .type "tuple", data := .seq its.toArray } } :=
      I1.laid (t' := s.toks) (fun b o e => Heap.get?_push_of_some _ e) (Nat.le_refl _) (show ObjOk X.prog X.w _ _ _ (.tup ys) from ⟨hz, its, r', IsTup.new _ _⟩)
    exact ⟨.ref h'.objs.size, _, I2, rfl, q _ (I1.hok.fresh (Nat.le_refl _))⟩
  · obtain ⟨its, r', pl, hz⟩ := I.tuple hq
    exact call_tuple_same pl ⟨.ref p, H, I, rfl, q⟩

/-! ### the call of a builtin's method: o.m(..) -/
/-- the value is of that builtin type -/
def tyV (K : PySem.W.Frag) (T : String) (x : V) (H : Hp) : Prop := match x with
  | .str _ => T = "str"
  | .int _ => T = "int"
  | .ref p => (T = "list" ∧ ∃ xs, SqL K H p xs) ∨ (T = "tuple" ∧ ∃ o, K.lookup p = some o ∧ o.cls = .type "tuple" ∧ o.dict = none) ∨
      (T = "dict" ∧ ((∃ kvs, H p = some (.dK kvs)) ∨ ∃ kvs, H p = some (.dT kvs))) ∨ (T = "set" ∧ ∃ S n, H p = some (.set S n))
  | _ => False
theorem tyV_is {pins : List (Addr × Obj)} {σ : St} {H : Hp} {s : Shared} {T : String} {x : V} {v : Value} (I : Inv X pins σ H s) (r : RelV x v) (ty : tyV X.K T x H) :
    s.TypeIs v T ∧ ∀ a, v = .ref a → ∃ ob, s.heap.get? a = some ob ∧ ob.dict = none := by
  cases x with
  | str z =>
    obtain ⟨t, rfl⟩ := r
    cases (show T = "str" from ty)
    exact ⟨typeIs_str s z t, fun _ e => nomatch e⟩
  | int i =>
    obtain ⟨t, rfl⟩ := r
    cases (show T = "int" from ty)
    exact ⟨typeIs_int s i t, fun _ e => nomatch e⟩
  | ref p =>
    cases r
    rcases ty with ⟨rfl, xs, hq⟩ | ⟨rfl, o, hk, hc, hd⟩ | ⟨rfl, hk⟩ | ⟨rfl, S, n, hk⟩
    · obtain ⟨its, _, pl, _⟩ := I.list hq
      refine ⟨pl.isList.typeIs, fun a e => ?_⟩
      cases e
      obtain ⟨o, n, e, c, hd, _⟩ := pl
      exact ⟨o, e, hd⟩
    · refine ⟨⟨o, I.kIn p o hk, hc⟩, fun a e => ?_⟩
      cases e
      exact ⟨o, I.kIn _ o hk, hd⟩
    · have z : ∃ o, s.heap.get? p = some o ∧ o.ExactDict := by
        rcases hk with ⟨kvs, hk⟩ | ⟨kvs, hk⟩
        · obtain ⟨_, _, _, _, o, _, _, e, ex, _⟩ := I.hok p _ hk
          exact ⟨o, e, ex⟩
        · obtain ⟨_, _, _, _, o, _, _, e, ex, _⟩ := I.hok p _ hk
          exact ⟨o, e, ex⟩
      obtain ⟨o, e, ex⟩ := z
      refine ⟨⟨o, e, ex.1⟩, fun a e2 => ?_⟩
      cases e2
      exact ⟨o, e, ex.2.1⟩
    · obtain ⟨o, _, _, _, e, ex, _⟩ := I.hok p _ hk
      refine ⟨⟨o, e, ex.1⟩, fun a e2 => ?_⟩
      cases e2
      exact ⟨o, e, ex.2.1⟩
  | _ => exact False.elim ty
def tBM0 (K : PySem.W.Frag) (T : String) (r : V → List V → Hp → VK → Prop) (to : TE) : TE := fun σ H Q => to σ H fun x H1 => tyV K T x H1 ∧ r x [] H1 Q
def tBM (K : PySem.W.Frag) (T : String) (r : V → List V → Hp → VK → Prop) (to : TE) (t : TA) : TE := fun σ H Q => to σ H fun x H1 => tyV K T x H1 ∧ t σ H1 fun xs H2 => r x xs H2 Q
variable {o e : Expr} {es : List Expr} {to : TE} {t : TA} {name : Str} {apos cpos : Pos} {T id : String} {r : V → List V → Hp → VK → Prop}
theorem pe_bm0 (pa : PlainAttrs T) (slot : Slot T name id) (hty : typeOf (.builtin id) = pure (.type "method_descriptor")) (hm : MtR X id r) (ho : PE X o to)
    (hbase : attributeBase o name X.env (eval o X.env) = eval o X.env := by rfl) (hline : (apos.endLine == cpos.line) = true := by rfl) : PE X (.Call (.Attribute o name apos) [] [] cpos) (tBM0 X.K T r to) := by
  intro pins s σ H Q I h
  refine wpAny_Call_method0_late hbase hline (thn (ho pins s σ H _ I h) fun v s1 ⟨x, H1, I1, r1, ty, q1⟩ => ?_)
  obtain ⟨h1, h2⟩ := tyV_is I1 r1 ty
  exact ⟨T, id, pa, slot, hty, h1, h2, Calls.callWith_builtin rfl (PySem.evalArgs_none (hm pins s1 σ H1 x [] v [] Q I1 r1 .nil q1))⟩
theorem pe_bm (pa : PlainAttrs T) (slot : Slot T name id) (hty : typeOf (.builtin id) = pure (.type "method_descriptor")) (hm : MtR X id r) (ho : PE X o to) (ha : PA X (e :: es) t)
    (hbase : attributeBase o name X.env (eval o X.env) = eval o X.env := by rfl)
    (hfew : ((backTo cpos (starEach (e :: es) X.env)).all (fun x => !x.1) && (backToKw cpos (keywordEach [] X.env)).all (fun x => x.1.isSome)
      && decide ((e :: es).length + ([] : List Keyword).length + (if ([] : List Keyword).isEmpty then 0 else 1) < 30)) = true := by rfl)
    (hline : (apos.endLine == cpos.line) = true := by rfl) (hs : starEach (e :: es) X.env = (false, eval e X.env) :: starEach es X.env := by rfl) (hplain : (backTo cpos (starEach es X.env)).any (·.1) = false := by rfl) :
    PE X (.Call (.Attribute o name apos) (e :: es) [] cpos) (tBM X.K T r to t) := by
  intro pins s σ H Q I h
  refine wpAny_Call_method_late hbase hfew hline rfl (thn (ho pins s σ H _ I h) fun v s1 ⟨x, H1, I1, r1, ty, q1⟩ => ?_)
  obtain ⟨h1, h2⟩ := tyV_is I1 r1 ty
  refine ⟨T, id, pa, slot, hty, h1, h2, ?_⟩
  have hA := ha cpos pins s1 σ H1 _ I1 q1
  rw [hs] at hA ⊢
  refine Calls.callWith_builtin (by show (false || (backTo cpos (starEach es X.env)).any (·.1)) = false; rw [hplain] <;> rfl) (Calls.evalArgs_plain ?_)
  exact thn hA fun us s2 ⟨vs, H2, I2, r2, q2⟩ => hm pins s2 σ H2 x vs v us Q I2 r1 r2 q2
/- xs.append(e), list.index on a module's tuple .. are MtR facts of 06m -/
end
end L2
namespace L2
open PySem PySem.Spec PyProof.Rows

def MtM (X : Cx) (id : String) (r : V → List V → Hp → VK → Prop) : Prop :=
  ∀ (pins : List (Addr × Obj)) (s : Shared) (σ : St) (H : Hp) (x : V) (xs : List V) (v : Value) (us : List Value) (Q : VK), Inv X pins σ H s → RelV x v → Vals xs us → r x xs H Q →
    wpAny (model X.prog X.w) X.A (call (.builtin id) (v :: us)) (EP X pins σ Q) X.xe s

/-! ### lists of values -/
theorem Vals.one : ∀ {x : V} {us : List Value}, Vals [x] us → ∃ u, us = [u] ∧ RelV x u
  | _, _, .cons r .nil => ⟨_, rfl, r⟩
theorem Vals.two : ∀ {x y : V} {us : List Value}, Vals [x, y] us → ∃ u v, us = [u, v] ∧ RelV x u ∧ RelV y v
  | _, _, _, .cons r (.cons q .nil) => ⟨_, _, rfl, r, q⟩
theorem Vals.zero : ∀ {us : List Value}, Vals [] us → us = []
  | _, .nil => rfl
theorem Vals.dropLast {xs : List V} {us : List Value} (h : Vals xs us) : Vals xs.dropLast us.dropLast := by
  induction h with
  | nil => exact .nil
  | cons r t ih =>
    cases t with
    | nil => exact .nil
    | cons q t' => exact .cons r ih
theorem Vals.eraseIdx : ∀ {xs : List V} {us : List Value} (i : Nat), Vals xs us → Vals (xs.eraseIdx i) (us.eraseIdx i)
  | _, _, _, .nil => .nil
  | _, _, 0, .cons _ t => t
  | _, _, i + 1, .cons r t => .cons r (Vals.eraseIdx i t)
theorem Vals.reverse {xs : List V} {us : List Value} (h : Vals xs us) : Vals xs.reverse us.reverse := by
  induction h with
  | nil => exact .nil
  | cons r t ih => rw [List.reverse_cons, List.reverse_cons]; exact Vals.append ih (.cons r .nil)
theorem Vals.rep {xs : List V} {us : List Value} (h : Vals xs us) : ∀ k : Nat, Vals (List.replicate k xs).flatten (List.replicate k us).flatten
  | 0 => .nil
  | k + 1 => by
    rw [List.replicate_succ, List.replicate_succ, List.flatten_cons, List.flatten_cons]
    exact Vals.append h (Vals.rep h k)
theorem erase_last {α : Type} (l : List α) : l.eraseIdx (l.length - 1) = l.dropLast := by
  induction l with
  | nil => rfl
  | cons a r ih =>
    cases r with
    | nil => rfl
    | cons b r =>
      have e : (a :: b :: r).length - 1 = ((b :: r).length - 1) + 1 := by
        have h1 : (a :: b :: r).length = r.length + 2 := rfl
        have h2 : (b :: r).length = r.length + 1 := rfl
        omega
      rw [e, List.eraseIdx_cons_succ, ih]
      all_goals rfl
theorem len_erase {α : Type} : ∀ (l : List α) (i : Nat), (l.eraseIdx i).length ≤ l.length
  | [], _ => Nat.le_refl _
  | _ :: _, 0 => Nat.le_succ _
  | _ :: r, i + 1 => Nat.succ_le_succ (len_erase r i)
theorem foldl_rep (its : List Value) : ∀ (k : Nat) (acc : List Value),
    List.foldl (fun x1 x2 => x1 ++ x2) acc.toArray (List.replicate k its.toArray) = (acc ++ (List.replicate k its).flatten).toArray
  | 0, acc => by simp
  | k + 1, acc => by
    have e : acc.toArray ++ its.toArray = (acc ++ its).toArray := by simp
    have e2 : (acc ++ its) ++ (List.replicate k its).flatten = acc ++ (List.replicate (k + 1) its).flatten := by
      rw [List.replicate_succ, List.flatten_cons, List.append_assoc]
    rw [← e2, ← foldl_rep its k (acc ++ its), ← e, List.replicate_succ, List.foldl_cons]

section
variable {X : Cx} {pins : List (Addr × Obj)} {σ : St} {H : Hp} {s : Shared} {l b : Addr} {xs ys zs : List V}

/-! ### the two steps: a tracked list is rewritten, a new list is laid -/
theorem Inv.lset {its its' : List Value} {n : Nat} {f : Array Value → Array Value} {t' : Nat} (I : Inv X pins σ H s) (hH : H l = some (.lst xs))
    (e : s.heap.get? l = some { cls := .type "list", data := .seq its.toArray n }) (hf : f its.toArray = its'.toArray) (hv : Vals ys its') (hz : ys.length ≤ sizeLine) :
    Inv X pins σ (upd H l (.lst ys)) { s with heap := s.heap.update l (Obj.mapSeq f), toks := t' } := by
  have q := PySem.IsL.update e f
  rw [hf] at q
  refine I.write (x := l) (e := l) (by rw [hH]; exact trivial) (.inl rfl) (fun b' u hb hu => (Heap.get?_update_other s.heap (Obj.mapSeq f) (Ne.symm hb)).trans hu) ⟨_, q⟩ ?_
  exact ⟨hz, its', _, hv, q⟩
theorem Inv.lnew {its : List Value} {t' : Nat} (I : Inv X pins σ H s) (hv : Vals ys its) (hz : ys.length ≤ sizeLine) :
    Inv X pins σ (upd H s.heap.objs.size (.lst ys)) { s with heap := s.heap.push { cls := .type "list", data := .seq its.toArray }, toks := t' } :=
  I.laid (fun _ _ q => Heap.get?_push_of_some _ q) (Nat.le_refl _) ⟨hz, its, 0, hv, Heap.get?_push_size _ rfl⟩
theorem Inv.fresh (I : Inv X pins σ H s) : H s.heap.objs.size = none := I.hok.fresh (Nat.le_refl _)
theorem Inv.lstM (I : Inv X pins σ H s) (hH : H l = some (.lst xs)) : xs.length ≤ sizeLine ∧ ∃ (its : List Value) (n : Nat), Vals xs its ∧ xs.length = its.length ∧ s.heap.get? l = some { cls := .type "list", data := .seq its.toArray n } := by
  obtain ⟨z, its, n, r, e⟩ := I.hok l _ hH
  exact ⟨z, its, n, r, r.length, e⟩

theorem notLongL {n : Nat} (h : n ≤ sizeLine) : Builtin.List.listTooLong n = false := by
  unfold Builtin.List.listTooLong
  exact decide_eq_false (by omega)
end

section
variable {X : Cx}

/-! ### methods -/
def rAppend : V → List V → Hp → VK → Prop := fun x vs H Q => ∃ l xs y, x = .ref l ∧ vs = [y] ∧ H l = some (.lst xs) ∧ xs.length < sizeLine ∧ Q .non (upd H l (.lst (xs ++ [y])))
theorem mt_append : MtM X "list.append" rAppend := by
  intro pins s σ H x vs v us Q I rx rv h
  obtain ⟨l, xs, y, rfl, rfl, hH, hz, q⟩ := h
  cases rx
  obtain ⟨u, rfl, ru⟩ := rv.one
  obtain ⟨z, its, n, r, hl, e⟩ := I.lstM hH
  refine call_meets F.slot_list_append ⟨_, e, rfl⟩ F.entry_list_append (F.args_list_append_2 _ _) (PySem.list_append l its.toArray n u (by rw [List.size_toArray]; omega)) ⟨e, ?_⟩
  refine ⟨.non, _, I.lset (its' := its ++ [u]) hH e (by simp) (r.append (.cons ru .nil)) ?_, rfl, q⟩
  rw [List.length_append, List.length_singleton]
  omega

def rExtend : V → List V → Hp → VK → Prop := fun x vs H Q => ∃ l b xs zs, x = .ref l ∧ vs = [.ref b] ∧ H l = some (.lst xs) ∧ H b = some (.lst zs) ∧ xs.length + zs.length ≤ sizeLine ∧ Q .non (upd H l (.lst (xs ++ zs)))
theorem mt_extend : MtM X "list.extend" rExtend := by
  intro pins s σ H x vs v us Q I rx rv h
  obtain ⟨l, b, xs, zs, rfl, rfl, hH, hB, hz, q⟩ := h
  cases rx
  obtain ⟨u, rfl, ru⟩ := rv.one
  cases ru
  obtain ⟨z, its, n, r, hl, e⟩ := I.lstM hH
  obtain ⟨z2, its2, n2, r2, hl2, e2⟩ := I.lstM hB
  have hsz : its.toArray.size + its2.toArray.size ≤ sizeLine := by rw [List.size_toArray, List.size_toArray]; omega
  have hlong : ¬ (!its.toArray.isEmpty && Builtin.List.listTooLong (its.toArray.size + its2.toArray.size)) = true := by
    rw [notLongL hsz, Bool.and_false]
    exact Bool.false_ne_true
  refine call_meets F.slot_list_extend ⟨_, e, rfl⟩ F.entry_list_extend (F.args_list_extend_2 _ _)
    (AutoSeq1.list_extend_list_list_0 l its.toArray n b its2.toArray n2 hlong (by rw [List.size_toArray]; omega) (by omega)) ⟨e, e2, ?_⟩
  refine ⟨.non, _, I.lset (its' := its ++ its2) hH e (by simp) (r.append r2) ?_, rfl, q⟩
  rw [List.length_append]
  omega

def rPop : V → List V → Hp → VK → Prop := fun x vs H Q => ∃ l xs y, x = .ref l ∧ vs = [] ∧ H l = some (.lst xs) ∧ xs[xs.length - 1]? = some y ∧ Q y (upd H l (.lst xs.dropLast))
theorem mt_pop : MtM X "list.pop" rPop := by
  intro pins s σ H x vs v us Q I rx rv h
  obtain ⟨l, xs, y, rfl, rfl, hH, hy, q⟩ := h
  cases rx
  have hus := rv.zero
  subst hus
  obtain ⟨z, its, n, r, hl, e⟩ := I.lstM hH
  obtain ⟨u, hu, ru⟩ := r.get hy
  have hy' : its.toArray[its.toArray.size - 1]? = some u := by
    show its.toArray[its.length - 1]? = some u
    rw [← Array.getElem?_toList, ← hl]
    exact hu
  refine call_meets F.slot_list_pop ⟨_, e, rfl⟩ F.entry_list_pop (F.args_list_pop_1 _) (MeetsSeq.list_pop_last l its.toArray n u hy' (by rw [List.size_toArray]; omega)) ⟨e, ?_⟩
  refine ⟨y, _, I.lset (its' := its.dropLast) hH e ?_ r.dropLast ?_, ru, q⟩
  · show its.toArray.eraseIdxIfInBounds (its.toArray.size - 1) = its.dropLast.toArray
    rw [List.size_toArray, List.eraseIdxIfInBounds_toArray, erase_last]
  · rw [List.length_dropLast]
    omega

def rPopAt : V → List V → Hp → VK → Prop := fun x vs H Q => ∃ l xs i k y, x = .ref l ∧ vs = [.int i] ∧ H l = some (.lst xs) ∧ -(2 ^ 63) ≤ i ∧ i < 2 ^ 63 ∧ seqIndex? i xs.length = some k ∧ xs[k]? = some y ∧ Q y (upd H l (.lst (xs.eraseIdx k)))
theorem mt_popAt : MtM X "list.pop" rPopAt := by
  intro pins s σ H x vs v us Q I rx rv h
  obtain ⟨l, xs, i, k, y, rfl, rfl, hH, h1, h2, hk, hy, q⟩ := h
  cases rx
  obtain ⟨u, rfl, ru⟩ := rv.one
  obtain ⟨t, rfl⟩ := ru
  obtain ⟨z, its, n, r, hl, e⟩ := I.lstM hH
  obtain ⟨w, hw, rw'⟩ := r.get hy
  refine call_meets F.slot_list_pop ⟨_, e, rfl⟩ F.entry_list_pop (F.args_list_pop_2 _ _)
    (MeetsSeq.list_pop_at l its.toArray n i t k w (fitsIndex_both h1 h2) (by rw [List.size_toArray, ← hl]; exact hk) (by rw [← Array.getElem?_toList]; exact hw) (by rw [List.size_toArray]; omega)) ⟨e, ?_⟩
  refine ⟨y, _, I.lset (its' := its.eraseIdx k) hH e ?_ (r.eraseIdx k) ?_, rw', q⟩
  · show its.toArray.eraseIdxIfInBounds k = (its.eraseIdx k).toArray
    rw [List.eraseIdxIfInBounds_toArray]
  · have := len_erase xs k
    omega

def rReverse : V → List V → Hp → VK → Prop := fun x vs H Q => ∃ l xs, x = .ref l ∧ vs = [] ∧ H l = some (.lst xs) ∧ Q .non (upd H l (.lst xs.reverse))
theorem mt_reverse : MtM X "list.reverse" rReverse := by
  intro pins s σ H x vs v us Q I rx rv h
  obtain ⟨l, xs, rfl, rfl, hH, q⟩ := h
  cases rx
  have hus := rv.zero
  subst hus
  obtain ⟨z, its, n, r, hl, e⟩ := I.lstM hH
  refine call_meets F.slot_list_reverse ⟨_, e, rfl⟩ F.entry_list_reverse (F.args_list_reverse_1 _) (AutoSeq1.list_reverse_list_0 l its.toArray n (by rw [List.size_toArray]; omega)) ⟨e, ?_⟩
  refine ⟨.non, _, I.lset (its' := its.reverse) hH e (by simp) r.reverse ?_, rfl, q⟩
  rw [List.length_reverse]
  omega

def rClear : V → List V → Hp → VK → Prop := fun x vs H Q => ∃ l xs, x = .ref l ∧ vs = [] ∧ H l = some (.lst xs) ∧ Q .non (upd H l (.lst []))
theorem mt_clear : MtM X "list.clear" rClear := by
  intro pins s σ H x vs v us Q I rx rv h
  obtain ⟨l, xs, rfl, rfl, hH, q⟩ := h
  cases rx
  have hus := rv.zero
  subst hus
  obtain ⟨z, its, n, r, hl, e⟩ := I.lstM hH
  refine call_meets F.slot_list_clear ⟨_, e, rfl⟩ F.entry_list_clear (F.args_list_clear_1 _) (AutoSeq1.list_clear_list_0 l its.toArray n (by rw [List.size_toArray]; omega)) ⟨e, ?_⟩
  exact ⟨.non, _, I.lset (its' := []) (ys := []) hH e rfl .nil (Nat.zero_le _), rfl, q⟩

/-! ### list + list, list += list, list * int -/
def rCat : R2 := fun x y H Q => ∃ l b xs zs, x = .ref l ∧ y = .ref b ∧ H l = some (.lst xs) ∧ H b = some (.lst zs) ∧ xs.length + zs.length ≤ sizeLine ∧ ∀ p, H p = none → Q (.ref p) (upd H p (.lst (xs ++ zs)))
theorem op_cat : OpR X (binaryOp .Add) rCat := by
  intro pins s σ H x y v u Q I rx ry h
  obtain ⟨l, b, xs, zs, rfl, rfl, hH, hB, hz, q⟩ := h
  cases rx
  cases ry
  obtain ⟨z, its, n, r, hl, e⟩ := I.lstM hH
  obtain ⟨z2, its2, n2, r2, hl2, e2⟩ := I.lstM hB
  refine PySem.P.add_list e e2 ?_ (by rw [List.size_toArray, List.size_toArray]; omega)
  have ea : its.toArray ++ its2.toArray = (its ++ its2).toArray := by simp
  rw [ea]
  exact ⟨.ref _, _, I.lnew (t' := s.toks) (r.append r2) (by rw [List.length_append]; omega), rfl, q _ I.fresh⟩
/-- a list times an int (a negative one is nothing) -/
def rRep : R2 := fun x y H Q => ∃ l k xs, x = .ref l ∧ y = .int k ∧ H l = some (.lst xs) ∧ -(2 ^ 63) ≤ k ∧ k < 2 ^ 63 ∧ xs.length * k.toNat ≤ sizeLine ∧
  ∀ p, H p = none → Q (.ref p) (upd H p (.lst (List.replicate k.toNat xs).flatten))
theorem len_rep {α : Type} (xs : List α) (k : Nat) : (List.replicate k xs).flatten.length = k * xs.length := by
  induction k with
  | zero => simp
  | succ k ih => rw [List.replicate_succ, List.flatten_cons, List.length_append, ih, Nat.succ_mul, Nat.add_comm]
theorem op_rep : OpR X (binaryOp .Mult) rRep := by
  intro pins s σ H x y v u Q I rx ry h
  obtain ⟨l, k, xs, rfl, rfl, hH, h1, h2, hz, q⟩ := h
  cases rx
  obtain ⟨t, rfl⟩ := ry
  obtain ⟨z, its, n, r, hl, e⟩ := I.lstM hH
  have hlen : its.toArray.size * k.toNat ≤ sizeLine := by rw [List.size_toArray, ← hl]; exact hz
  have hcap : ¬ its.toArray.size * k.toNat > (2 ^ 63 - 1) / 8 := by
    have : (sizeLine : Nat) ≤ (2 ^ 63 - 1) / 8 := by decide
    omega
  have hfit : ¬ (!Builtin.List.listFitsIndex k) = true := by
    rw [fitsIndex_both h1 h2]
    exact Bool.false_ne_true
  have hlong : ¬ Builtin.List.listTooLong (its.toArray.size * k.toNat) = true := by
    rw [notLongL hlen]
    exact Bool.false_ne_true
  have hnew : List.foldl (fun x1 x2 => x1 ++ x2) #[] (List.replicate (if its.toArray.isEmpty = true then 0 else k.toNat) its.toArray) = (List.replicate k.toNat its).flatten.toArray := by
    have f0 : ∀ m : Nat, List.foldl (fun x1 x2 => x1 ++ x2) #[] (List.replicate m its.toArray) = (List.replicate m its).flatten.toArray := fun m => by
      have := foldl_rep its m []
      rw [List.nil_append] at this
      exact this
    rw [f0]
    cases its with
    | nil => simp
    | cons a r' => rw [if_neg (by simp)]
  refine wpAny_binaryOp_repeat_ref (T := "list") (U := "int") (by decide) ⟨_, e, rfl⟩ (fun s' => typeIs_int s' k t) noFill_list_mul F.fills_int_mul F.slot_int_rmul repeat_list F.slot_int_index.lookup
    (call_meets F.slot_int_rmul (typeIs_int s k t) F.entry_int_rmul (F.args_int_rmul_2 _ _) (int___rmul___int_list k t l its.toArray n)
      ⟨e, rfl, ⟨_, e, rfl⟩, call_meets F.slot_list_mul ⟨_, e, rfl⟩ F.entry_list_mul (F.args_list_mul_2 _ _) (AutoListH.list___mul___list_int_3 l its.toArray n k t hfit hcap hlong) ⟨e, ?_⟩⟩)
  rw [hnew]
  exact ⟨.ref _, _, I.lnew (t' := s.toks) (r.rep k.toNat) (by rw [len_rep, Nat.mul_comm]; exact hz), rfl, q _ I.fresh⟩

/-! ### del xs[i] -/
theorem del_list {pins : List (Addr × Obj)} {s : Shared} {σ : St} {H : Hp} {l : Addr} {xs : List V} {i : Int} {t : Tok} {k : Nat} {Q : Unit → Shared → Prop} (I : Inv X pins σ H s) (hH : H l = some (.lst xs))
    (h1 : -(2 ^ 63) ≤ i) (h2 : i < 2 ^ 63) (hk : seqIndex? i xs.length = some k) (h : ∀ s', Inv X pins σ (upd H l (.lst (xs.eraseIdx k))) s' → Q () s') :
    wpAny (model X.prog X.w) X.A (delItem (.ref l) (.int i t)) Q X.xe s := by
  obtain ⟨z, its, n, r, hl, e⟩ := I.lstM hH
  refine PySem.P.delItem_list (k := k) e (fitsIndex_both h1 h2) (by rw [List.size_toArray, ← hl]; exact hk) (h _ ?_) (by rw [List.size_toArray]; omega)
  refine I.lset (its' := its.eraseIdx k) (t' := s.toks) hH e ?_ (r.eraseIdx k) ?_
  · show its.toArray.eraseIdxIfInBounds k = (its.eraseIdx k).toArray
    rw [List.eraseIdxIfInBounds_toArray]
  · have := len_erase xs k
    omega
end

/-! ### xs[a:b] = ys -/
section
variable {prog : Program} {w : World} {A : Around} {E : Value → Shared → Prop} {s : Shared}
theorem splice_eq (its its2 : List Value) (a c : Nat) : its.toArray.extract 0 a ++ its2.toArray ++ its.toArray.extract c its.toArray.size = (its.take a ++ its2 ++ its.drop c).toArray := by
  apply Array.toList_inj.mp
  first
    | (simp
       exact List.take_of_length_le (by simp))
    | simp [List.take_of_length_le]
    | simp
theorem bounds_run {a c n : Nat} (hac : a ≤ c) (hc : c ≤ n) : sliceBounds (some (a : Int)) (some (c : Int)) none n = ((a : Int), (c : Int), 1) := by
  simp only [sliceBounds, Option.getD_none]
  have h1 : ¬ ((a : Int) < 0) := by omega
  have h2 : ¬ ((c : Int) < 0) := by omega
  simp only [h1, h2, if_false, show (1 : Int) > 0 by decide, if_true]
  congr 1
  · omega
  · congr 1; omega
set_option maxRecDepth 100000 in
/-- list.__setitem__ with a slice of step one and another list -/
theorem setItem_slice {l b sl : Addr} {items new : Array Value} {n n2 : Nat} {vl vu : Value} {a c : Nat} {Q : Unit → Shared → Prop}
    (e : s.heap.get? l = some { cls := .type "list", data := .seq items n }) (e2 : s.heap.get? b = some { cls := .type "list", data := .seq new n2 }) (hne : l ≠ b)
    (hs : s.heap.IsSliceOf sl vl vu .none) (pl : IsPart vl (some (a : Int))) (pu : IsPart vu (some (c : Int))) (hac : a ≤ c) (hc : c ≤ items.size)
    (hsz : items.size + new.size ≤ sizeLine) (h : Q () { s with heap := s.heap.update l (Obj.mapSeq fun xs => xs.extract 0 a ++ new ++ xs.extract c xs.size) }) :
    wpAny (model prog w) A (setItem (.ref l) (.ref sl) (.ref b)) Q E s := by
  have hl : s.heap.IsList l items := PySem.IsL.isList e
  have hb : s.heap.IsList b new := PySem.IsL.isList e2
  obtain ⟨os, hos, hcs, hds⟩ := id hs
  have hTs : s.TypeIs (.ref sl) "slice" := ⟨os, hos, hcs⟩
  have hstep : ¬ ((rawPart none == rawInt 0) = true) := Bool.false_ne_true
  have hsame : Builtin.List.listSameRef (.ref l) (.ref b) = false := by
    unfold Builtin.List.listSameRef
    exact beq_eq_false_iff_ne.mpr hne
  have hmax : (max (a : Int) (c : Int)).toNat = c := by omega
  have hz' : ((fun xs : Array Value => xs.extract 0 a ++ new ++ xs.extract c xs.size) items).size ≤ sizeLine + 1 := by
    simp only [Array.size_append, Array.size_extract]
    omega
  unfold setItem
  try with_reducible refine wpAny_holding ?_
  first | refine wpAny_bind (wpAny_pure ?_) | skip
  refine wpAny_bind (wpAny_sequenceKey hl.typeIs (by decide) ?_)
  refine wpAny_bind (wpAny_callSpecial?_slot (name := Str.ofString "__setitem__") hl.typeIs slot_list_setitem
    (wpAny_call_entry slot_list_setitem hl.typeIs entry_list_setitem ?_ (args_list_setitem _ _ _)))
  show wpAny _ _ (Builtin.List.listSubscript? (.ref sl) >>= _) _ _ s
  refine wpAny_bind ?_
  unfold Builtin.List.listSubscript?
  refine wpAny_bind (wpAny_specialOf hTs slice_no_index ?_)
  simp only [Option.isNone_none, if_true]
  refine wpAny_pure ?_
  show wpAny _ _ (typeOf (.ref sl) >>= _) _ _ s
  refine wpAny_bind (wpAny_typeOf hTs ?_)
  first
    | rw [if_neg (by decide)]
    | refine PySem.W.KFB.if_not (by decide) ?_
  rw [listSliceParts_eq]
  refine wpAny_bind (wpAny_bind (wpAny_field hos hds (x := .none) rfl (wpAny_bind (wpAny_listPart .none ?_))))
  rw [if_neg hstep]
  refine wpAny_bind (wpAny_field hos hds (x := vl) rfl (wpAny_bind (wpAny_listPart pl ?_)))
  refine wpAny_bind (wpAny_field hos hds (x := vu) rfl (wpAny_bind (wpAny_listPart pu (wpAny_pure ?_))))
  first
    | simp only [hsame, Bool.false_eq_true, if_false]
    | refine PySem.W.KFB.if_not hsame ?_
    | (dsimp only
       rw [if_neg (by rw [hsame]; exact Bool.false_ne_true)])
  refine wpAny_bind (m := Builtin.List.listAllItems (.ref b) "must assign iterable to extended slice") ?_
  unfold Builtin.List.listAllItems
  refine wpAny_bind (wpAny_typeOf hb.typeIs ?_)
  first
    | refine PySem.W.KFB.if_so (by decide) ?_
    | rw [if_pos (by decide)]
    | simp only [beq_self_eq_true, Bool.true_or, if_true]
  unfold Builtin.List.listItems
  refine wpAny_bind (wpAny_seqItems e2 rfl (wpAny_pure ?_))
  refine wpAny_bind (wpAny_bind (wpAny_seqItems e rfl (wpAny_pure ?_)))
  refine wpAny_bind (wpAny_of_eq ((sliceIndices_raw (some (a : Int)) (some (c : Int)) none items.size (by simp)).trans (congrArg (pure : Int × Int × Int → Sem (Int × Int × Int)) (bounds_run hac hc))) ?_)
  show wpAny _ _ (if ((1 : Int) == 1) = true then _ else _) _ _ s
  rw [if_pos (by decide)]
  refine wpAny_bind (wpAny_rule ?_)
  first
    | simp only [notLongL hsz, Bool.false_eq_true, if_false]
    | refine PySem.W.KFB.if_not (notLongL hsz) ?_
  first | refine wpAny_bind (wpAny_pure ?_) | skip
  show wpAny _ _ (updateSeq l (fun xs => xs.extract 0 ((a : Int)).toNat ++ new ++ xs.extract (max (a : Int) (c : Int)).toNat xs.size) >>= _) _ _ s
  rw [hmax, Int.toNat_natCast]
  refine wpAny_bind (wpAny_updateSeq (hz := Nat.le_trans (Nat.le_add_right _ _) hsz) (_hz' := hz') e rfl ?_)
  refine wpAny_bind (wpAny_letGo ?_)
  first
    | exact wpAny_bind (wpAny_pure (wpAny_pure ⟨.none, rfl, wpAny_pure h⟩))
    | exact wpAny_pure ⟨.none, rfl, wpAny_pure h⟩
end

section
variable {X : Cx}
/-- xs[a:c] = ys of another list, at the value level: sl is the slice object that was just made -/
theorem set_slice {pins : List (Addr × Obj)} {s : Shared} {σ : St} {H : Hp} {l b sl : Addr} {xs ys : List V} {a c : Int} {vl vu : Value} {Q : Unit → Shared → Prop} (I : Inv X pins σ H s)
    (hH : H l = some (.lst xs)) (hB : H b = some (.lst ys)) (hne : l ≠ b) (hs : s.heap.IsSliceOf sl vl vu .none) (ra : RelV (.int a) vl) (rc : RelV (.int c) vu) (h0 : 0 ≤ a) (hac : a ≤ c) (hc : c ≤ xs.length)
    (hz : xs.length + ys.length ≤ sizeLine) (h : ∀ s', Inv X pins σ (upd H l (.lst (xs.take a.toNat ++ ys ++ xs.drop c.toNat))) s' → Q () s') :
    wpAny (model X.prog X.w) X.A (setItem (.ref l) (.ref sl) (.ref b)) Q X.xe s := by
  obtain ⟨ta, rfl⟩ := ra
  obtain ⟨tc, rfl⟩ := rc
  obtain ⟨z, its, n, r, hl, e⟩ := I.lstM hH
  obtain ⟨z2, its2, n2, r2, hl2, e2⟩ := I.lstM hB
  obtain ⟨a', rfl⟩ := Int.eq_ofNat_of_zero_le h0
  obtain ⟨c', rfl⟩ := Int.eq_ofNat_of_zero_le (Int.le_trans h0 hac)
  simp only [Int.toNat_natCast] at h
  refine setItem_slice (a := a') (c := c') e e2 hne hs (.int _ _) (.int _ _) (by omega) (by rw [List.size_toArray]; omega) (by rw [List.size_toArray, List.size_toArray]; omega) (h _ ?_)
  refine I.lset (its' := its.take a' ++ its2 ++ its.drop c') (t' := s.toks) hH e ?_ (Vals.append (Vals.append (r.take _) r2) (r.drop _)) ?_
  · exact splice_eq its its2 a' c'
  · rw [List.length_append, List.length_append, List.length_take, List.length_drop]
    omega
end
end L2
namespace L2
open PySem PySem.Spec PyProof.Rows

/-! ### lists of pairs as tables -/
section
variable {κ : Type} [DecidableEq κ]
def valV (kvs : List (κ × V)) (k : κ) : Option V := (kvs.find? fun kv => decide (kv.1 = k)).map (·.2)
/-- in its place, or at the end -/
def putK (kvs : List (κ × V)) (k : κ) (v : V) : List (κ × V) :=
  if (kvs.any fun kv => decide (kv.1 = k)) = true then kvs.map (fun kv => if kv.1 = k then (kv.1, v) else kv) else kvs ++ [(k, v)]
def dropK (kvs : List (κ × V)) (k : κ) : List (κ × V) := kvs.filter fun kv => decide (kv.1 ≠ k)

theorem valV_nil {k : κ} : valV ([] : List (κ × V)) k = none := rfl
theorem valV_pos {p : κ × V} {r : List (κ × V)} {k : κ} (e : p.1 = k) : valV (p :: r) k = some p.2 := by simp [valV, List.find?_cons, e]
theorem valV_neg {p : κ × V} {r : List (κ × V)} {k : κ} (e : ¬ p.1 = k) : valV (p :: r) k = valV r k := by simp [valV, List.find?_cons, e]
theorem valV_any (k : κ) : ∀ kvs : List (κ × V), (kvs.any fun kv => decide (kv.1 = k)) = (valV kvs k).isSome
  | [] => rfl
  | p :: r => by
    rw [List.any_cons]
    by_cases e : p.1 = k
    · simp only [valV_pos e, decide_eq_true e, Bool.true_or, Option.isSome_some]
    · rw [valV_neg e, decide_eq_false e, Bool.false_or]; exact valV_any k r
theorem valV_map (k j : κ) (y : V) : ∀ kvs : List (κ × V), valV (kvs.map fun kv => if kv.1 = k then (kv.1, y) else kv) j = (valV kvs j).map fun x => if j = k then y else x
  | [] => rfl
  | p :: r => by
    have ih := valV_map k j y r
    rw [List.map_cons]
    by_cases h : p.1 = k
    · rw [if_pos h]
      by_cases e : p.1 = j
      · rw [valV_pos (p := (p.1, y)) e, valV_pos e, Option.map_some, if_pos (e.symm.trans h)]
      · rw [valV_neg (p := (p.1, y)) e, valV_neg e, ih]
    · rw [if_neg h]
      by_cases e : p.1 = j
      · rw [valV_pos (p := p) e, valV_pos e, Option.map_some, if_neg (fun z => h (e.trans z))]
      · rw [valV_neg (p := p) e, valV_neg e, ih]
theorem valV_snoc (k j : κ) (y : V) : ∀ kvs : List (κ × V), valV kvs k = none → valV (kvs ++ [(k, y)]) j = if j = k then some y else valV kvs j
  | [], _ => by
    by_cases e : k = j
    · rw [if_pos e.symm]; exact valV_pos (p := (k, y)) e
    · rw [if_neg (fun z => e z.symm)]; exact valV_neg (p := (k, y)) e
  | p :: r, hn => by
    rw [List.cons_append]
    have hk : ¬ p.1 = k := fun z => by rw [valV_pos z] at hn; cases hn
    rw [valV_neg hk] at hn
    have ih := valV_snoc k j y r hn
    by_cases e : p.1 = j
    · rw [valV_pos e, valV_pos e, if_neg (fun z => hk (e.trans z))]
    · rw [valV_neg e, valV_neg e, ih]
theorem valV_put (kvs : List (κ × V)) (k j : κ) (y : V) : valV (putK kvs k y) j = if j = k then some y else valV kvs j := by
  unfold putK
  by_cases a : (kvs.any fun kv => decide (kv.1 = k)) = true
  · rw [if_pos a, valV_map]
    rw [valV_any] at a
    by_cases e : j = k
    · obtain ⟨x, hx⟩ := Option.isSome_iff_exists.mp a
      rw [if_pos e, e, hx, Option.map_some, if_pos rfl]
    · rw [if_neg e]
      cases valV kvs j with
      | none => rfl
      | some x => rw [Option.map_some, if_neg e]
  · rw [if_neg a]
    refine valV_snoc k j y kvs ?_
    rw [valV_any] at a
    cases q : valV kvs k with
    | none => rfl
    | some x => rw [q] at a; exact (a rfl).elim
theorem length_putK (kvs : List (κ × V)) (k : κ) (v : V) : (putK kvs k v).length ≤ kvs.length + 1 := by
  unfold putK
  split
  · rw [List.length_map]; omega
  · rw [List.length_append, List.length_cons, List.length_nil]; omega
theorem putK_new {kvs : List (κ × V)} {k : κ} (v : V) (h : valV kvs k = none) : putK kvs k v = kvs ++ [(k, v)] := by
  unfold putK
  rw [valV_any, h]
  exact if_neg (by decide)

theorem RelO.isSome_eq {o : Option V} {u : Option Value} (r : RelO o u) : o.isSome = u.isSome := by
  cases o with
  | none => cases u with
    | none => rfl
    | some _ => exact (show False from r).elim
  | some _ => cases u with
    | none => exact (show False from r).elim
    | some _ => rfl
theorem RelO.getD {o : Option V} {u : Option Value} {d : V} {d' : Value} (r : RelO o u) (rd : RelV d d') : RelV (o.getD d) (u.getD d') := by
  cases o with
  | none => cases u with
    | none => exact rd
    | some _ => exact (show False from r).elim
  | some _ => cases u with
    | none => exact (show False from r).elim
    | some _ => exact r

/-- raw tables of the same keys -/
theorem KV.val {kvs : List (κ × V)} {vs : List (κ × Value)} (r : KV kvs vs) (k : κ) : RelO (valV kvs k) (valueAt vs k) := by
  unfold KV at r
  induction r with
  | nil => exact True.intro
  | @cons p q ps qs h t ih =>
    obtain ⟨h1, h2⟩ := h
    by_cases e : p.1 = k
    · have e' : q.1 = k := h1.symm.trans e
      have b : valueAt (q :: qs) k = some q.2 := by simp [valueAt, List.find?_cons, e']
      rw [valV_pos e, b]; exact h2
    · have e' : ¬ q.1 = k := fun z => e (h1.trans z)
      have b : valueAt (q :: qs) k = valueAt qs k := by simp [valueAt, List.find?_cons, e']
      rw [valV_neg e, b]; exact ih
theorem KV.any {kvs : List (κ × V)} {vs : List (κ × Value)} (r : KV kvs vs) (k : κ) : (kvs.any fun kv => decide (kv.1 = k)) = vs.any fun kv => decide (kv.1 = k) := by
  unfold KV at r
  induction r with
  | nil => rfl
  | cons h t ih => rw [List.any_cons, List.any_cons, ih, h.1]
theorem KV.repl {kvs : List (κ × V)} {vs : List (κ × Value)} (r : KV kvs vs) (k : κ) {y : V} {u : Value} (ry : RelV y u) :
    KV (kvs.map fun kv => if kv.1 = k then (kv.1, y) else kv) (vs.map fun kv => if kv.1 = k then (kv.1, u) else kv) := by
  unfold KV at r ⊢
  induction r with
  | nil => exact .nil
  | @cons p q ps qs h t ih =>
    rw [List.map_cons, List.map_cons]
    refine .cons ?_ ih
    obtain ⟨h1, h2⟩ := h
    by_cases e : p.1 = k
    · rw [if_pos e, if_pos (h1.symm.trans e)]; exact ⟨h1, ry⟩
    · rw [if_neg e, if_neg (fun z => e (h1.trans z))]; exact ⟨h1, h2⟩
theorem KV.put {kvs : List (κ × V)} {vs : List (κ × Value)} (r : KV kvs vs) (k : κ) {y : V} {u : Value} (ry : RelV y u) : KV (putK kvs k y) (stored vs k u) := by
  unfold putK stored
  rw [r.any k]
  by_cases e : (vs.any fun kv => decide (kv.1 = k)) = true
  · rw [if_pos e, if_pos e]; exact r.repl k ry
  · rw [if_neg e, if_neg e]; exact Paired.snoc r ⟨rfl, ry⟩
theorem KV.drop {kvs : List (κ × V)} {vs : List (κ × Value)} (r : KV kvs vs) (k : κ) : KV (dropK kvs k) (without vs k) := by
  unfold KV at r ⊢
  unfold dropK without
  induction r with
  | nil => exact .nil
  | @cons p q ps qs h t ih =>
    obtain ⟨h1, h2⟩ := h
    rw [List.filter_cons, List.filter_cons]
    by_cases e : p.1 = k
    · have a : ¬ decide (p.1 ≠ k) = true := by simp [e]
      have b : ¬ decide (q.1 ≠ k) = true := by simp [h1.symm.trans e]
      rw [if_neg a, if_neg b]; exact ih
    · have e' : ¬ q.1 = k := fun z => e (h1.trans z)
      have a : decide (p.1 ≠ k) = true := by simp [e]
      have b : decide (q.1 ≠ k) = true := by simp [e']
      rw [if_pos a, if_pos b]; exact .cons ⟨h1, h2⟩ ih
theorem KV.keys {kvs : List (κ × V)} {vs : List (κ × Value)} (r : KV kvs vs) : kvs.map (·.1) = vs.map (·.1) := by
  unfold KV at r
  induction r with
  | nil => rfl
  | cons h t ih => rw [List.map_cons, List.map_cons, ih, h.1]
theorem KV.length {kvs : List (κ × V)} {vs : List (κ × Value)} (r : KV kvs vs) : kvs.length = vs.length := Paired.length r
theorem dropK_le (kvs : List (κ × V)) (k : κ) : (dropK kvs k).length ≤ kvs.length := List.length_filter_le _ _
end


/-! ### a tracked dict, its keys ints and texts or tuples of these -/
theorem kV_is {P : Program} {w : World} {k : Key} {u : Value} (r : RelV (kV k) u) : (mixKind P w).is k u = true := by
  cases k with
  | inl i => obtain ⟨t, e⟩ := (show ∃ t, u = Value.int i t from r); subst e; exact mixKind_int P w i t
  | inr x => obtain ⟨t, e⟩ := (show ∃ t, u = Value.str x t from r); subst e; exact mixKind_str P w x t
theorem kV_inj {a b : Key} (e : kV a = kV b) : a = b := by
  cases a with
  | inl i => cases b with
    | inl j => have e' : V.int i = V.int j := e; injection e' with e'; rw [e']
    | inr y => exact nomatch (show V.int i = V.str y from e)
  | inr x => cases b with
    | inl j => exact nomatch (show V.str x = V.int j from e)
    | inr y => have e' : V.str x = V.str y := e; injection e' with e'; rw [e']
theorem kVs_inj : ∀ {a b : List Key}, a.map kV = b.map kV → a = b
  | [], [], _ => rfl
  | [], _ :: _, e => by simp at e
  | _ :: _, [], e => by simp at e
  | x :: xs, y :: ys, e => by
    rw [List.map_cons, List.map_cons] at e
    injection e with e1 e2
    rw [kV_inj e1, kVs_inj e2]
theorem items_are {P : Program} {w : World} : ∀ {ks : List Key} {us : List Value}, Vals (ks.map kV) us → ItemsAre (mixKind P w) ks us
  | [], _, r => by rw [List.map_nil] at r; cases r; exact .nil
  | k :: ks, _, r => by
    rw [List.map_cons] at r
    cases r with
    | cons h t => exact .cons (kV_is h) (items_are t)

/-- raw entries of a dict with tuple keys -/
abbrev KT (H : Hp) : List (List Key × V) → List (List Key × Addr × Value) → Prop := Paired fun p q => p.1 = q.1 ∧ H q.2.1 = some (.tup (p.1.map kV)) ∧ RelV p.2 q.2.2
theorem KT.val {H : Hp} {kvs : List (List Key × V)} {xs : List (List Key × Addr × Value)} (r : KT H kvs xs) (k : List Key) : RelO (valV kvs k) ((atKey xs k).map (·.2)) := by
  induction r with
  | nil => exact True.intro
  | @cons p q ps qs h t ih =>
    obtain ⟨h1, _, h2⟩ := h
    by_cases e : p.1 = k
    · have e' : q.1 = k := h1.symm.trans e
      have b : atKey (q :: qs) k = some q.2 := by simp [atKey, List.find?_cons, e']
      rw [valV_pos e, b]; exact h2
    · have e' : ¬ q.1 = k := fun z => e (h1.trans z)
      have b : atKey (q :: qs) k = atKey qs k := by simp [atKey, List.find?_cons, e']
      rw [valV_neg e, b]; exact ih
theorem KT.repl {H : Hp} {kvs : List (List Key × V)} {xs : List (List Key × Addr × Value)} (r : KT H kvs xs) (k : List Key) {y : V} {u : Value} (ry : RelV y u) :
    KT H (kvs.map fun kv => if kv.1 = k then (kv.1, y) else kv) (xs.map (putAt k u)) := by
  induction r with
  | nil => exact .nil
  | @cons p q ps qs h t ih =>
    rw [List.map_cons, List.map_cons]
    refine .cons ?_ ih
    obtain ⟨h1, h2, h3⟩ := h
    unfold putAt
    by_cases e : p.1 = k
    · rw [if_pos e, if_pos (h1.symm.trans e)]; exact ⟨h1, h2, ry⟩
    · rw [if_neg e, if_neg (fun z => e (h1.trans z))]; exact ⟨h1, h2, h3⟩
theorem KT.put {H : Hp} {kvs : List (List Key × V)} {xs : List (List Key × Addr × Value)} (r : KT H kvs xs) (k : List Key) {b : Addr} {y : V} {u : Value} (hb : H b = some (.tup (k.map kV))) (ry : RelV y u) :
    KT H (putK kvs k y) (storedH xs k b u) := by
  have e : (kvs.any fun kv => decide (kv.1 = k)) = (atKey xs k).isSome := by
    rw [valV_any, (r.val k).isSome_eq, Option.isSome_map]
  unfold putK storedH
  rw [e]
  by_cases q : (atKey xs k).isSome = true
  · rw [if_pos q, if_pos q]; exact r.repl k ry
  · rw [if_neg q, if_neg q]; exact Paired.snoc r ⟨rfl, hb, ry⟩
theorem KT.keeps {H H' : Hp} {kvs : List (List Key × V)} {xs : List (List Key × Addr × Value)} (r : KT H kvs xs) (ht : ∀ b ys, H b = some (.tup ys) → H' b = some (.tup ys)) : KT H' kvs xs :=
  Paired.mapP r fun _ _ z => ⟨z.1, ht _ _ z.2.1, z.2.2⟩

section
variable {P : Program} {w : World} {H : Hp} {h : Heap} {a : Addr}
theorem rd_of {u : HO} (ok : HOk P w H h) (e : Rd H a u) : ObjOk P w H h a u := e.ok ok
theorem dk_rd {kvs : List (Key × V)} (ok : HOk P w H h) (e : Rd H a (.dK kvs)) : kvs.length ≤ sizeLine ∧ (a == sysModules) = false ∧ ∃ vs, KV kvs vs ∧ h.DictOf (mixKind P w) a vs :=
  show ObjOk P w H h a (.dK kvs) from rd_of ok e
theorem dk_of {kvs : List (Key × V)} (ok : HOk P w H h) (e : H a = some (.dK kvs)) : kvs.length ≤ sizeLine ∧ (a == sysModules) = false ∧ ∃ vs, KV kvs vs ∧ h.DictOf (mixKind P w) a vs := dk_rd ok (.inl e)
/-- a tracked tuple of ints and texts is a key -/
theorem key_of {ks : List Key} (ok : HOk P w H h) (e : H a = some (.tup (ks.map kV))) : (tupleKind (mixKind P w)).is h ks a := by
  obtain ⟨_, its, r, o, h1, h2, n, h3⟩ := (show ObjOk P w H h a (.tup (ks.map kV)) from ok a _ e)
  exact ⟨o, its.toArray, n, h1, h2, h3, by simpa using items_are r⟩
theorem dt_rd {kvs : List (List Key × V)} (ok : HOk P w H h) (e : Rd H a (.dT kvs)) : kvs.length ≤ sizeLine ∧ (a == sysModules) = false ∧
    ∃ xs, KT H kvs xs ∧ h.DictOfH (tupleKind (mixKind P w)) a xs := by
  obtain ⟨z, y, xs, r, o, es, ep, h1, h2, h3, h4, h5⟩ := (show ObjOk P w H h a (.dT kvs) from rd_of ok e)
  refine ⟨z, y, xs, r, o, es, ep, h1, h2, h3, h4, fun x hx => ?_, h5⟩
  have all : ∀ {l : List (List Key × V)} {m : List (List Key × Addr × Value)}, KT H l m → ∀ x ∈ m, (tupleKind (mixKind P w)).is h x.1 x.2.1 := by
    intro l m q
    induction q with
    | nil => intro x hx; exact nomatch hx
    | @cons p q ps qs hq t ih =>
      intro x hx
      rcases List.mem_cons.mp hx with e | hx
      · subst e
        exact key_of ok (by rw [← hq.1]; exact hq.2.1)
      · exact ih x hx
  exact all r x hx
theorem dt_of {kvs : List (List Key × V)} (ok : HOk P w H h) (e : H a = some (.dT kvs)) : kvs.length ≤ sizeLine ∧ (a == sysModules) = false ∧
    ∃ xs, KT H kvs xs ∧ h.DictOfH (tupleKind (mixKind P w)) a xs := dt_rd ok (.inl e)
end

/-- what the dict at a holds at the key y -/
def DGet (H : Hp) (a : Addr) (y : V) (r : Option V) : Prop :=
  (∃ kvs k, Rd H a (.dK kvs) ∧ y = kV k ∧ r = valV kvs k) ∨ ∃ kvs k b, Rd H a (.dT kvs) ∧ y = .ref b ∧ H b = some (.tup (k.map kV)) ∧ r = valV kvs k
/-- the heap behind a[y] = v -/
def DPut (H : Hp) (a : Addr) (y v : V) (H' : Hp) : Prop :=
  (∃ kvs k, H a = some (.dK kvs) ∧ y = kV k ∧ kvs.length < sizeLine ∧ H' = upd H a (.dK (putK kvs k v))) ∨
  ∃ kvs k b, H a = some (.dT kvs) ∧ y = .ref b ∧ H b = some (.tup (k.map kV)) ∧ kvs.length < sizeLine ∧ H' = upd H a (.dT (putK kvs k v))
theorem DGet.k {H : Hp} {a : Addr} {kvs : List (Key × V)} {k : Key} (e : H a = some (.dK kvs)) : DGet H a (kV k) (valV kvs k) := .inl ⟨kvs, k, .inl e, rfl, rfl⟩
theorem DGet.t {H : Hp} {a b : Addr} {kvs : List (List Key × V)} {k : List Key} (e : H a = some (.dT kvs)) (eb : H b = some (.tup (k.map kV))) : DGet H a (.ref b) (valV kvs k) := .inr ⟨kvs, k, b, .inl e, rfl, eb, rfl⟩
theorem DPut.k {H : Hp} {a : Addr} {kvs : List (Key × V)} {k : Key} {v : V} (e : H a = some (.dK kvs)) (hl : kvs.length < sizeLine) : DPut H a (kV k) v (upd H a (.dK (putK kvs k v))) := .inl ⟨kvs, k, e, rfl, hl, rfl⟩
theorem DPut.t {H : Hp} {a b : Addr} {kvs : List (List Key × V)} {k : List Key} {v : V} (e : H a = some (.dT kvs)) (eb : H b = some (.tup (k.map kV))) (hl : kvs.length < sizeLine) :
    DPut H a (.ref b) v (upd H a (.dT (putK kvs k v))) := .inr ⟨kvs, k, b, e, rfl, eb, hl, rfl⟩


section
variable {X : Cx} {pins : List (Addr × Obj)} {σ : St} {H : Hp} {s : Shared} {a : Addr} {y v : V} {u r : Value} {o : Option V} {A : Around} {E : Value → Shared → Prop}

theorem Inv.big (I : Inv X pins σ H s) : sysModules < s.heap.objs.size := by
  have h : mainGlobals < s.heap.objs.size := (I.mod.glob.keeps I.bk).lt
  exact Nat.lt_trans (by decide) h

/-- d[y], there -/
theorem d_getItem {Q : Value → Shared → Prop} (hu : A.units + 1 < cLine) (I : Inv X pins σ H s) (g : DGet H a y (some v)) (ry : RelV y u) (h : ∀ w' s', Inv X pins σ H s' → RelV v w' → Q w' s') :
    wpAny (model X.prog X.w) A (getItem (.ref a) u) Q E s := by
  rcases g with ⟨kvs, k, e, ey, l⟩ | ⟨kvs, k, b, e, ey, eb, l⟩
  · subst ey
    obtain ⟨z, hd, vs, rel, dd⟩ := dk_rd I.hok e
    obtain ⟨w', hw, rw'⟩ := RelO.some_of (v := v) (o := valueAt vs k) (by rw [l]; exact rel.val k)
    exact wpAny_getItem_of (kV_is ry) dd.mapOf hw (h w' _ (I.tok _) rw')
  · subst ey
    cases (show u = Value.ref b from ry)
    obtain ⟨z, hd, xs, rel, dd⟩ := dt_rd I.hok e
    obtain ⟨w', hw, rw'⟩ := RelO.some_of (v := v) (o := (atKey xs k).map (·.2)) (by rw [l]; exact rel.val k)
    obtain ⟨p, hp, hp2⟩ := Option.map_eq_some_iff.mp hw
    refine wpAny_getItem_heap (tupleKind_room_in1 hu) (key_of I.hok eb) dd hp ?_
    rw [hp2]
    exact h w' _ (I.tok _) rw'
/-- y in d -/
theorem d_in {Q : Value → Shared → Prop} (hu : A.units + 1 < cLine) (I : Inv X pins σ H s) (g : DGet H a y o) (ry : RelV y u) (h : ∀ s', Inv X pins σ H s' → Q (.bool o.isSome) s') :
    wpAny (model X.prog X.w) A (compareOp .In u (.ref a)) Q E s := by
  rcases g with ⟨kvs, k, e, ey, l⟩ | ⟨kvs, k, b, e, ey, eb, l⟩
  · subst ey
    obtain ⟨z, hd, vs, rel, dd⟩ := dk_rd I.hok e
    refine wpAny_in_of (kV_is ry) hd dd.mapOf ?_
    rw [← (rel.val k).isSome_eq, ← l]
    exact h _ (I.tok _)
  · subst ey
    cases (show u = Value.ref b from ry)
    obtain ⟨z, hd, xs, rel, dd⟩ := dt_rd I.hok e
    refine wpAny_in_heap (tupleKind_room_in1 hu) (key_of I.hok eb) hd dd ?_
    have q := (rel.val k).isSome_eq
    rw [Option.isSome_map] at q
    rw [← q, ← l]
    exact h _ (I.tok _)
theorem d_notIn {Q : Value → Shared → Prop} (hu : A.units + 1 < cLine) (I : Inv X pins σ H s) (g : DGet H a y o) (ry : RelV y u) (h : ∀ s', Inv X pins σ H s' → Q (.bool (!o.isSome)) s') :
    wpAny (model X.prog X.w) A (compareOp .NotIn u (.ref a)) Q E s := by
  rcases g with ⟨kvs, k, e, ey, l⟩ | ⟨kvs, k, b, e, ey, eb, l⟩
  · subst ey
    obtain ⟨z, hd, vs, rel, dd⟩ := dk_rd I.hok e
    refine wpAny_notIn_of (kV_is ry) hd dd.mapOf ?_
    rw [← (rel.val k).isSome_eq, ← l]
    exact h _ (I.tok _)
  · subst ey
    cases (show u = Value.ref b from ry)
    obtain ⟨z, hd, xs, rel, dd⟩ := dt_rd I.hok e
    refine wpAny_notIn_heap (tupleKind_room_in1 hu) (key_of I.hok eb) hd dd ?_
    have q := (rel.val k).isSome_eq
    rw [Option.isSome_map] at q
    rw [← q, ← l]
    exact h _ (I.tok _)
/-- a dict's object is replaced -/
theorem d_write {h' : Heap} {t' : Nat} {ob : HO} (I : Inv X pins σ H s) (mu : Mut (H a)) (hs : Heap.SameBut a s.heap h') (he : ∃ q, h'.get? a = some q) (new : ObjOk X.prog X.w (upd H a ob) h' a ob) :
    Inv X pins σ (upd H a ob) { s with heap := h', toks := t' } :=
  I.write (x := a) (e := a) mu (.inl rfl) (fun b q hb z => (hs.2 b hb).trans z) he new
theorem dk_new {P : Program} {w : World} {H' : Hp} {h' : Heap} {kvs : List (Key × V)} {vs : List (Key × Value)} (z : kvs.length ≤ sizeLine) (hd : (a == sysModules) = false) (rel : KV kvs vs) (dd : h'.DictOf (mixKind P w) a vs) :
    ObjOk P w H' h' a (.dK kvs) := ⟨z, hd, vs, rel, dd⟩
/-- d[y] = v -/
theorem d_setItem {H' : Hp} {Q : Unit → Shared → Prop} (hu : A.units + 1 < cLine) (I : Inv X pins σ H s) (g : DPut H a y v H') (ry : RelV y u) (rv : RelV v r) (h : ∀ s', Inv X pins σ H' s' → Q () s') :
    wpAny (model X.prog X.w) A (setItem (.ref a) u r) Q E s := by
  rcases g with ⟨kvs, k, e, ey, l, eH⟩ | ⟨kvs, k, b, e, ey, eb, l, eH⟩
  · subst ey eH
    obtain ⟨z, hd, vs, rel, dd⟩ := dk_of I.hok e
    have hz : vs.length ≤ sizeLine := by rw [← rel.length]; exact z
    have hl : (putK kvs k v).length ≤ sizeLine := by have := length_putK kvs k v; omega
    refine wpAny_setItem_pairs (hsz := hz) (kV_is ry) dd fun h' dd' hs => h _ ?_
    have he : ∃ q, h'.get? a = some q := let ⟨q, _, _, hq, _⟩ := dd'; ⟨q, hq⟩
    exact d_write I (by rw [e]; exact True.intro) hs he (dk_new hl hd (rel.put k rv) dd')
  · subst ey eH
    cases (show u = Value.ref b from ry)
    obtain ⟨z, hd, xs, rel, dd⟩ := dt_of I.hok e
    have hz : xs.length ≤ sizeLine := by rw [← Paired.length rel]; exact z
    have hl : (putK kvs k v).length ≤ sizeLine := by have := length_putK kvs k v; omega
    refine wpAny_setItem_heap (hsz := hz) (tupleKind_room_in1 hu) (key_of I.hok eb) dd fun h' dd' hs => h _ ?_
    obtain ⟨q, es, ep, hq, h2, h3, h4, _, h5⟩ := dd'
    refine d_write I (by rw [e]; exact True.intro) hs ⟨q, hq⟩ ⟨hl, hd, _, (rel.put k eb rv).keeps fun c ys ec => ?_, q, es, ep, hq, h2, h3, h4, h5⟩
    rw [upd_ne (ne_of ec e (fun z => nomatch z))]
    exact ec
end

section
variable {X : Cx} {pins : List (Addr × Obj)} {σ : St} {H : Hp} {s : Shared} {a : Addr} {kvs : List (Key × V)} {k : Key} {u : Value} {A : Around} {E : Value → Shared → Prop}
/-- del d[k] -/
theorem d_delItem {Q : Unit → Shared → Prop} (I : Inv X pins σ H s) (e : H a = some (.dK kvs)) (ry : RelV (kV k) u) (l : (valV kvs k).isSome = true) (h : ∀ s', Inv X pins σ (upd H a (.dK (dropK kvs k))) s' → Q () s') :
    wpAny (model X.prog X.w) A (delItem (.ref a) u) Q E s := by
  obtain ⟨z, hd, vs, rel, dd⟩ := dk_of I.hok e
  refine wpAny_delItem_slot dd.typeIs (by decide) PySem.F.slot_dict_delitem
    (call_meetsIn PySem.F.slot_dict_delitem dd.typeIs PySem.F.entry_dict_delitem (PySem.F.args_dict_delitem_2 _ _) (meets_dict_delitem_pairs (mixKind X.prog X.w) a (kV_is ry)) ⟨vs, dd, by rw [← rel.length]; exact z, by rw [← (rel.val k).isSome_eq]; exact l, fun h' dd' hs => h _ ?_⟩)
  have he : ∃ q, h'.get? a = some q := let ⟨q, _, _, hq, _⟩ := dd'; ⟨q, hq⟩
  exact d_write I (by rw [e]; exact True.intro) hs he (dk_new (Nat.le_trans (dropK_le kvs k) z) hd (rel.drop k) dd')
/-- d.pop(k[, x]), there -/
theorem d_pop {v : V} {more : List Value} {Q : Value → Shared → Prop} (I : Inv X pins σ H s) (e : H a = some (.dK kvs)) (ry : RelV (kV k) u) (l : valV kvs k = some v) (hm : more = [] ∨ ∃ x, more = [x])
    (h : ∀ w' s', Inv X pins σ (upd H a (.dK (dropK kvs k))) s' → RelV v w' → Q w' s') : wpAny (model X.prog X.w) A (call (.builtin "dict.pop") (.ref a :: u :: more)) Q E s := by
  obtain ⟨z, hd, vs, rel, dd⟩ := dk_of I.hok e
  obtain ⟨w', hw, rw'⟩ := RelO.some_of (v := v) (o := valueAt vs k) (by rw [← l]; exact rel.val k)
  have hp : (keyPart u).isSome = true := by
    cases k with
    | inl i => obtain ⟨t, q⟩ := (show ∃ t, u = Value.int i t from ry); subst q; rfl
    | inr x => obtain ⟨t, q⟩ := (show ∃ t, u = Value.str x t from ry); subst q; rfl
  have ha : argsOk "dict.pop" ⟨.ref a :: u :: more, []⟩ := by
    rcases hm with q | ⟨x, q⟩
    · subst q; exact PySem.F.args_dict_pop_2 _ _
    · subst q; exact PySem.F.args_dict_pop_3 _ _ _
  refine call_meetsIn PySem.F.slot_dict_pop dd.typeIs PySem.F.entry_dict_pop ha (meets_dict_pop_there (mixKind X.prog X.w) a (kV_is ry) more hm hp)
    ⟨vs, w', dd, by rw [← rel.length]; exact z, hw, fun h' dd' hs => h w' _ ?_ rw'⟩
  have he : ∃ q, h'.get? a = some q := let ⟨q, _, _, hq, _⟩ := dd'; ⟨q, hq⟩
  exact d_write I (by rw [e]; exact True.intro) hs he (dk_new (Nat.le_trans (dropK_le kvs k) z) hd (rel.drop k) dd')
/-- d.pop(k, x), not there -/
theorem d_popD {r : Value} {Q : Value → Shared → Prop} (I : Inv X pins σ H s) (e : H a = some (.dK kvs)) (ry : RelV (kV k) u) (l : valV kvs k = none) (h : ∀ s', Inv X pins σ H s' → Q r s') :
    wpAny (model X.prog X.w) A (call (.builtin "dict.pop") [.ref a, u, r]) Q E s := by
  obtain ⟨z, hd, vs, rel, dd⟩ := dk_of I.hok e
  have hn : valueAt vs k = none := RelO.none_of (by rw [← l]; exact rel.val k)
  have hp : (keyPart u).isSome = true := by
    cases k with
    | inl i => obtain ⟨t, q⟩ := (show ∃ t, u = Value.int i t from ry); subst q; rfl
    | inr x => obtain ⟨t, q⟩ := (show ∃ t, u = Value.str x t from ry); subst q; rfl
  exact call_meetsIn PySem.F.slot_dict_pop dd.typeIs PySem.F.entry_dict_pop (PySem.F.args_dict_pop_3 _ _ _) (meets_dict_pop_default (mixKind X.prog X.w) a (kV_is ry) hd hp r) ⟨vs, dd, hn, h _ (I.tok _)⟩
/-- d.clear() -/
theorem d_clear {Q : Value → Shared → Prop} (I : Inv X pins σ H s) (e : H a = some (.dK kvs)) (h : ∀ s', Inv X pins σ (upd H a (.dK [])) s' → Q .none s') : wpAny (model X.prog X.w) A (call (.builtin "dict.clear") [.ref a]) Q E s := by
  obtain ⟨z, hd, vs, rel, dd⟩ := dk_of I.hok e
  refine call_meetsIn PySem.F.slot_dict_clear dd.typeIs PySem.F.entry_dict_clear (PySem.F.args_dict_clear_1 _) (meets_dict_clear (mixKind X.prog X.w) a) ⟨vs, dd, by rw [← rel.length]; exact z, fun h' dd' hs => h _ ?_⟩
  have he : ∃ q, h'.get? a = some q := let ⟨q, _, _, hq, _⟩ := dd'; ⟨q, hq⟩
  exact d_write (t' := s.toks) I (by rw [e]; exact True.intro) hs he (dk_new (Nat.zero_le _) hd .nil dd')
/-- len(d) -/
theorem d_len {Q : Value → Shared → Prop} (I : Inv X pins σ H s) (e : Rd H a (.dK kvs)) (h : ∀ t s', Inv X pins σ H s' → Q (.int kvs.length t) s') : wpAny (model X.prog X.w) A (call (.builtin "len") [.ref a]) Q E s := by
  obtain ⟨z, hd, vs, rel, dd⟩ := dk_rd I.hok e
  refine call_len_dict hd dd (by rw [← rel.length]; rw [sizeLine_eq] at z; omega) ?_
  rw [← rel.length]
  exact h _ _ (I.tok _)
/-- if d -/
theorem d_truth {Q : Bool → Shared → Prop} (I : Inv X pins σ H s) (e : Rd H a (.dK kvs)) (h : ∀ s', Inv X pins σ H s' → Q (!kvs.isEmpty) s') : wpAny (model X.prog X.w) A (truthy (.ref a)) Q E s := by
  obtain ⟨z, hd, vs, rel, dd⟩ := dk_rd I.hok e
  refine wpAny_truthy_dict hd dd (by rw [← rel.length]; rw [sizeLine_eq] at z; omega) ?_
  have q : kvs.isEmpty = vs.isEmpty := by cases rel <;> rfl
  rw [← q]
  exact h _ (I.tok _)
end


/-! ### readings and rules -/
/-- the element of a subscription, not a slice -/
def NoSl (i : Expr) : Prop := ∀ ov iv, subscripted i false ov iv = operate [ov, iv] (getItem ov iv)
theorem subD_of {prog : Program} {w : World} {A : Around} {E : Value → Shared → Prop} {s : Shared} {env : Env} {value slice : Expr} {pos : Pos} {T id : String} {Q : Value → Shared → Prop}
    (hl : typeLookup (.type T) "__getitem__" = pure (some (.builtin id))) (hs : NoSl slice)
    (h : wpAny (model prog w) A (eval value env) (fun o s₁ => wpAny (model prog w) A (eval slice env) (fun i s₂ => s₂.TypeIs o T ∧ wpAny (model prog w) A (getItem o i) Q E s₂) E s₁) E s) :
    wpAny (model prog w) A (eval (.Subscript value slice pos) env) Q E s := by
  refine Subscript_ (wpAny_mono h (fun o s₁ h₁ => wpAny_mono h₁ (fun i s₂ h₂ => ?_) fun _ _ x => x) fun _ _ x => x)
  obtain ⟨hT, h₂⟩ := h₂
  unfold subscriptTail
  refine wpAny_bind ?_
  rw [getitemInPython_of_ne hT.not_modules]
  refine wpAny_bind (wpAny_specialOf hT hl ?_)
  have fin : wpAny (model prog w) A (subscripted slice false o i) (fun r s₃ => wpAny (model prog w) A (letTemporaryGo value o r >>= fun _ => pure r) Q E s₃) E s₂ := by
    rw [hs o i]
    exact wpAny_operating (wpAny_mono h₂ (fun r s₃ h₃ => wpAny_bind (wpAny_letTemporaryGo (wpAny_pure h₃))) fun _ _ x => x)
  first
    | exact wpAny_pure (wpAny_bind fin)
    | exact wpAny_bind (wpAny_pure (wpAny_bind fin))
    | exact wpAny_bind fin

theorem dict_typeIs {X : Cx} {pins : List (Addr × Obj)} {σ : St} {H : Hp} {s : Shared} {a : Addr} {y : V} {o : Option V} (I : Inv X pins σ H s) (g : DGet H a y o) : s.TypeIs (.ref a) "dict" := by
  rcases g with ⟨kvs, k, e, _, _⟩ | ⟨kvs, k, b, e, _, _, _⟩
  · obtain ⟨_, _, vs, _, dd⟩ := dk_rd I.hok e
    exact dd.typeIs
  · obtain ⟨_, _, xs, _, dd⟩ := dt_rd I.hok e
    exact dd.typeIs
theorem dict_noDict {X : Cx} {pins : List (Addr × Obj)} {σ : St} {H : Hp} {s : Shared} {a : Addr} {y : V} {o : Option V} (I : Inv X pins σ H s) (g : DGet H a y o) :
    ∀ b, Value.ref a = .ref b → ∃ ob, s.heap.get? b = some ob ∧ ob.dict = none := fun b q => by
  cases q
  rcases g with ⟨kvs, k, e, _, _⟩ | ⟨kvs, k, b, e, _, _, _⟩
  · obtain ⟨_, _, vs, _, ob, _, _, h1, h2, _⟩ := dk_rd I.hok e
    exact ⟨ob, h1, h2.2.1⟩
  · obtain ⟨_, _, xs, _, ob, _, _, h1, h2, _⟩ := dt_rd I.hok e
    exact ⟨ob, h1, h2.2.1⟩

/-- d[y] -/
def tDGet (td ty : TE) : TE := fun σ H Q => td σ H fun x H1 => ty σ H1 fun y H2 => ∃ a v, x = .ref a ∧ DGet H2 a y (some v) ∧ Q v H2
/-- y in d, y not in d -/
def tDIn (ty td : TE) : TE := fun σ H Q => ty σ H fun y H1 => td σ H1 fun x H2 => ∃ a o, x = .ref a ∧ DGet H2 a y o ∧ Q (.bl o.isSome) H2
def tDNotIn (ty td : TE) : TE := fun σ H Q => ty σ H fun y H1 => td σ H1 fun x H2 => ∃ a o, x = .ref a ∧ DGet H2 a y o ∧ Q (.bl (!o.isSome)) H2
/-- d[y] = v -/
def sDPut (td ty tv : TE) : TS := fun D σ H => tv σ H fun v H1 => td σ H1 fun x H2 => ty σ H2 fun y H3 => ∃ a H4, x = .ref a ∧ DPut H3 a y v H4 ∧ D.nx σ H4
/-- d[y] op= v -/
def sDAug (td ty tv : TE) (rd : V → V → Hp → VK → Prop) : TS := fun D σ H => td σ H fun x H1 => ty σ H1 fun y H2 => ∃ a v, x = .ref a ∧ DGet H2 a y (some v) ∧
  tv σ H2 fun y2 H3 => rd v y2 H3 fun z H4 => ∃ H5, DPut H4 a y z H5 ∧ D.nx σ H5
/-- del d[y] -/
def sDDel (td ty : TE) : TS := fun D σ H => td σ H fun x H1 => ty σ H1 fun y H2 => ∃ a kvs k, x = .ref a ∧ H2 a = some (.dK kvs) ∧ y = kV k ∧ (valV kvs k).isSome = true ∧ D.nx σ (upd H2 a (.dK (dropK kvs k)))

section
variable {X : Cx} {o i e value : Expr} {pos pos' tpos : Pos} {td ty tv : TE}
theorem pe_dget (hu : X.A.units + 1 < cLine) (ho : PE X o td) (hi : PE X i ty) (hs : NoSl i) : PE X (.Subscript o i pos) (tDGet td ty) := by
  intro pins s σ H Q I h
  refine subD_of PySem.F.slot_dict_getitem.lookup hs (thn (ho pins s σ H _ I h) fun u s1 ⟨x, H1, I1, rx, q1⟩ => thn (hi pins s1 σ H1 _ I1 q1) fun iv s2 ⟨y, H2, I2, ry, a, v, ex, g, q2⟩ => ?_)
  subst ex
  obtain rfl : u = Value.ref a := rx
  exact ⟨dict_typeIs I2 g, d_getItem hu I2 g ry fun w' s3 I3 rw' => ⟨v, H2, I3, rw', q2⟩⟩
theorem pc_din (hu : X.A.units + 1 < cLine) (hi : PE X i ty) (ho : PE X o td) : PC X .In i o (tDIn ty td) := by
  intro pins s σ H Q I h
  refine thn (hi pins s σ H _ I h) fun iv s1 ⟨y, H1, I1, ry, q1⟩ => thn (ho pins s1 σ H1 _ I1 q1) fun u s2 ⟨x, H2, I2, rx, a, ov, ex, g, q2⟩ => ?_
  subst ex
  obtain rfl : u = Value.ref a := rx
  exact d_in hu I2 g ry fun s3 I3 => ⟨.bl ov.isSome, H2, I3, rfl, q2⟩
theorem pc_dnotin (hu : X.A.units + 1 < cLine) (hi : PE X i ty) (ho : PE X o td) : PC X .NotIn i o (tDNotIn ty td) := by
  intro pins s σ H Q I h
  refine thn (hi pins s σ H _ I h) fun iv s1 ⟨y, H1, I1, ry, q1⟩ => thn (ho pins s1 σ H1 _ I1 q1) fun u s2 ⟨x, H2, I2, rx, a, ov, ex, g, q2⟩ => ?_
  subst ex
  obtain rfl : u = Value.ref a := rx
  exact d_notIn hu I2 g ry fun s3 I3 => ⟨.bl (!ov.isSome), H2, I3, rfl, q2⟩
theorem ps_dput (hu : X.A.units + 1 < cLine) (ho : PE X o td) (hi : PE X i ty) (hv : PE X value tv) (hs : swapsWith value (some (.Subscript o i pos')) pos.line X.env = pure false) :
    PS X (.Assign [.Subscript o i pos'] value pos) (sDPut td ty tv) := by
  intro pins s σ H D I h
  refine wpAny_Assign_Subscript (thn (hv pins s σ H _ I h) fun r s1 ⟨v, H1, I1, rv, q1⟩ => thn (ho pins s1 σ H1 _ I1 q1) fun u s2 ⟨x, H2, I2, rx, q2⟩ => thn (hi pins s2 σ H2 _ I2 q2) fun iv s3 ⟨y, H3, I3, ry, a, H4, ex, g, q3⟩ => ?_) hs
  subst ex
  obtain rfl : u = Value.ref a := rx
  exact d_setItem hu I3 g ry rv fun s4 I4 => ⟨σ, H4, I4, q3⟩
theorem ps_daug {op : Operator} {rd : V → V → Hp → VK → Prop} (hu : X.A.units + 1 < cLine) (ho : PE X o td) (hi : PE X i ty) (hv : PE X value tv) (hop : InOp X op rd)
    (ha : ∀ ov iv new, augStore i ov iv new = (do holding [new, ov, iv] (setItem ov iv new); release [new, ov, iv] []; pure .next)) : PS X (.AugAssign (.Subscript o i tpos) op value pos) (sDAug td ty tv rd) := by
  intro pins s σ H D I h
  refine wpAny_AugAssign_SubscriptAny (thn (ho pins s σ H _ I h) fun u s1 ⟨x, H1, I1, rx, q1⟩ => thn (hi pins s1 σ H1 _ I1 q1) fun iv s2 ⟨y, H2, I2, ry, a, v, ex, g, q2⟩ => ?_) ha
  subst ex
  obtain rfl : u = Value.ref a := rx
  refine d_getItem hu I2 g ry fun w' s3 I3 rw' => thn (hv pins s3 σ H2 _ I3 q2) fun w2 s4 ⟨y2, H3, I4, ry2, q3⟩ => thn (hop pins s4 σ H3 v y2 w' w2 _ I4 rw' ry2 q3) fun w3 s5 ⟨z, H4, I5, rz, H5, g5, q4⟩ => ?_
  exact d_setItem hu I5 g5 ry rz fun s6 I6 => ⟨σ, H5, I6, q4⟩
theorem ps_ddel (ho : PE X o td) (hi : PE X i ty) : PS X (.Delete [.Subscript o i tpos] pos) (sDDel td ty) := by
  intro pins s σ H D I h
  refine wpAny_Delete (wpAny_deleteEach_cons (wpAny_delete_Subscript (thn (ho pins s σ H _ I h) fun u s1 ⟨x, H1, I1, rx, q1⟩ => thn (hi pins s1 σ H1 _ I1 q1) fun iv s2 ⟨y, H2, I2, ry, a, kvs, k, ex, e, ey, l, q2⟩ => ?_)))
  subst ex ey
  obtain rfl : u = Value.ref a := rx
  exact d_delItem I2 e ry l fun s3 I3 => wpAny_deleteEach_nil ⟨σ, _, I3, q2⟩
end


/-! ### displays -/
theorem dk_empty {P : Program} {w : World} {H : Hp} (h : Heap) (hb : sysModules < h.objs.size) : ObjOk P w H (h.push { cls := .type "dict", data := .dict #[] }) h.objs.size (.dK []) :=
  ⟨Nat.zero_le _, beq_eq_false_iff_ne.mpr (Ne.symm (Nat.ne_of_lt hb)), [], .nil, Heap.DictOf.new h⟩
theorem dt_empty {P : Program} {w : World} {H : Hp} (h : Heap) (hb : sysModules < h.objs.size) : ObjOk P w H (h.push { cls := .type "dict", data := .dict #[] }) h.objs.size (.dT []) :=
  ⟨Nat.zero_le _, beq_eq_false_iff_ne.mpr (Ne.symm (Nat.ne_of_lt hb)), [], .nil, _, #[], 0, Heap.get?_push_size _ rfl, ⟨rfl, rfl, rfl⟩, rfl, rfl, List.nodup_nil⟩
/-- {}, to be a dict of the kind that is wanted -/
def tDNewK : TE := fun _ H Q => ∀ p, H p = none → Q (.ref p) (upd H p (.dK []))
def tDNewT : TE := fun _ H Q => ∀ p, H p = none → Q (.ref p) (upd H p (.dT []))
section
variable {X : Cx} {pos : Pos}
theorem pe_dnewK : PE X (.Dict [] [] pos) tDNewK := fun pins s σ H Q I h =>
  wpAny_Dict_empty ⟨.ref s.heap.objs.size, _, I.laid (a := s.heap.objs.size) (o := .dK []) (t' := s.toks) (fun _ _ q => Heap.get?_push_of_some _ q) (Nat.le_refl _) (dk_empty s.heap I.big), rfl, h _ (I.hok.fresh (Nat.le_refl _))⟩
theorem pe_dnewT : PE X (.Dict [] [] pos) tDNewT := fun pins s σ H Q I h =>
  wpAny_Dict_empty ⟨.ref s.heap.objs.size, _, I.laid (a := s.heap.objs.size) (o := .dT []) (t' := s.toks) (fun _ _ q => Heap.get?_push_of_some _ q) (Nat.le_refl _) (dt_empty s.heap I.big), rfl, h _ (I.hok.fresh (Nat.le_refl _))⟩
end

/-- the pairs of a display, from the left -/
def tPairs : List (TE × TE) → St → Hp → (List (V × V) → Hp → Prop) → Prop
  | [], _, H, Q => Q [] H
  | (tk, tv) :: r, σ, H, Q => tk σ H fun x H1 => tv σ H1 fun y H2 => tPairs r σ H2 fun ps H3 => Q ((x, y) :: ps) H3
abbrev VV : List (V × V) → List (Value × Value) → Prop := Paired fun p q => RelV p.1 q.1 ∧ RelV p.2 q.2
def PPs (X : Cx) (pos : Pos) (keys : List (Option Expr)) (values : List Expr) (trs : List (TE × TE)) : Prop :=
  ∀ (pins : List (Addr × Obj)) (s : Shared) (σ : St) (H : Hp) (Q : List (V × V) → Hp → Prop), Inv X pins σ H s → tPairs trs σ H Q →
    wpAny (model X.prog X.w) X.A (evalPairs (pairTrees keys values X.env pos)) (fun vs s' => ∃ ps H', Inv X pins σ H' s' ∧ VV ps vs ∧ Q ps H') X.xe s
theorem pps_nil {X : Cx} {pos : Pos} : PPs X pos [] [] [] := fun pins s σ H Q I h => pairTrees_nil_walk ⟨[], H, I, .nil, h⟩
theorem pps_cons {X : Cx} {pos : Pos} {k v : Expr} {ks : List (Option Expr)} {vs : List Expr} {tk tv : TE} {trs : List (TE × TE)} (hk : PE X k tk) (hv : PE X v tv) (hr : PPs X pos ks vs trs) :
    PPs X pos (some k :: ks) (v :: vs) ((tk, tv) :: trs) := fun pins s σ H Q I h =>
  pairTrees_cons_walk (thn (hk pins s σ H _ I h) fun u s1 ⟨x, H1, I1, rx, q1⟩ => thn (hv pins s1 σ H1 _ I1 q1) fun w2 s2 ⟨y, H2, I2, ry, q2⟩ =>
    thn (hr pins s2 σ H2 _ I2 q2) fun ws s3 ⟨ps, H3, I3, rel, q3⟩ => ⟨(x, y) :: ps, H3, I3, .cons ⟨rx, ry⟩ rel, q3⟩)

def mergeK (kvs more : List (Key × V)) : List (Key × V) := more.foldl (fun acc kv => putK acc kv.1 kv.2) kvs
theorem KV.merge : ∀ {more : List (Key × V)} {rs : List (Key × Value)} {kvs : List (Key × V)} {vs : List (Key × Value)}, KV more rs → KV kvs vs → KV (mergeK kvs more) (merged vs rs) := by
  intro more rs kvs vs r
  unfold KV at r
  induction r generalizing kvs vs with
  | nil => intro q; exact q
  | @cons p q ps qs h t ih =>
    intro r0
    have e : KV (putK kvs p.1 p.2) (stored vs q.1 q.2) := by
      have := r0.put p.1 h.2
      rw [← h.1]; exact this
    exact ih e
theorem length_mergeK : ∀ (more kvs : List (Key × V)), (mergeK kvs more).length ≤ kvs.length + more.length
  | [], kvs => by show kvs.length ≤ kvs.length + 0; omega
  | p :: r, kvs => by
    have h1 := length_mergeK r (putK kvs p.1 p.2)
    have h2 := length_putK kvs p.1 p.2
    show (mergeK (putK kvs p.1 p.2) r).length ≤ _
    rw [List.length_cons]; omega
theorem carries_of {P : Program} {w : World} : ∀ {kvs : List (Key × V)} {ws : List (Value × Value)}, VV (kvs.map fun kv => (kV kv.1, kv.2)) ws → ∃ rs, Carries (mixKind P w) ws rs ∧ KV kvs rs
  | [], _, r => by rw [List.map_nil] at r; cases r; exact ⟨[], True.intro, .nil⟩
  | p :: kvs, _, r => by
    rw [List.map_cons] at r
    cases r with
    | @cons a b as bs h t =>
      obtain ⟨rs, c, q⟩ := carries_of (P := P) (w := w) t
      obtain ⟨b1, b2⟩ := b
      exact ⟨(p.1, b2) :: rs, ⟨kV_is h.1, rfl, c⟩, .cons ⟨rfl, h.2⟩ q⟩
/-- {k: v, ..} with keys ints and texts; the new dict stands empty while the pairs are made -/
def tDisp (trs : List (TE × TE)) : TE := fun σ H Q => ∀ p, H p = none → tPairs trs σ (upd H p (.dK [])) fun ps H2 => H2 p = some (.dK []) ∧ ∃ kvs : List (Key × V), ps = kvs.map (fun kv => (kV kv.1, kv.2)) ∧ kvs.length ≤ 15 ∧ Q (.ref p) (upd H2 p (.dK (mergeK [] kvs)))
theorem pe_disp {X : Cx} {pos : Pos} {keys : List (Option Expr)} {values : List Expr} {trs : List (TE × TE)} (h : PPs X pos keys values trs) (hall : keys.all (·.isSome) = true) (hl : keys.length = values.length) (h0 : keys ≠ [])
    (h15 : keys.length ≤ 15) : PE X (.Dict keys values pos) (tDisp trs) := by
  intro pins s σ H Q I q
  have hn := I.hok.fresh (Nat.le_refl s.heap.objs.size)
  have I1 := I.laid (a := s.heap.objs.size) (o := .dK []) (h' := s.heap.push { cls := .type "dict", data := .dict #[] }) (t' := s.toks) (fun _ _ q => Heap.get?_push_of_some _ q) (Nat.le_refl _) (dk_empty s.heap I.big)
  refine wpAny_Dict_walk (knd := mixKind X.prog X.w) hall hl h0 h15 (thn (h pins _ σ _ _ I1 (q _ hn)) fun ws s2 ⟨ps, H2, I2, rel, e, kvs, ep, lk, q2⟩ => ?_)
  subst ep
  obtain ⟨rs, c, rk⟩ := carries_of (P := X.prog) (w := X.w) rel
  obtain ⟨z, hd, vs0, r0, dd⟩ := dk_of I2.hok e
  cases r0
  refine ⟨rs, c, dd, fun h' dd' hs => ⟨.ref s.heap.objs.size, _, ?_, rfl, q2⟩⟩
  have hz : (mergeK [] kvs).length ≤ sizeLine := by
    have h1 := length_mergeK kvs []
    rw [List.length_nil] at h1
    rw [sizeLine_eq]; omega
  have he : ∃ q, h'.get? s.heap.objs.size = some q := let ⟨q, _, _, hq, _⟩ := dd'; ⟨q, hq⟩
  exact d_write I2 (by rw [e]; exact True.intro) hs he (dk_new hz hd (rk.merge .nil) dd')


/-! ### methods -/
/-- a method call o.m(e) of a built-in, with one argument: what must be seen of the text -/
structure M1 (X : Cx) (o : Expr) (m : Str) (apos : Pos) (e : Expr) (cpos : Pos) : Prop where
  base : attributeBase o m X.env (eval o X.env) = eval o X.env
  few : ((backTo cpos (starEach [e] X.env)).all (fun x => !x.1) && (backToKw cpos (keywordEach [] X.env)).all (fun x => x.1.isSome)
    && decide (([e] : List Expr).length + ([] : List Keyword).length + (if ([] : List Keyword).isEmpty then 0 else 1) < 30)) = true
  line : (apos.endLine == cpos.line) = true
  trees : backTo cpos (starEach [e] X.env) = [(false, eval e X.env)]
structure M2 (X : Cx) (o : Expr) (m : Str) (apos : Pos) (e f : Expr) (cpos : Pos) : Prop where
  base : attributeBase o m X.env (eval o X.env) = eval o X.env
  few : ((backTo cpos (starEach [e, f] X.env)).all (fun x => !x.1) && (backToKw cpos (keywordEach [] X.env)).all (fun x => x.1.isSome)
    && decide (([e, f] : List Expr).length + ([] : List Keyword).length + (if ([] : List Keyword).isEmpty then 0 else 1) < 30)) = true
  line : (apos.endLine == cpos.line) = true
  trees : backTo cpos (starEach [e, f] X.env) = [(false, eval e X.env), (false, eval f X.env)]

/-- a is a dict, whatever its keys -/
def IsD (H : Hp) (a : Addr) : Prop := (∃ kvs, Rd H a (.dK kvs)) ∨ ∃ kvs, Rd H a (.dT kvs)
theorem isD_at {X : Cx} {pins : List (Addr × Obj)} {σ : St} {H : Hp} {s : Shared} {a : Addr} (I : Inv X pins σ H s) (d : IsD H a) :
    s.TypeIs (.ref a) "dict" ∧ (∀ b, Value.ref a = .ref b → ∃ ob, s.heap.get? b = some ob ∧ ob.dict = none) ∧ (a == sysModules) = false := by
  rcases d with ⟨kvs, e⟩ | ⟨kvs, e⟩
  · obtain ⟨_, hd, vs, _, dd⟩ := dk_rd I.hok e
    refine ⟨dd.typeIs, fun b q => ?_, hd⟩
    cases q
    obtain ⟨ob, _, _, h1, h2, _⟩ := dd
    exact ⟨ob, h1, h2.2.1⟩
  · obtain ⟨_, hd, xs, _, dd⟩ := dt_rd I.hok e
    refine ⟨dd.typeIs, fun b q => ?_, hd⟩
    cases q
    obtain ⟨ob, _, _, h1, h2, _⟩ := dd
    exact ⟨ob, h1, h2.2.1⟩

section
variable {X : Cx} {pins : List (Addr × Obj)} {σ : St} {H : Hp} {s : Shared} {a : Addr} {y d : V} {u r : Value} {o : Option V} {A : Around} {E : Value → Shared → Prop}
/-- d.get(y) -/
theorem d_get1 {Q : Value → Shared → Prop} (hu : A.units + 1 < cLine) (I : Inv X pins σ H s) (g : DGet H a y o) (ry : RelV y u) (h : ∀ w' s', Inv X pins σ H s' → RelV (o.getD .non) w' → Q w' s') :
    wpAny (model X.prog X.w) A (call (.builtin "dict.get") [.ref a, u]) Q E s := by
  rcases g with ⟨kvs, k, e, ey, l⟩ | ⟨kvs, k, b, e, ey, eb, l⟩
  · subst ey
    obtain ⟨z, hd, vs, rel, dd⟩ := dk_rd I.hok e
    refine call_meetsIn PySem.F.slot_dict_get dd.typeIs PySem.F.entry_dict_get (PySem.F.args_dict_get_2 _ _) (meets_dict_get (mixKind X.prog X.w) a (kV_is ry) hd) ⟨_, dd.mapOf, h _ _ (I.tok _) ?_⟩
    rw [l]
    exact (rel.val k).getD rfl
  · subst ey
    cases (show u = Value.ref b from ry)
    obtain ⟨z, hd, xs, rel, dd⟩ := dt_rd I.hok e
    refine call_meetsIn PySem.F.slot_dict_get dd.typeIs PySem.F.entry_dict_get (PySem.F.args_dict_get_2 _ _) (meetsH_dict_get (tupleKind (mixKind X.prog X.w)) a b hd) ⟨tupleKind_room_in1 hu, k, xs, key_of I.hok eb, dd, h _ _ (I.tok _) ?_⟩
    rw [l]
    exact (rel.val k).getD rfl
/-- d.get(y, x) -/
theorem d_get2 {Q : Value → Shared → Prop} (hu : A.units + 1 < cLine) (I : Inv X pins σ H s) (g : DGet H a y o) (ry : RelV y u) (rd : RelV d r) (h : ∀ w' s', Inv X pins σ H s' → RelV (o.getD d) w' → Q w' s') :
    wpAny (model X.prog X.w) A (call (.builtin "dict.get") [.ref a, u, r]) Q E s := by
  rcases g with ⟨kvs, k, e, ey, l⟩ | ⟨kvs, k, b, e, ey, eb, l⟩
  · subst ey
    obtain ⟨z, hd, vs, rel, dd⟩ := dk_rd I.hok e
    refine call_meetsIn PySem.F.slot_dict_get dd.typeIs PySem.F.entry_dict_get (PySem.F.args_dict_get_3 _ _ _) (meets_dict_get_default (mixKind X.prog X.w) a (kV_is ry) hd r) ⟨_, dd.mapOf, h _ _ (I.tok _) ?_⟩
    rw [l]
    exact (rel.val k).getD rd
  · subst ey
    cases (show u = Value.ref b from ry)
    obtain ⟨z, hd, xs, rel, dd⟩ := dt_rd I.hok e
    refine call_meetsIn PySem.F.slot_dict_get dd.typeIs PySem.F.entry_dict_get (PySem.F.args_dict_get_3 _ _ _) (meetsH_dict_get_default (tupleKind (mixKind X.prog X.w)) a b hd r) ⟨tupleKind_room_in1 hu, k, xs, key_of I.hok eb, dd, h _ _ (I.tok _) ?_⟩
    rw [l]
    exact (rel.val k).getD rd
end

def tDGet1 (td ty : TE) : TE := fun σ H Q => td σ H fun x H1 => ∃ a, x = .ref a ∧ IsD H1 a ∧ ty σ H1 fun y H2 => ∃ o, DGet H2 a y o ∧ Q (o.getD .non) H2
def tDGet2 (td ty tx : TE) : TE := fun σ H Q => td σ H fun x H1 => ∃ a, x = .ref a ∧ IsD H1 a ∧ ty σ H1 fun y H2 => tx σ H2 fun z H3 => ∃ o, DGet H3 a y o ∧ Q (o.getD z) H3
/-- d.pop(k): there; d.pop(k, x): there or not -/
def tDPop1 (td ty : TE) : TE := fun σ H Q => td σ H fun x H1 => ∃ a, x = .ref a ∧ IsD H1 a ∧ ty σ H1 fun y H2 => ∃ kvs k v, H2 a = some (.dK kvs) ∧ y = kV k ∧ valV kvs k = some v ∧ Q v (upd H2 a (.dK (dropK kvs k)))
def tDPop2 (td ty tx : TE) : TE := fun σ H Q => td σ H fun x H1 => ∃ a, x = .ref a ∧ IsD H1 a ∧ ty σ H1 fun y H2 => tx σ H2 fun z H3 => ∃ kvs k, H3 a = some (.dK kvs) ∧ y = kV k ∧
  (∀ v, valV kvs k = some v → Q v (upd H3 a (.dK (dropK kvs k)))) ∧ (valV kvs k = none → Q z H3)
section
variable {X : Cx} {o e f : Expr} {apos cpos : Pos} {td ty tx : TE}
theorem pe_dget1 (hu : X.A.units + 1 < cLine) (ho : PE X o td) (he : PE X e ty) (m : M1 X o "get" apos e cpos) : PE X (.Call (.Attribute o "get" apos) [e] [] cpos) (tDGet1 td ty) := by
  intro pins s σ H Q I h
  refine wpAny_Call_method m.base m.few m.line PySem.F.plainAttrs_dict PySem.F.slot_dict_get PySem.F.type_dict_get (thn (ho pins s σ H _ I h) fun u s1 ⟨x, H1, I1, rx, a, ex, d, q1⟩ => ?_)
  subst ex
  obtain rfl : u = Value.ref a := rx
  obtain ⟨t1, t2, _⟩ := isD_at I1 d
  refine ⟨t1, t2, ?_⟩
  rw [m.trees]
  refine Calls.callWith_builtin rfl (Calls.evalArgs_plain (Calls.spliced_cons (thn (he pins s1 σ H1 _ I1 q1) fun iv s2 ⟨y, H2, I2, ry, ov, g, q2⟩ => Calls.spliced_nil ?_)))
  exact d_get1 hu I2 g ry fun w' s3 I3 rw' => ⟨_, H2, I3, rw', q2⟩
theorem pe_dget2 (hu : X.A.units + 1 < cLine) (ho : PE X o td) (he : PE X e ty) (hf : PE X f tx) (m : M2 X o "get" apos e f cpos) : PE X (.Call (.Attribute o "get" apos) [e, f] [] cpos) (tDGet2 td ty tx) := by
  intro pins s σ H Q I h
  refine wpAny_Call_method m.base m.few m.line PySem.F.plainAttrs_dict PySem.F.slot_dict_get PySem.F.type_dict_get (thn (ho pins s σ H _ I h) fun u s1 ⟨x, H1, I1, rx, a, ex, d, q1⟩ => ?_)
  subst ex
  obtain rfl : u = Value.ref a := rx
  obtain ⟨t1, t2, _⟩ := isD_at I1 d
  refine ⟨t1, t2, ?_⟩
  rw [m.trees]
  refine Calls.callWith_builtin rfl (Calls.evalArgs_plain (Calls.spliced_cons (thn (he pins s1 σ H1 _ I1 q1) fun iv s2 ⟨y, H2, I2, ry, q2⟩ =>
    Calls.spliced_cons (thn (hf pins s2 σ H2 _ I2 q2) fun fv s3 ⟨z, H3, I3, rz, ov, g, q3⟩ => Calls.spliced_nil ?_))))
  exact d_get2 hu I3 g ry rz fun w' s4 I4 rw' => ⟨_, H3, I4, rw', q3⟩
theorem pe_dpop1 (ho : PE X o td) (he : PE X e ty) (m : M1 X o "pop" apos e cpos) : PE X (.Call (.Attribute o "pop" apos) [e] [] cpos) (tDPop1 td ty) := by
  intro pins s σ H Q I h
  refine wpAny_Call_method m.base m.few m.line PySem.F.plainAttrs_dict PySem.F.slot_dict_pop PySem.F.type_dict_pop (thn (ho pins s σ H _ I h) fun u s1 ⟨x, H1, I1, rx, a, ex, d, q1⟩ => ?_)
  subst ex
  obtain rfl : u = Value.ref a := rx
  obtain ⟨t1, t2, _⟩ := isD_at I1 d
  refine ⟨t1, t2, ?_⟩
  rw [m.trees]
  refine Calls.callWith_builtin rfl (Calls.evalArgs_plain (Calls.spliced_cons (thn (he pins s1 σ H1 _ I1 q1) fun iv s2 ⟨y, H2, I2, ry, kvs, k, v, ea, ey, l, q2⟩ => Calls.spliced_nil ?_)))
  subst ey
  exact d_pop I2 ea ry l (.inl rfl) fun w' s3 I3 rw' => ⟨v, _, I3, rw', q2⟩
theorem pe_dpop2 (ho : PE X o td) (he : PE X e ty) (hf : PE X f tx) (m : M2 X o "pop" apos e f cpos) : PE X (.Call (.Attribute o "pop" apos) [e, f] [] cpos) (tDPop2 td ty tx) := by
  intro pins s σ H Q I h
  refine wpAny_Call_method m.base m.few m.line PySem.F.plainAttrs_dict PySem.F.slot_dict_pop PySem.F.type_dict_pop (thn (ho pins s σ H _ I h) fun u s1 ⟨x, H1, I1, rx, a, ex, d, q1⟩ => ?_)
  subst ex
  obtain rfl : u = Value.ref a := rx
  obtain ⟨t1, t2, _⟩ := isD_at I1 d
  refine ⟨t1, t2, ?_⟩
  rw [m.trees]
  refine Calls.callWith_builtin rfl (Calls.evalArgs_plain (Calls.spliced_cons (thn (he pins s1 σ H1 _ I1 q1) fun iv s2 ⟨y, H2, I2, ry, q2⟩ =>
    Calls.spliced_cons (thn (hf pins s2 σ H2 _ I2 q2) fun fv s3 ⟨z, H3, I3, rz, kvs, k, ea, ey, q3, q4⟩ => Calls.spliced_nil ?_))))
  subst ey
  cases l : valV kvs k with
  | some v => exact d_pop I3 ea ry l (.inr ⟨fv, rfl⟩) fun w' s4 I4 rw' => ⟨v, _, I4, rw', q3 v l⟩
  | none => exact d_popD I3 ea ry l fun s4 I4 => ⟨z, H3, I4, rz, q4 l⟩
end

/-! ### dict(d): a copy -/
section
variable {X : Cx} {pins : List (Addr × Obj)} {σ : St} {H : Hp} {s : Shared} {a : Addr} {kvs : List (Key × V)} {A : Around} {E : Value → Shared → Prop}
theorem d_copyOf {Q : Value → Shared → Prop} (I : Inv X pins σ H s) (e : Rd H a (.dK kvs)) (h : ∀ p s', H p = none → Inv X pins σ (upd H p (.dK kvs)) s' → Q (.ref p) s') : wpAny (model X.prog X.w) A (call (.type "dict") [.ref a]) Q E s := by
  obtain ⟨z, hd, vs, rel, dd⟩ := dk_rd I.hok e
  refine kt_call_dict hd dd (by rw [← rel.length]; exact z) fun h' dd' hs => ?_
  refine h _ _ (I.hok.fresh (Nat.le_refl _)) (I.laid (a := s.heap.objs.size) (o := .dK kvs) (t' := s.toks) (fun b q hq => ?_) (Nat.le_refl _) (dk_new z (beq_eq_false_iff_ne.mpr (Ne.symm (Nat.ne_of_lt I.big))) rel dd'))
  exact (hs.2 b (Nat.ne_of_lt (Heap.lt_size hq))).trans (Heap.get?_push_of_some _ hq)
end


section
variable {X : Cx} {pins : List (Addr × Obj)} {σ : St} {H : Hp} {s : Shared} {a : Addr} {y : V} {u : Value} {A : Around} {E : Value → Shared → Prop}
/-- d[y], not there: a KeyError -/
theorem d_missing {Q : Value → Shared → Prop} (hu : A.units + 1 < cLine) (hh : A.handled = none) (I : Inv X pins σ H s) (g : DGet H a y none) (ry : RelV y u)
    (h : ∀ h' e t', Heap.NewExc s.heap h' e "KeyError" → E (.ref e) { s with heap := h', toks := t' }) : wpAny (model X.prog X.w) A (getItem (.ref a) u) Q E s := by
  rcases g with ⟨kvs, k, e, ey, l⟩ | ⟨kvs, k, b, e, ey, eb, l⟩
  · subst ey
    obtain ⟨z, hd, vs, rel, dd⟩ := dk_rd I.hok e
    have hn : valueAt vs k = none := RelO.none_of (by rw [l]; exact rel.val k)
    exact wpAny_getItem_missing_of (kV_is ry) hd hh dd.mapOf hn fun h' ex ne => h h' ex _ ne
  · subst ey
    cases (show u = Value.ref b from ry)
    obtain ⟨z, hd, xs, rel, dd⟩ := dt_rd I.hok e
    have hn : (atKey xs k).map (·.2) = none := RelO.none_of (by rw [l]; exact rel.val k)
    exact wpAny_getItem_missing_heap (tupleKind_room_in1 hu) (key_of I.hok eb) hd hh dd (Option.map_eq_none_iff.mp hn) fun h' ex ne => h h' ex _ ne
end
end L2
namespace Att
open PySem PySem.W PySem.Calls PyProof.Rows

/-! ### the script -/
theorem ints_of_wellAll {P : Params} {h : Heap} : ∀ (ns : List Int) (vs : List Value), WellAll P h vs (ns.map WData.int) → IntsAre vs ns := by
  intro ns
  induction ns with
  | nil =>
    intro vs w
    rw [List.map_nil] at w
    cases w
    exact .nil
  | cons n ns ih =>
    intro vs w
    rw [List.map_cons] at w
    cases w with
    | cons a b =>
      cases a
      exact .cons _ _ (ih _ b)

theorem script_of {l : OpenLaw} {n : Nat} (hn : l.most = some n) {P : Params} {h : Heap} {args : List WData} {vals : List Value}
    (hpre : l.row.toRowW.claim.pre args = true) (hwl : WellAll P h vals args) :
    ∃ a vs ns, vals = [Value.ref a] ∧ args = [WData.list (ns.map WData.int)] ∧ h.get? a = some { cls := .type "list", data := .seq vs.toArray } ∧ IntsAre vs ns ∧ ns.length ≤ n := by
  have hsh : WShape.hasAll [] args [.list .int] = true := (pre_splitW hpre).1
  have hc : l.pre.holds [] { args := args } = true := (pre_splitW hpre).2
  obtain ⟨d, r, rfl, h1, h2⟩ := hasAllW_cons hsh
  obtain rfl := hasAllW_nil h2
  obtain ⟨xs, rfl, h3⟩ := hasW_list h1
  obtain ⟨ns, rfl⟩ := items_int h3
  have hlen : ns.length ≤ n := by
    unfold OpenLaw.pre at hc
    have h4 : (WTm.not (.lt (.lit (.int (n : Int))) (.len (.arg 0)))).holds [] { args := [.list (ns.map .int)] } = true := by
      have h4 := (holds_andW hc).1
      rw [hn] at h4
      exact h4
    have h5 := condW_of h4 (w_not (w_lt w_lit (w_len_list (w_arg rfl))))
    rw [List.length_map] at h5
    refine Nat.le_of_not_lt fun q => ?_
    have q' : (n : Int) < ((ns.length : Nat) : Int) := by omega
    first
      | (rw [decide_eq_true q'] at h5; exact absurd h5 (by decide))
      | (simp at h5; omega)
  cases hwl with
  | cons w1 w2 =>
    cases w2
    cases w1 with
    | list ho hall => exact ⟨_, _, ns, rfl, rfl, ho, ints_of_wellAll ns _ hall, hlen⟩

theorem post_true (l : OpenLaw) (args : List WData) : l.row.toRowW.claim.post args (.bool true) args = true :=
  postW_of (r := l.row.toRowW) (X := (true == true))
    (show WShape.has [] (.bool true) .bool = true by first | rfl | decide | simp [WShape.has, WShape.arms, WShape.armsAll])
    (show (WTm.eq .res (.lit (.bool true))).value [] { args := args, res := some (.bool true), after := args } = some (.bool (true == true)) from w_eq_bool (w_res rfl) w_lit) rfl

/-! ### the attachment: holds_open's last premise (the goal 'hc' behind k_head) from a wpAny of the law's body -/
theorem attach {l : OpenLaw} {n : Nat} {q : Program} {loose : List Str} {XP : (Str → Option Value) → Heap → Prop} {YP : World → Heap → Prop} {d : DefRec} {x : Str}
    (hn : l.most = some n) (hdf : d.params.defaults = [])
    (hbind : ∀ pm cd doc v : Value, bindArgs (docDef d.name d.params d.body d.scope pm cd doc) ⟨[v], []⟩ = pure [(x, v)])
    (hx : d.scope.names.lookup x = some .local ∨ d.scope.names.lookup x = some .cell)
    (hk : d.scope.kind = .function) (hco : d.scope.isCoroutine = false) (hgen : d.scope.isGenerator = false)
    (body : ∀ (w : World) (s₀ s₁ s : Shared) (mg mb : Str → Option Value) (fa : Addr) (o : Obj) (pm cd doc : Value) (a : Addr) (vs : List Value) (ns : List Int),
      Ground q loose [] XP w s₀ mg mb s₁.heap → YP w s₁.heap →
      s₁.heap.get? fa = some o → o.data = .func (docDef d.name d.params d.body d.scope pm cd doc) → s₁.heap.CodeRec cd d.name → mg d.name = some (.ref fa) →
      s₁.heap.get? a = some { cls := .type "list", data := .seq vs.toArray } → IntsAre vs ns → ns.length ≤ n →
      s.gens = #[] → s.os = s₁.os →
      Fr s₁.heap s₁.heap.objs.size s.heap (bindL (envOfC d.name d.scope s₁.heap.objs.size fa cd).kindOf [(x, .ref a)] fun _ => none) →
      Cl s₁.heap.objs.size (cellsFrom (s₁.heap.objs.size + 1) d.scope.names []) s.heap (bindC (envOfC d.name d.scope s₁.heap.objs.size fa cd).kindOf [(x, .ref a)] fun _ => none) →
      wpAny (model l.prog w) (callerA.deeper (envOfC d.name d.scope s₁.heap.objs.size fa cd)) (execs d.body (envOfC d.name d.scope s₁.heap.objs.size fa cd))
        (fun f s' => f = .ret (.bool true) ∧ OldK s₁.heap s'.heap ∧ s'.os = s₁.os ∧ AllBare s'.gens) (fun _ _ => False) s) :
    WalkO q loose XP YP l.row.toRowW d [] (fun f vs => PySem.call f vs) := by
  intro w s₀ s₁ mg mb G Y fa o pm cd doc dV kV ho hd hcd hD hmg hg args vals as hpre hlay hrd hwl hlo
  obtain rfl : dV = .none := Dflts.none hD hdf
  obtain rfl : kV = .none := Dflts.noKw hD
  obtain ⟨a, vs, ns, rfl, rfl, hobj, hints, hlen⟩ := script_of hn hpre hwl
  refine enter_call ?_
  refine call_cells_ret (o := o) (by rw [depth_caller]; decide) ho (fd_plain hd) G.T.nolimit hcd (hbind pm cd doc (.ref a)) (fun y hy => ?_) (fun h₁ tk F X => ?_) hco hgen hk
  · obtain rfl : y = (x, Value.ref a) := List.mem_singleton.mp hy
    rcases hx with e | e
    · exact .inl e
    · exact .inr ⟨e, cellsFrom_some _ _ _ (.inl e)⟩
  · refine wpAny_mono (body w s₀ s₁ { s₁ with heap := h₁, toks := tk } mg mb fa o pm cd doc a vs ns G Y ho (fd_plain hd) hcd hmg hobj hints hlen hg rfl F X) (fun f s' hq => ?_) (fun _ _ hq => hq)
    obtain ⟨rfl, h2, h3, h4⟩ := hq
    exact ⟨.inl ⟨.bool true, .bool true, [], rfl, fun _ => rfl, .bool true, post_true l _, fun _ => ⟨List.Pairwise.nil, fun _ hm => (nomatch hm)⟩⟩, h2, h3, h4⟩

/-- the same from a codeAny of the CALL (for a layer whose function contracts speak of calls) -/
theorem attach_call {l : OpenLaw} {n : Nat} {q : Program} {loose : List Str} {XP : (Str → Option Value) → Heap → Prop} {YP : World → Heap → Prop} {d : DefRec}
    (hn : l.most = some n) (hdf : d.params.defaults = [])
    (call : ∀ (w : World) (s₀ s₁ : Shared) (mg mb : Str → Option Value) (fa : Addr) (o : Obj) (pm cd doc : Value) (a : Addr) (vs : List Value) (ns : List Int),
      Ground q loose [] XP w s₀ mg mb s₁.heap → YP w s₁.heap →
      s₁.heap.get? fa = some o → o.data = .func (docDef d.name d.params d.body d.scope pm cd doc) → s₁.heap.CodeRec cd d.name → mg d.name = some (.ref fa) →
      s₁.heap.get? a = some { cls := .type "list", data := .seq vs.toArray } → IntsAre vs ns → ns.length ≤ n → s₁.gens = #[] →
      codeAny (model l.prog w) callerA (.call (.ref fa) ⟨[.ref a], []⟩) (fun r s' => r = .ok (.ret (.bool true)) ∧ OldK s₁.heap s'.heap ∧ s'.os = s₁.os ∧ AllBare s'.gens) s₁) :
    WalkO q loose XP YP l.row.toRowW d [] (fun f vs => PySem.call f vs) := by
  intro w s₀ s₁ mg mb G Y fa o pm cd doc dV kV ho hd hcd hD hmg hg args vals as hpre hlay hrd hwl hlo
  obtain rfl : dV = .none := Dflts.none hD hdf
  obtain rfl : kV = .none := Dflts.noKw hD
  obtain ⟨a, vs, ns, rfl, rfl, hobj, hints, hlen⟩ := script_of hn hpre hwl
  refine enter_call (codeAny_mono (call w s₀ s₁ mg mb fa o pm cd doc a vs ns G Y ho (fd_plain hd) hcd hmg hobj hints hlen hg) fun r s' hq => ?_)
  obtain ⟨rfl, h2, h3, h4⟩ := hq
  exact ⟨.inl ⟨.bool true, .bool true, [], rfl, fun _ => rfl, .bool true, post_true l _, fun _ => ⟨List.Pairwise.nil, fun _ hm => (nomatch hm)⟩⟩, h2, h3, h4⟩

/-- the same where the top left finished generators (o_head chose holds_openN): nothing may have changed at all and no generator may be left -/
theorem attachN {l : OpenLaw} {n : Nat} {q : Program} {loose : List Str} {XP : (Str → Option Value) → Heap → Prop} {YP : World → Heap → Prop} {d : DefRec} {x : Str}
    (hn : l.most = some n) (hdf : d.params.defaults = [])
    (hbind : ∀ pm cd doc v : Value, bindArgs (docDef d.name d.params d.body d.scope pm cd doc) ⟨[v], []⟩ = pure [(x, v)])
    (hx : d.scope.names.lookup x = some .local ∨ d.scope.names.lookup x = some .cell)
    (hk : d.scope.kind = .function) (hco : d.scope.isCoroutine = false) (hgen : d.scope.isGenerator = false)
    (body : ∀ (w : World) (s₀ s₁ s : Shared) (mg mb : Str → Option Value) (fa : Addr) (o : Obj) (pm cd doc : Value) (a : Addr) (vs : List Value) (ns : List Int),
      Ground q loose [] XP w s₀ mg mb s₁.heap → YP w s₁.heap →
      s₁.heap.get? fa = some o → o.data = .func (docDef d.name d.params d.body d.scope pm cd doc) → s₁.heap.CodeRec cd d.name → mg d.name = some (.ref fa) →
      s₁.heap.get? a = some { cls := .type "list", data := .seq vs.toArray } → IntsAre vs ns → ns.length ≤ n →
      s.gens = #[] → s.os = s₁.os →
      Fr s₁.heap s₁.heap.objs.size s.heap (bindL (envOfC d.name d.scope s₁.heap.objs.size fa cd).kindOf [(x, .ref a)] fun _ => none) →
      Cl s₁.heap.objs.size (cellsFrom (s₁.heap.objs.size + 1) d.scope.names []) s.heap (bindC (envOfC d.name d.scope s₁.heap.objs.size fa cd).kindOf [(x, .ref a)] fun _ => none) →
      wpAny (model l.prog w) (callerA.deeper (envOfC d.name d.scope s₁.heap.objs.size fa cd)) (execs d.body (envOfC d.name d.scope s₁.heap.objs.size fa cd))
        (fun f s' => f = .ret (.bool true) ∧ (∀ b o, s₁.heap.get? b = some o → s'.heap.get? b = some o) ∧ s'.os = s₁.os ∧ s'.gens = #[]) (fun _ _ => False) s) :
    WalkN q loose XP YP l.row.toRowW d [] (fun f vs => PySem.call f vs) := by
  intro w s₀ s₁ mg mb G Y fa o pm cd doc dV kV ho hd hcd hD hmg hg args vals as hpre hlay hrd hwl hlo
  obtain rfl : dV = .none := Dflts.none hD hdf
  obtain rfl : kV = .none := Dflts.noKw hD
  obtain ⟨a, vs, ns, rfl, rfl, hobj, hints, hlen⟩ := script_of hn hpre hwl
  refine enter_callW ?_
  refine call_cells_ret (o := o) (by rw [depth_caller]; decide) ho (fd_plain hd) G.T.nolimit hcd (hbind pm cd doc (.ref a)) (fun y hy => ?_) (fun h₁ tk F X => ?_) hco hgen hk
  · obtain rfl : y = (x, Value.ref a) := List.mem_singleton.mp hy
    rcases hx with e | e
    · exact .inl e
    · exact .inr ⟨e, cellsFrom_some _ _ _ (.inl e)⟩
  · refine wpAny_mono (body w s₀ s₁ { s₁ with heap := h₁, toks := tk } mg mb fa o pm cd doc a vs ns G Y ho (fd_plain hd) hcd hmg hobj hints hlen hg rfl F X) (fun f s' hq => ?_) (fun _ _ hq => hq)
    obtain ⟨rfl, h2, h3, h4⟩ := hq
    exact ⟨.inl ⟨.bool true, .bool true, [], rfl, fun _ => rfl, .bool true, post_true l _, fun _ => ⟨List.Pairwise.nil, fun _ hm => (nomatch hm)⟩⟩, h2, h3, h4⟩

/-! ### rules over ANY heap (no ledger) from facts about the written part K: the library's own take a ledger (News) for what they write -/
section
variable {prog : Program} {w : World} {A : Around} {E : Value → Shared → Prop} {s : Shared} {K : Frag}

/-- a def of the module, or a method (qual 'C.m'), entered: the frame is the next address; cells behind it -/
theorem call_fn {R : Result → Shared → Prop} {name qual : Str} {params : Arguments} {body : List Stmt} {scope : Scope} {dV kV doc pm cdv ct oc : Value} {an od : Option Addr} {osl : Array (Option Value)} {f : Addr} {args : Args} {binds : List (Str × Value)}
    (X : K.In s.heap) (hlim : s.heap.NoLimit) (ho : K.lookup f = some ⟨oc, od, .func (fnOf name qual params body scope dV kV doc pm an cdv ct), osl⟩) (hcd : codeIn K cdv qual = true) (hroom : A.depth < recursionLimit)
    (hbind : BindsTo s (fnOf name qual params body scope dV kV doc pm an cdv ct) args binds)
    (hkind : (binds.all fun y => scope.names.lookup y.1 == some .local || scope.names.lookup y.1 == some .cell) = true)
    (h : ∀ s₁, InCallC s s.heap.objs.size (bindL (envOfC qual scope s.heap.objs.size f cdv).kindOf binds fun _ => none) (cellsFrom (s.heap.objs.size + 1) scope.names [])
        (bindC (envOfC qual scope s.heap.objs.size f cdv).kindOf binds fun _ => none) s₁ →
      wpAny (model prog w) (A.deeper (envOfC qual scope s.heap.objs.size f cdv)) (execs body (envOfC qual scope s.heap.objs.size f cdv))
        (fun fl s' => R (.ok (.ret (match fl with | .ret v => v | _ => .none))) s')
        (fun e s' => wpAny (model prog w) (A.deeper (envOfC qual scope s.heap.objs.size f cdv)) (leaving (envOfC qual scope s.heap.objs.size f cdv) e) (fun _ s'' => R (.error e) s'') (fun e' s'' => R (.error e') s'') s') s₁)
    (hco : scope.isCoroutine = false) (hgen : scope.isGenerator = false) (hk : scope.kind = .function) : codeAny (model prog w) A (.call (.ref f) args) R s := by
  refine codeAny_call_function hroom (X _ _ ho) rfl hco hgen rfl (codeRec_of X hcd) (hbind _ _ _ _ ?_)
  refine wpAny_newFunctionEnv_cells hk (kindsX hkind _) fun env he s₁ x => ?_
  subst he
  exact ⟨hlim.keeps x.toInCall.keep, codeAny_func (h s₁ x)⟩

/-- C(..): dict at size, instance at size + 1, then __init__ -/
theorem make_obj {R : Result → Shared → Prop} {C fI : Addr} {rest : List Value} {kw : List (Str × Value)}
    (X : K.In s.heap) (hm : makesIn K C = true) (hi : findIn K (.ref C) "__init__" = some (some (.ref fI))) (hf : isFn K (.ref fI) = true)
    (h : codeAny (model prog w) (A.under (.builtin "type.__call__" ⟨.ref C :: rest, kw⟩)) (.call (.ref fI) ⟨.ref (s.heap.objs.size + 1) :: rest, kw⟩) (InitBack (s.heap.objs.size + 1) R)
      { s with heap := (s.heap.push emptyDict).push (instObj C s.heap.objs.size) }) : codeAny (model prog w) A (.call (.ref C) ⟨rest, kw⟩) R s := by
  obtain ⟨hh, g, d, t, os⟩ := s
  exact make_core (makes_of X hm) (looks_findIn X hi) (fun self => bind_fn X self (beq_iff_eq.mp hf)) (.inl rfl) h

/-- x.name where the instance's dict holds the name and the class does not -/
theorem get_field {x C : Addr} {ox : Obj} {es : List DictEntry} {n : Nat} {name : Str} {expr : Bool} {v : Value} {Q : Value → Shared → Prop}
    (X : K.In s.heap) (I : PySem.W.InstAt s.heap x ox C (some (dictOf es n))) (hg : plainGet K C name = true) (hh : hasDictIn K C = true) (ha : findIn K (.ref C) name = some none)
    (hl : getL name es = some (some v)) (hv : handedIn v = true) (h : Q v { s with toks := s.toks + 1 }) : wpAny (model prog w) A (getAttr (.ref x) name expr) Q E s :=
  get_value X I (plainGet_of hg).1 (findObj_own hh ha rfl hl) hv h

/-- x.m(..): the method found in the class -/
theorem get_method {x C f : Addr} {ox : Obj} {es : List DictEntry} {n : Nat} {name : Str} {pl : Sem Bool} {Q : Value × List Value → Shared → Prop}
    (X : K.In s.heap) (I : PySem.W.InstAt s.heap x ox C (some (dictOf es n))) (hg : plainGet K C name = true) (hf : findIn K (.ref C) name = some (some (.ref f))) (ht : isFn K (.ref f) = true)
    (hl : getL name es = some none) (h : Q (.ref f, [.ref x]) s) : wpAny (model prog w) A (getMethod (.ref x) name pl) Q E s :=
  method_fn X I (plainGet_of hg).1 (plainGet_of hg).2 hf (beq_iff_eq.mp ht) (by show (lookIn name (dictOf es n)).map _ = _; rw [lookIn_dict, hl]; rfl) h

/-! the whole heap as the ledger: makes every rule that writes through a ledger a rule over any heap -/
def noObjs (h : Heap) : Heap := { h with objs := #[] }
theorem noObjs_get (h : Heap) (b : Addr) : (noObjs h).get? b = none := by
  cases e : (noObjs h).get? b with
  | none => rfl
  | some o => exact absurd (Heap.lt_size e) (Nat.not_lt_zero _)
def ledger (h : Heap) (L d : Addr) : List (Addr × Obj) := (List.range h.objs.size).filterMap fun a => if a = L ∨ a = d then none else (h.get? a).map fun o => (a, o)
theorem mem_ledger {h : Heap} {L d a : Addr} {o : Obj} : (a, o) ∈ ledger h L d ↔ a ≠ L ∧ a ≠ d ∧ h.get? a = some o := by
  unfold ledger
  rw [List.mem_filterMap]
  constructor
  · rintro ⟨b, _, e⟩
    split at e
    · cases e
    · rename_i hb
      obtain ⟨o', ho, e'⟩ := Option.map_eq_some_iff.mp e
      cases e'
      exact ⟨fun q => hb (.inl q), fun q => hb (.inr q), ho⟩
  · rintro ⟨n1, n2, ho⟩
    refine ⟨a, List.mem_range.mpr (Heap.lt_size ho), ?_⟩
    rw [if_neg (show ¬ (a = L ∨ a = d) from fun q => q.elim n1 n2), ho] <;> rfl
theorem news_ledger {h : Heap} {L d : Addr} {od : Obj} (hne : d ≠ L) (ho : h.get? d = some od) : News (noObjs h) L h ([] ++ (d, od) :: ledger h L d) := by
  rintro ⟨a, o⟩ hp
  rcases List.mem_cons.mp hp with e | hp
  · cases e
    exact ⟨ho, hne, noObjs_get _ _⟩
  · obtain ⟨n1, n2, e⟩ := mem_ledger.mp hp
    exact ⟨e, n1, noObjs_get _ _⟩
theorem fr_all {h : Heap} {L : Addr} {m : Str → Option Value} (n : h.Ns L m) : Fr (noObjs h) L h m :=
  ⟨n, fun b o e => (by rw [noObjs_get] at e; cases e), Nat.zero_le _⟩
/-- Upd of the head entry (for append_K, setItem_K ..) -/
theorem upd_ledger {h : Heap} {L d : Addr} {o o' : Obj} : Upd d o o' ((d, o) :: ledger h L d) ((d, o') :: ledger h L d) :=
  .head fun ⟨_, _⟩ hp => (mem_ledger.mp hp).2.1

/-- x.name = v over any heap: L is any namespace of the heap (the frame's, say): its map stays, its object is not told; all else but the dict stays -/
theorem set_field {x C dx L : Addr} {ox : Obj} {m : Str → Option Value} {es es' : List DictEntry} {n n' : Nat} {name : Str} {v : Value} {Q : Unit → Shared → Prop}
    (X : K.In s.heap) (I : PySem.W.InstAt s.heap x ox C (some (dictOf es n))) (hd : ox.dict = some dx) (hL : s.heap.Ns L m) (hne : dx ≠ L)
    (hs : findIn K (.ref C) "__setattr__" = some (some (.builtin "object.__setattr__"))) (hp : plainOver K C = true) (ht : takerIn K C name = some none) (hh : hasDictIn K C = true) (hl : (getL name es).isSome = true)
    (e : (putL name (PyData.keyHash w.params name) (.str name (s.toks + 1)) v es, putN name es n) = (es', n')) (hz : es'.length ≤ 1000)
    (h : ∀ h' : Heap, h'.Ns L m → h'.get? dx = some (dictOf es' n') → (∀ b o, b ≠ dx → b ≠ L → s.heap.get? b = some o → h'.get? b = some o) → Q () { s with heap := h', toks := s.toks + 2 }) :
    wpAny (model prog w) A (setAttr (.ref x) name v) Q E s := by
  obtain ⟨e1, e2⟩ := Prod.mk.inj e
  have hdx : s.heap.get? dx = some (dictOf es n) := by
    have := I.dict
    rw [hd] at this
    exact this
  refine set_plain X I hs (osa_dict (s := { s with toks := s.toks + 1 }) (h₀ := noObjs s.heap) (L := L) (m := m) (od := dictOf es n) (od' := dictOf es' n') (es := es') (n := n') (pre := []) (post := ledger s.heap L dx)
    (fr_all hL) (news_ledger hne hdx) X I hd hp ht hh hl (fun _ q => nomatch q) (fun ⟨_, _⟩ q => (mem_ledger.mp q).2.1) (by rw [putName_dict, e1, e2]) rfl hz fun h' F' N' => ?_)
  exact h h' F'.ns (N'.get (List.Mem.head _)) fun b o n1 n2 ho => N'.get (List.Mem.tail _ (mem_ledger.mpr ⟨n2, n1, ho⟩))
end
end Att
namespace L2
open PySem PySem.Spec PyProof.Rows

theorem vals_ints : ∀ {vs : List Value} {ns : List Int}, IntsAre vs ns → Vals (ns.map V.int) vs
  | _, _, .nil => .nil
  | _, _, .cons n t h => .cons ⟨t, rfl⟩ (vals_ints h)

/-- nothing is tracked but the script, known to the object (or it is an object of the module) -/
def Only (H : Hp) : Prop := ∀ b, H b = none ∨ ∃ o xs, H b = some (.frz o (.lst xs))

/-- THE HEAD: the law's promise, at the heap behind the top. F, the promise of the law's def, may use that base is part of the heap (so K.In base, base.Ns mainGlobals mg stand in Mod) -/
theorem law_call {P : Program} {w : World} {K : PySem.W.Frag} {mg mb : Str → Option Value} {CX : CXT} {k : Nat} {fa a : Addr} {fd : FuncData} {x : Str} {sp : Sp} {s₁ : Shared} {vs : List Value} {ns : List Int}
    (KX : K.In s₁.heap) (hns : s₁.heap.Ns mainGlobals mg) (hb : s₁.heap.Ns builtinsNs mb) (hbb : ∀ x : Str, x ≠ "__name__" → mb x = bootBuiltins x) (hlim : s₁.heap.NoLimit) (hg : s₁.gens = #[])
    (ha : s₁.heap.get? a = some { cls := .type "list", data := .seq vs.toArray }) (hi : IntsAre vs ns) (hl : ns.length ≤ sizeLine) (hr : Room k callerA)
    (F : ∀ base : Heap, K.In base → base.Ns mainGlobals mg → FnOk P w K mg base CX k fa fd [x] sp) (hbind : ∀ (s : Shared) (u : Value), BindsTo s fd ⟨[u], []⟩ [(x, u)])
    (hsp : ∀ H : Hp, Only H → SqL K H a (ns.map V.int) → sp [.ref a] H (fun v _ => v = .bl true) fun _ _ _ => False)
    (hCX : ∀ H e s', CX [] H s₁ (fun _ _ _ => False) e s' → False) :
    codeAny (model P w) callerA (.call (.ref fa) ⟨[.ref a], []⟩) (fun r s' => r = .ok (.ret (.bool true)) ∧ OldK s₁.heap s'.heap ∧ s'.os = s₁.os ∧ AllBare s'.gens) s₁ := by
  have rv := vals_ints hi
  have lenV := hi.length
  -- from an abstract heap in which nothing but the script may be tracked
  have core : ∀ H : Hp, Only H → SqL K H a (ns.map V.int) → HOk P w H s₁.heap → (∀ b, H b ≠ none → b = a) → (H a ≠ none → K.lookup a = none) →
      codeAny (model P w) callerA (.call (.ref fa) ⟨[.ref a], []⟩) (fun r s' => r = .ok (.ret (.bool true)) ∧ OldK s₁.heap s'.heap ∧ s'.os = s₁.os ∧ AllBare s'.gens) s₁ := by
    intro H hO hS hok hA hK
    have base_of : ∀ {b : Addr} {o : Obj}, s₁.heap.get? b = some o → H b = none → (hidT s₁.heap H).get? b = some o := fun e n => hidT_get e n
    have noA : ∀ {b : Addr} {o : Obj} {es : Array DictEntry} {ep : Nat}, s₁.heap.get? b = some o → o.data = .dict es ep → H b = none := fun {b o es ep} e d => by
      cases q : H b with
      | none => rfl
      | some u =>
        have e' : b = a := hA b (by rw [q]; simp)
        subst e'
        rw [ha] at e; cases e
        have d' : Data.seq vs.toArray _ = Data.dict es ep := d
        cases d'
    have nsK : ∀ {b : Addr} {m : Str → Option Value}, s₁.heap.Ns b m → (hidT s₁.heap H).Ns b m := fun {b m} ⟨o, es, ep, e, d, r⟩ => ⟨o, es, ep, base_of e (noA e d), d, r⟩
    have hKb : K.In (hidT s₁.heap H) := fun b o e => base_of (KX b o e) (by
      cases q : H b with
      | none => rfl
      | some u =>
        have e' : b = a := hA b (by rw [q]; simp)
        subst e'
        rw [hK (by rw [q]; simp)] at e; cases e)
    have hM : Mod K mg (hidT s₁.heap H) := ⟨hKb, nsK hns, ⟨mb, nsK hb, hbb⟩, let ⟨mc, h1, h2⟩ := hlim; ⟨mc, nsK h1, h2⟩⟩
    have e0 : Env0 P w K mg (hidT s₁.heap H) callerA [] s₁ H := ⟨rfl, hM, fun b o e => of_hidT e, Nat.le_of_eq (hidT_size _ _), trivial, fun b hb => absurd (show b ∈ ([] : List Addr) from hb) (by simp), hok, .of_eq hg⟩
    refine codeAny_mono ((F _ hKb (nsK hns)).run callerA [] s₁ H ⟨[.ref a], []⟩ [.ref a] [.ref a] _ _ hr e0 (hbind s₁ (.ref a)) (.cons rfl .nil) (hsp H hO hS)) fun r s' h => ?_
    cases r with
    | error e => exact (hCX H e s' h).elim
    | ok fl =>
      cases fl with
      | next => exact False.elim h
      | brk => exact False.elim h
      | cont => exact False.elim h
      | ret u =>
        obtain ⟨v, H', os, bare, un, hok', r', q⟩ := h
        have q' : v = .bl true := q
        subst q'
        obtain rfl : u = Value.bool true := r'
        refine ⟨rfl, OldK.of_keep fun b o e => ?_, os, bare⟩
        cases q : H b with
        | none => exact un.keep b o e q (by intro z; exact absurd (show b ∈ ([] : List Addr) from z) (by simp)) (by simp)
        | some u =>
          rcases hO b with z | ⟨ob, xs, z⟩
          · rw [q] at z; cases z
          · have z2 := un.frzs b ob _ z
            obtain ⟨e1, _⟩ := hok b _ z
            obtain ⟨e2, _⟩ := hok' b _ z2
            rw [e] at e1; cases e1
            exact e2
  cases hk : K.lookup a with
  | some o =>
    -- the script is one of the module's own objects
    have e := KX a o hk
    rw [ha] at e
    cases e
    refine core (fun _ => none) (fun _ => .inl rfl) (.inr ⟨_, vs.toArray, _, hk, rfl, rfl, rfl, by rw [List.size_toArray, lenV]; exact hl, by simpa using rv⟩) (fun b u z => by have z' : (none : Option HO) = some u := z; cases z') (fun b z => absurd rfl z) fun z => absurd rfl z
  | none =>
    refine core (fun b => if b = a then some (.frz { cls := .type "list", data := .seq vs.toArray } (.lst (ns.map V.int))) else none) (fun b => ?_) (.inl (.inr ⟨{ cls := .type "list", data := .seq vs.toArray }, if_pos rfl⟩)) (fun b u z => ?_) (fun b z => ?_) fun _ => hk
    · by_cases hb : b = a
      · exact .inr ⟨_, _, if_pos hb⟩
      · exact .inl (if_neg hb)
    · by_cases hb : b = a
      · have z' := (if_pos hb).symm.trans z
        cases z'
        subst hb
        exact ⟨ha, by rw [List.length_map]; exact hl, vs, _, rv, ha⟩
      · have z' := (if_neg hb).symm.trans z
        cases z'
    · by_cases hb : b = a
      · exact hb
      · exact absurd (if_neg hb) z
end L2
namespace L2
open PySem PySem.Spec PyProof.Rows

abbrev KOf {K : PySem.W.Frag} {h : Heap} (_ : K.In h) : PySem.W.Frag := K

/-- the goal that k_head leaves (case hc), from the law's promise. F gives the function object fd (K's own) once, then the promise over every base -/
theorem walk_of {l : PySem.W.OpenLaw} {n k : Nat} {q : Program} {loose : List Str} {XP : (Str → Option Value) → Heap → Prop} {YP : World → Heap → Prop} {d : DefRec} {K : Params → PySem.W.Frag} {CX : World → CXT} {sp : World → Sp} {x : Str}
    (hn : l.most = some n) (hn2 : n ≤ sizeLine) (hdf : d.params.defaults = []) (hr : Room k callerA)
    (hY : ∀ (w : World) (h : Heap), YP w h → (K w.params).In h)
    (F : ∀ (w : World) (mg : Str → Option Value) (fa : Addr) (h : Heap), (K w.params).In h → h.Ns mainGlobals mg → mg d.name = some (.ref fa) →
      ∃ fd : FuncData, (∀ (s : Shared) (u : Value), BindsTo s fd ⟨[u], []⟩ [(x, u)]) ∧
        ∀ base : Heap, (K w.params).In base → base.Ns mainGlobals mg → FnOk l.prog w (K w.params) mg base (CX w) k fa fd [x] (sp w))
    (hsp : ∀ (w : World) (H : Hp) (a : Addr) (ns : List Int), ns.length ≤ n → Only H → SqL (K w.params) H a (ns.map V.int) → sp w [.ref a] H (fun v _ => v = .bl true) fun _ _ _ => False)
    (hCX : ∀ (w : World) (H : Hp) (s : Shared) (e : Value) (s' : Shared), CX w [] H s (fun _ _ _ => False) e s' → False) :
    PySem.W.WalkO q loose XP YP l.row.toRowW d [] (fun f vs => PySem.call f vs) := by
  refine Att.attach_call hn hdf fun w s₀ s₁ mg mb fa o pm cd doc a vs ns G Y ho hd hcd hmg hobj hints hlen hg => ?_
  have KX := hY w _ Y
  obtain ⟨fd, hb, hF⟩ := F w mg fa _ KX G.T.g hmg
  exact law_call KX G.T.g G.T.b G.T.builtins G.T.nolimit hg hobj hints (Nat.le_trans hlen hn2) hr hF hb (fun H hO hS => hsp w H a ns hlen hO hS) fun H e s' => hCX w H s₁ e s'
/-- the same where the promise hangs on the written part alone: (sp := My.sp_law), no hole under a binder -/
theorem walk_ofK {l : PySem.W.OpenLaw} {n k : Nat} {q : Program} {loose : List Str} {XP : (Str → Option Value) → Heap → Prop} {YP : World → Heap → Prop} {d : DefRec} {K : Params → PySem.W.Frag} {CX : CXT} {sp : PySem.W.Frag → Sp} {x : Str}
    (hn : l.most = some n) (hn2 : n ≤ sizeLine) (hdf : d.params.defaults = []) (hr : Room k callerA)
    (hY : ∀ (w : World) (h : Heap), YP w h → (K w.params).In h)
    (F : ∀ (w : World) (mg : Str → Option Value) (fa : Addr) (h : Heap), (K w.params).In h → h.Ns mainGlobals mg → mg d.name = some (.ref fa) →
      ∃ fd : FuncData, (∀ (s : Shared) (u : Value), BindsTo s fd ⟨[u], []⟩ [(x, u)]) ∧
        ∀ base : Heap, (K w.params).In base → base.Ns mainGlobals mg → FnOk l.prog w (K w.params) mg base CX k fa fd [x] (sp (K w.params)))
    (hsp : ∀ (K : PySem.W.Frag) (H : Hp) (a : Addr) (ns : List Int), ns.length ≤ n → Only H → SqL K H a (ns.map V.int) → sp K [.ref a] H (fun v _ => v = .bl true) fun _ _ _ => False)
    (hCX : ∀ (H : Hp) (s : Shared) (e : Value) (s' : Shared), CX [] H s (fun _ _ _ => False) e s' → False) :
    PySem.W.WalkO q loose XP YP l.row.toRowW d [] (fun f vs => PySem.call f vs) :=
  walk_of (K := K) (CX := fun _ => CX) (sp := fun w => sp (K w.params)) hn hn2 hdf hr hY F (fun w H a ns h1 h2 h3 => hsp (K w.params) H a ns h1 h2 h3) fun _ H s e s' => hCX H s e s'
end L2


/-! SHORT WORDS over the layer: a def of the text, its body, what a loop and a test want. -/
namespace L2
open PySem PySem.Spec PyProof.Rows

/-! ### the text by places -/
/-- the j-th statement of a class's body -/
def inClass (s : Stmt) (j : Nat) : Stmt := match s with
  | .ClassDef _ _ _ body _ _ _ _ _ _ _ => body.getD j (.Pass ⟨0, 0, 0, 0⟩)
  | _ => .Pass ⟨0, 0, 0, 0⟩
def defArgs (s : Stmt) : Arguments := match s with
  | .FunctionDef _ a _ _ _ _ _ _ _ _ => a
  | _ => { posonlyargs := [], args := [], vararg := none, kwonlyargs := [], kw_defaults := [], kwarg := none, defaults := [] }
def defBody (s : Stmt) : List Stmt := match s with
  | .FunctionDef _ _ b _ _ _ _ _ _ _ => b
  | _ => []
def defScope (s : Stmt) : Scope := match s with
  | .FunctionDef _ _ _ _ _ _ sc _ _ _ => sc
  | _ => { kind := .function, names := [], isGenerator := false, isCoroutine := false }

/-! ### no exception leaves a def -/
abbrev CX0 : CXT := fun _ _ _ _ _ _ => False
abbrev E0 : XK := fun _ _ _ => False
theorem pass0 {X : Cx} : Passes CX0 X E0 := fun _ _ _ _ _ _ _ h => h.elim

/-! ### a def (or method) of the text as it stands behind the top -/
structure Fun (K : PySem.W.Frag) (x qual : Str) (st : Stmt) (f : Addr) (fd : FuncData) : Prop where
  ex : ∃ (oc : Value) (od : Option Addr) (kV doc pm : Value) (an : Option Addr) (cdv ct : Value) (osl : Array (Option Value)),
    fd = PySem.W.fnOf x qual (defArgs st) (defBody st) (defScope st) .none kV doc pm an cdv ct ∧ K.lookup f = some ⟨oc, od, .func fd, osl⟩ ∧ PySem.W.codeIn K cdv qual = true
  kp : PySem.W.keepIn K (.ref f) = true
section
variable {P : Program} {w : World} {K : PySem.W.Frag} {mg : Str → Option Value} {base : Heap}
/-- THE RULE for a def: its body as a term of rules, and the reading of that term -/
theorem Fun.ok {x qual : Str} {st : Stmt} {f : Addr} {fd : FuncData} {N ps : List Str} {k : Nat} {sp : Sp} (F : Fun K x qual st f fd) (S : FnScope N ps (defScope st)) (len : ∀ vs H Q E, sp vs H Q E → vs.length = ps.length)
    (hbody : ∀ (cdv : Value) (A : Around) (outer : List Env) (s : Shared) (H : Hp) (vs : List V) (Q : VK) (E : XK), Room k (A.deeper (envOfC qual (defScope st) s.heap.objs.size f cdv)) → sp vs H Q E →
      ∃ t, PSs (cxOf CX0 P w K mg base N qual (defScope st) f cdv A outer s H E).nox (defBody st) t ∧ t { nx := fun _ H' => Q .non H', rt := Q } (start N vs) H) : FnOk P w K mg base CX0 (k + 1) f fd ps sp := by
  obtain ⟨oc, od, kV, doc, pm, an, cdv, ct, osl, rfl, lk, hcd⟩ := F.ex
  refine fn_of lk hcd S len fun A outer s H vs Q E hr hsp => ?_
  obtain ⟨t, h, q⟩ := hbody cdv A outer s H vs Q E hr hsp
  exact ⟨t, h.nox, q⟩
/-- how its arguments bind (no defaults): h is «fun _ _ _ _ _ _ us hl => match us, hl with | [_, _], _ => rfl», one _ a parameter -/
theorem Fun.binds {x qual : Str} {st : Stmt} {f : Addr} {fd : FuncData} {ps : List Str} (F : Fun K x qual st f fd)
    (h : ∀ (kV doc pm : Value) (an : Option Addr) (cdv ct : Value) (us : List Value), us.length = ps.length → bindArgs (PySem.W.fnOf x qual (defArgs st) (defBody st) (defScope st) .none kV doc pm an cdv ct) ⟨us, []⟩ = pure (ps.zip us)) : Binds K fd ps [] := by
  obtain ⟨oc, od, kV, doc, pm, an, cdv, ct, osl, rfl, lk, hcd⟩ := F.ex
  exact .all (h kV doc pm an cdv ct)
theorem fun_mk {x qual : Str} {st : Stmt} {f : Addr} {oc : Value} {od an : Option Addr} {osl : Array (Option Value)} {kV doc pm cdv ct : Value} (l : K.lookup f = some ⟨oc, od, .func (PySem.W.fnOf x qual (defArgs st) (defBody st) (defScope st) .none kV doc pm an cdv ct), osl⟩)
    (c : PySem.W.codeIn K cdv qual = true) (k : PySem.W.keepIn K (.ref f) = true) : Fun K x qual st f (PySem.W.fnOf x qual (defArgs st) (defBody st) (defScope st) .none kV doc pm an cdv ct) := ⟨⟨oc, od, kV, doc, pm, an, cdv, ct, osl, rfl, l, c⟩, k⟩
end
theorem hu_of {A : Around} {k : Nat} (hr : Room k A) : A.units + 1 < cLine := Nat.lt_of_le_of_lt (Nat.add_le_add_left (by decide : 1 ≤ 64) _) hr.units
theorem small1000 {n : Nat} (h : n ≤ 1000) : n < sizeLine := Nat.lt_of_le_of_lt h (by decide)

/-! ### expressions in short: the name that stands in the i-th slot -/
section
variable {X : Cx}
theorem pv (i : Nat) {x : Str} {pos : Pos} (hN : X.N[i]? = some x := by rfl) (hv : Vis X.env.scope x := by first | exact Or.inl rfl | exact Or.inr (Or.inl rfl) | exact Or.inr (Or.inr rfl)) (hd : (x == ("__debug__" : Str)) = false := by decide)
    (hcd : (x == ("__classdict__" : Str)) = false := by decide) : PE X (.Name x pos) (tVar i) := pe_var hN hv hd hcd
/-- len of a dict -/
theorem call_lenD : CallR X (.builtin "len") (fun xs H Q => ∃ a kvs, xs = [V.ref a] ∧ H a = some (.dK kvs) ∧ Q (.int kvs.length) H) := by
  intro pins s σ H xs us Q I r h
  obtain ⟨a, kvs, rfl, ha, q⟩ := h
  obtain ⟨u, rfl, ru⟩ := vals1 r
  cases ru
  exact d_len I (.inl ha) fun t s' I' => ⟨.int kvs.length, H, I', ⟨t, rfl⟩, q⟩
end

/-! ### tests -/
theorem iteF {A B : Prop} (h : B) : if false = true then A else B := by
  rw [if_neg Bool.false_ne_true]
  exact h
theorem iteT {A B : Prop} (h : A) : if true = true then A else B := by
  rw [if_pos rfl]
  exact h
theorem ite2 {c A B : Prop} [Decidable c] (h1 : c → A) (h2 : ¬ c → B) : if c then A else B := by
  by_cases h : c
  · rw [if_pos h]
    exact h1 h
  · rw [if_neg h]
    exact h2 h
theorem iteNS {c A B : Prop} [Decidable c] (hc : c) (h : B) : if (!decide c) = true then A else B := by
  rw [decide_eq_true hc]
  exact iteF h

/-! ### heaps -/
/-- all that was tracked is as it was -/
def Same (H H' : Hp) : Prop := ∀ b o, H b = some o → H' b = some o
theorem Same.refl (H : Hp) : Same H H := fun _ _ h => h
theorem Same.trans {H H1 H2 : Hp} (a : Same H H1) (b : Same H1 H2) : Same H H2 := fun c o h => b c o (a c o h)
theorem Same.free {H H' : Hp} (e : Same H H') {l : Addr} (h : H' l = Option.none) : H l = Option.none := by
  cases q : H l with
  | none => rfl
  | some o =>
    rw [e l o q] at h
    cases h
theorem Same.seq {K : PySem.W.Frag} {H H' : Hp} {a : Addr} {xs : List V} (e : Same H H') (h : SqL K H a xs) : SqL K H' a xs := by
  rcases h with (h | ⟨o, h⟩) | h
  · exact .inl (.inl (e _ _ h))
  · exact .inl (.inr ⟨o, e _ _ h⟩)
  · exact .inr h

/-! ### a dict's pairs: keys that differ -/
section
variable {κ : Type} [DecidableEq κ]
theorem valV_not {kvs : List (κ × V)} {k : κ} (h : valV kvs k = none) : ¬ k ∈ kvs.map (·.1) := by
  intro m
  obtain ⟨p, hp, e⟩ := List.mem_map.mp m
  have q : (kvs.any fun kv => decide (kv.1 = k)) = true := List.any_eq_true.mpr ⟨p, hp, decide_eq_true e⟩
  rw [valV_any, h] at q
  exact absurd q (by simp)
theorem valV_in {kvs : List (κ × V)} {k : κ} {v : V} (h : valV kvs k = some v) : k ∈ kvs.map (·.1) := by
  have q : (kvs.any fun kv => decide (kv.1 = k)) = true := by
    rw [valV_any, h]
    all_goals rfl
  obtain ⟨p, hp, e⟩ := List.any_eq_true.mp q
  exact List.mem_map.mpr ⟨p, hp, of_decide_eq_true e⟩
theorem nd_snoc : ∀ {l : List κ} {k : κ}, l.Nodup → ¬ k ∈ l → (l ++ [k]).Nodup
  | [], k, _, _ => by simp
  | a :: r, k, h, hk => by
    obtain ⟨h1, h2⟩ := List.nodup_cons.mp h
    show (a :: (r ++ [k])).Nodup
    refine List.nodup_cons.mpr ⟨fun m => ?_, nd_snoc h2 fun m => hk (List.mem_cons.mpr (Or.inr m))⟩
    rcases List.mem_append.mp m with q | q
    · exact h1 q
    · exact hk (List.mem_cons.mpr (Or.inl (List.mem_singleton.mp q).symm))
theorem nd_putK {kvs : List (κ × V)} {k : κ} (v : V) (hn : (kvs.map (·.1)).Nodup) (h : valV kvs k = none) : ((putK kvs k v).map (·.1)).Nodup := by
  rw [putK_new v h, List.map_append]
  exact nd_snoc hn (valV_not h)
theorem dropK_pos {p : κ × V} {r : List (κ × V)} {k : κ} (e : p.1 = k) : dropK (p :: r) k = dropK r k := by
  unfold dropK
  rw [List.filter_cons, if_neg (by simp [e])]
theorem dropK_neg {p : κ × V} {r : List (κ × V)} {k : κ} (e : ¬ p.1 = k) : dropK (p :: r) k = p :: dropK r k := by
  unfold dropK
  rw [List.filter_cons, if_pos (by simp [e])]
theorem dropK_no : ∀ {kvs : List (κ × V)} {k : κ}, ¬ k ∈ kvs.map (·.1) → dropK kvs k = kvs
  | [], _, _ => rfl
  | p :: r, k, h => by
    have h' : ¬ k ∈ r.map (·.1) := fun m => by
      obtain ⟨q, hq, e⟩ := List.mem_map.mp m
      exact h (List.mem_map.mpr ⟨q, List.mem_cons.mpr (Or.inr hq), e⟩)
    rw [dropK_neg fun e => h (List.mem_map.mpr ⟨p, List.mem_cons.mpr (Or.inl rfl), e⟩), dropK_no h']
theorem dropK_mem {kvs : List (κ × V)} {k : κ} {p : κ × V} (h : p ∈ dropK kvs k) : p ∈ kvs := (List.mem_filter.mp h).1
theorem nd_dropK : ∀ {kvs : List (κ × V)} {k : κ}, (kvs.map (·.1)).Nodup → ((dropK kvs k).map (·.1)).Nodup
  | [], _, _ => List.nodup_nil
  | p :: r, k, h => by
    have h : (p.1 :: r.map (·.1)).Nodup := h
    obtain ⟨h1, h2⟩ := List.nodup_cons.mp h
    by_cases e : p.1 = k
    · rw [dropK_pos e]
      exact nd_dropK h2
    · rw [dropK_neg e]
      show (p.1 :: (dropK r k).map (·.1)).Nodup
      refine List.nodup_cons.mpr ⟨fun m => h1 ?_, nd_dropK h2⟩
      obtain ⟨q, hq, eq⟩ := List.mem_map.mp m
      exact List.mem_map.mpr ⟨q, dropK_mem hq, eq⟩
theorem dropK_len : ∀ {kvs : List (κ × V)} {k : κ}, (kvs.map (·.1)).Nodup → k ∈ kvs.map (·.1) → (dropK kvs k).length + 1 = kvs.length
  | [], _, _, m => by simp at m
  | p :: r, k, h, m => by
    have h : (p.1 :: r.map (·.1)).Nodup := h
    have m : k = p.1 ∨ k ∈ r.map (·.1) := List.mem_cons.mp m
    obtain ⟨h1, h2⟩ := List.nodup_cons.mp h
    by_cases e : p.1 = k
    · subst e
      rw [dropK_pos rfl, dropK_no h1]
      all_goals rfl
    · have m' : k ∈ r.map (·.1) := m.resolve_left fun z => e z.symm
      have q := dropK_len h2 m'
      rw [dropK_neg e, List.length_cons, List.length_cons]
      omega
end
end L2


namespace L2
open PySem PySem.Spec PyProof.Rows

/-! ### a comprehension's block -/
theorem HOk.off {P : Program} {w : World} {H : Hp} {h h' : Heap} {C : Addr} (ok : HOk P w H h) (hC : H C = none) (k : ∀ b u, b ≠ C → h.get? b = some u → h'.get? b = some u) : HOk P w H h' := by
  intro a o e
  have ne : a ≠ C := by rintro rfl; rw [hC] at e; cases e
  refine (ok a o e).stay (fun b u hb q => k b u ?_ q) (fun _ x => x) (fun _ _ x => x)
  rcases hb with rfl | hb
  · exact ne
  · rintro rfl; rw [hC] at hb; cases hb

def clOf (env : Env) : List (Str × NameKind) → List (Str × Addr) → List (Str × Addr)
  | [], acc => acc
  | (n, k) :: r, acc => if (k == NameKind.free) = true then clOf env r ((n, (env.cells.lookup n).getD 0) :: acc) else clOf env r acc

theorem closure_cl {env : Env} {scope : Scope} (h : ∀ y ∈ scope.names, y.2 = .free → ∃ c, env.cells.lookup y.1 = some c) : closureFor scope env = pure (clOf env scope.names []) := by
  have key : ∀ (names : List (Str × NameKind)) (acc : List (Str × Addr)), (∀ y ∈ names, y.2 = .free → ∃ c, env.cells.lookup y.1 = some c) →
      (forIn names acc (fun (x : Str × NameKind) (r : List (Str × Addr)) => match x with
        | (name, kind) => if (kind == NameKind.free) = true then do let a ← cellOf env name; pure (ForInStep.yield ((name, a) :: r)) else pure (ForInStep.yield r)) : Sem (List (Str × Addr))) = pure (clOf env names acc) := by
    intro names
    induction names with
    | nil => intro acc _; rfl
    | cons y r ih =>
      intro acc hy
      obtain ⟨n, k⟩ := y
      have hr := fun a => ih a fun z hz => hy z (List.mem_cons_of_mem _ hz)
      rw [List.forIn_cons]
      unfold clOf
      by_cases hk : (k == NameKind.free) = true
      · have hk' : k = .free := by simpa using hk
        obtain ⟨c, hc⟩ := hy (n, k) List.mem_cons_self hk'
        have e : cellOf env n = pure c := by unfold cellOf; rw [hc]
        simp only [hk, if_true, e, hc, Option.getD_some]
        exact hr _
      · simp only [hk, if_false]
        exact hr _
  have k := key scope.names [] h
  unfold closureFor
  dsimp only
  rw [k]
  rfl

theorem clOf_look {env : Env} {x : Str} {c : Addr} : ∀ (names : List (Str × NameKind)) (acc : List (Str × Addr)), (∀ y ∈ names, y.2 = .free → ∃ c, env.cells.lookup y.1 = some c) →
    (∀ d, acc.lookup x = some d → env.cells.lookup x = some d) → (clOf env names acc).lookup x = some c → env.cells.lookup x = some c
  | [], acc, _, ha, h => ha c h
  | (n, k) :: r, acc, hy, ha, h => by
    unfold clOf at h
    have hr := fun z hz => hy z (List.mem_cons_of_mem _ hz)
    by_cases hk : (k == NameKind.free) = true
    · rw [if_pos hk] at h
      refine clOf_look r _ hr (fun d hd => ?_) h
      have hk' : k = .free := by simpa using hk
      obtain ⟨c', hc⟩ := hy (n, k) List.mem_cons_self hk'
      rw [List.lookup_cons] at hd
      cases hx : x == n with
      | true =>
        rw [hx] at hd
        have e : x = n := by simpa using hx
        rw [e, hc]
        rw [hc] at hd
        exact hd
      | false =>
        rw [hx] at hd
        exact ha d hd
    · rw [if_neg hk] at h
      exact clOf_look r _ hr ha h
theorem clOf_acc {env : Env} {x : Str} : ∀ (names : List (Str × NameKind)) (acc : List (Str × Addr)), (∃ c, acc.lookup x = some c) → ∃ c, (clOf env names acc).lookup x = some c
  | [], _, h => h
  | (n, k) :: r, acc, h => by
    unfold clOf
    by_cases hk : (k == NameKind.free) = true
    · rw [if_pos hk]
      refine clOf_acc r _ ?_
      rw [List.lookup_cons]
      cases hx : x == n with
      | true => exact ⟨_, rfl⟩
      | false => exact h
    · rw [if_neg hk]
      exact clOf_acc r _ h
theorem clOf_has {env : Env} {x : Str} : ∀ (names : List (Str × NameKind)) (acc : List (Str × Addr)), (x, NameKind.free) ∈ names → ∃ c, (clOf env names acc).lookup x = some c
  | [], _, h => by cases h
  | (n, k) :: r, acc, h => by
    unfold clOf
    rcases List.mem_cons.mp h with e | h'
    · injection e with e1 e2
      subst e1 e2
      rw [if_pos (by rfl)]
      refine clOf_acc r _ ⟨(env.cells.lookup x).getD 0, ?_⟩
      rw [List.lookup_cons, beq_self_eq_true]
    · by_cases hk : (k == NameKind.free) = true
      · rw [if_pos hk]; exact clOf_has r _ h'
      · rw [if_neg hk]; exact clOf_has r _ h'

theorem relabel_look {env : Env} : ∀ {names : List (Str × NameKind)} {x : Str} {j : NameKind},
    (names.map fun (n, k) => if (k == NameKind.free && env.scope.kind == .function && env.kindOf n == some .cell) then (n, NameKind.cell) else (n, k)).lookup x = some j →
    ∃ k, names.lookup x = some k ∧ (j = k ∨ (k = .free ∧ j = .cell))
  | [], _, _, h => by simp at h
  | (n, k) :: r, x, j, h => by
    have h' : List.lookup x ((if (k == NameKind.free && env.scope.kind == .function && env.kindOf n == some .cell) = true then (n, NameKind.cell) else (n, k)) :: _) = some j := h
    rw [List.lookup_cons]
    cases hx : x == n with
    | true =>
      refine ⟨k, rfl, ?_⟩
      by_cases hc : (k == NameKind.free && env.scope.kind == .function && env.kindOf n == some .cell) = true
      · rw [if_pos hc, List.lookup_cons, hx] at h'
        simp only [Bool.and_eq_true, beq_iff_eq] at hc
        exact .inr ⟨hc.1.1, (Option.some.inj h').symm⟩
      · rw [if_neg hc, List.lookup_cons, hx] at h'
        exact .inl (Option.some.inj h').symm
    | false =>
      by_cases hc : (k == NameKind.free && env.scope.kind == .function && env.kindOf n == some .cell) = true
      · rw [if_pos hc, List.lookup_cons, hx] at h'
        exact relabel_look h'
      · rw [if_neg hc, List.lookup_cons, hx] at h'
        exact relabel_look h'
theorem relabel_free {env : Env} : ∀ {names : List (Str × NameKind)} {x : Str}, names.lookup x = some .free →
    (names.map fun (n, k) => if (k == NameKind.free && env.scope.kind == .function && env.kindOf n == some .cell) then (n, NameKind.cell) else (n, k)).lookup x = some .cell ∨
    (names.map fun (n, k) => if (k == NameKind.free && env.scope.kind == .function && env.kindOf n == some .cell) then (n, NameKind.cell) else (n, k)).lookup x = some .free
  | [], _, h => by simp at h
  | (n, k) :: r, x, h => by
    rw [List.map_cons]
    show List.lookup x ((if (k == NameKind.free && env.scope.kind == .function && env.kindOf n == some .cell) = true then (n, NameKind.cell) else (n, k)) :: _) = _ ∨ List.lookup x ((if (k == NameKind.free && env.scope.kind == .function && env.kindOf n == some .cell) = true then (n, NameKind.cell) else (n, k)) :: _) = _
    rw [List.lookup_cons] at h
    cases hx : x == n with
    | true =>
      rw [hx] at h
      have hk : k = .free := Option.some.inj h
      by_cases hc : (k == NameKind.free && env.scope.kind == .function && env.kindOf n == some .cell) = true
      · rw [if_pos hc, List.lookup_cons, hx]; exact .inl rfl
      · rw [if_neg hc, List.lookup_cons, hx, hk]; exact .inr rfl
    | false =>
      rw [hx] at h
      by_cases hc : (k == NameKind.free && env.scope.kind == .function && env.kindOf n == some .cell) = true
      · rw [if_pos hc, List.lookup_cons, hx]; exact relabel_free h
      · rw [if_neg hc, List.lookup_cons, hx]; exact relabel_free h

/-- the context of a comprehension's block: C its namespace, s₃, H₃ the state ahead of it, fp the iterator's records, pl the pins around -/
def blk (X : Cx) (N' : List Str) (scope : Scope) (C : Addr) (s₃ : Shared) (H₃ : Hp) (fp : List Addr) (pl : List (Addr × Obj)) : Cx :=
  { X with N := N', s₀ := s₃, H₀ := H₃, env := compEnvC scope (clOf X.env scope.names []) C X.env, outer := X.stack, ex := fp, fn := fun _ => false, calm := true, pn := X.pn ++ pl, xe := fun _ _ => False }

/-- what is asked of a comprehension's scope: X is the context around, caps says which slot around a captured name stands in -/
structure CompScope (X : Cx) (N' : List Str) (caps : List (Option Nat)) (scope : Scope) : Prop where
  kind : scope.kind = .function
  nocell : ∀ y ∈ scope.names, y.2 ≠ .cell
  names : ∀ y ∈ scope.names, y.2 = .local → scope.names.lookup y.1 = some .local
  caught : ∀ y ∈ scope.names, y.2 = .free → X.env.kindOf y.1 = some .cell ∨ X.env.kindOf y.1 = some .free
  len : caps.length = N'.length
  cap : ∀ (j i : Nat) (x : Str), caps[j]? = some (some i) → N'[j]? = some x → X.N[i]? = some x ∧ scope.names.lookup x = some .free
  nd : N'.Nodup

def capt (caps : List (Option Nat)) (σ : St) : St := caps.map fun o => o.bind fun i => (σ[i]?).join

section
variable {X : Cx} {N' : List Str} {caps : List (Option Nat)} {scope : Scope} {pins : List (Addr × Obj)} {σ : St} {H : Hp} {s₃ : Shared} {fp : List Addr}

theorem CompScope.has (S : CompScope X N' caps scope) (ok : X.Ok) : ∀ y ∈ scope.names, y.2 = .free → ∃ c, X.env.cells.lookup y.1 = some c := fun y hy e => ok.has y.1 (S.caught y hy e)
theorem CompScope.look (S : CompScope X N' caps scope) (ok : X.Ok) {x : Str} {c : Addr} (h : (clOf X.env scope.names []).lookup x = some c) : X.env.cells.lookup x = some c :=
  clOf_look scope.names [] (S.has ok) (fun _ z => by simp at z) h

/-- the block begins -/
theorem Inv.block (S : CompScope X N' caps scope) (I : Inv X pins σ H s₃) (hc : X.calm = true) (hf : ∀ b ∈ fp, FpOk X pins H b) (hlt : ∀ b ∈ fp, b < s₃.heap.objs.size) {h₄ : Heap} {t₄ : Nat} {m₄ : Str → Option Value}
    (hn : h₄.Ns s₃.heap.objs.size m₄) (hk : ∀ b o, s₃.heap.get? b = some o → h₄.get? b = some o) :
    Inv (blk X N' scope s₃.heap.objs.size s₃ H fp pins) [] (capt caps σ) H { s₃ with heap := h₄, toks := t₄ } := by
  have ok := I.ok
  have fresh : ∀ b o, s₃.heap.get? b = some o → b ≠ s₃.heap.objs.size := fun b o e => Nat.ne_of_lt (Heap.lt_size e)
  have cellOk : ∀ x c, (clOf X.env scope.names []).lookup x = some c → ∃ v, s₃.heap.IsCell c v := fun x c e => I.cell x c (S.look ok e)
  refine ⟨⟨ok.mod, ?_, ok.glob, ok.blt, Nat.le_refl _, ?_, ?_, ?_, fun _ => ok.hd hc, ok.frames, .inl rfl, ?_, I.bs, ?_, ?_, ?_, I.stack, I.stkFree⟩, rfl, I.bare, Un.kept hk, ?_, ?_, I.hok.fresh (Nat.le_refl _), ?_, ?_, I.hok.kept hk, ?_⟩
  · show (relabel scope X.env).kind = .function
    exact S.kind
  · intro x y c h1 h2
    exact ok.inj x y c (S.look ok h1) (S.look ok h2)
  · intro x hx
    have hx' : (relabel scope X.env).names.lookup x = some .cell ∨ (relabel scope X.env).names.lookup x = some .free := hx
    have key : ∀ j, (relabel scope X.env).names.lookup x = some j → j = .cell ∨ j = .free → ∃ c, (clOf X.env scope.names []).lookup x = some c := by
      intro j hj hjk
      obtain ⟨k, hk1, hk2⟩ := relabel_look hj
      have hm := PySem.mem_of_lookup hk1
      have hkf : k = .free := by
        rcases hk2 with rfl | ⟨e, _⟩
        · rcases hjk with rfl | e
          · exact absurd rfl (S.nocell _ hm)
          · exact e
        · exact e
      subst hkf
      exact clOf_has scope.names [] hm
    rcases hx' with h | h
    · exact key _ h (.inl rfl)
    · exact key _ h (.inr rfl)
  · intro x c h _
    exact absurd (show false = true from h) (by decide)
  · intro b hb
    refine ⟨Nat.ne_of_lt (hlt b hb), fun x c h => (hf b hb).2.2.2.2.1 x c (S.look ok h)⟩
  · exact Nat.le_trans ok.bsz I.sz
  · intro b o e hb
    rcases (hf b hb).2.2.2.1 with z | z
    · exact ok.noex b o e z
    · exact absurd (Nat.lt_of_lt_of_le (Heap.lt_size e) ok.bsz) (Nat.not_lt.mpr z)
  · intro b hb z
    rcases List.mem_cons.mp (I.stkSub b z) with e | e
    · exact (hf b hb).2.1 e
    · exact (hf b hb).2.2.1 e
  · refine ⟨m₄, hn, fun j x v e1 e2 e3 => ?_⟩
    have e2' : (caps.map fun o => o.bind fun i => (σ[i]?).join)[j]? = some (some v) := e2
    rw [List.getElem?_map] at e2'
    cases hcj : caps[j]? with
    | none => rw [hcj] at e2'; cases e2'
    | some oi =>
      rw [hcj] at e2'
      have e2'' : (oi.bind fun i => (σ[i]?).join) = some v := Option.some.inj e2'
      cases oi with
      | none => cases e2''
      | some i =>
        have hσ : (σ[i]?).join = some v := e2''
        have hσ' : σ[i]? = some (some v) := by
          cases hs : σ[i]? with
          | none => rw [hs] at hσ; cases hσ
          | some w => rw [hs] at hσ; rw [show w = some v from hσ]
        obtain ⟨hX, hfr⟩ := S.cap j i x hcj e1
        obtain ⟨m, _, hl⟩ := I.loc
        have hcgt := S.caught _ (PySem.mem_of_lookup hfr) rfl
        have hvis : Vis X.env.scope x := by
          rcases hcgt with z | z
          · exact .inr (.inl z)
          · exact .inr (.inr z)
        obtain ⟨u, ru, lk⟩ := hl i x v hX hσ' hvis
        refine ⟨u, ru, .inr ⟨?_, ?_⟩⟩
        · exact relabel_free hfr
        · obtain ⟨c, hcc⟩ := clOf_has (env := X.env) scope.names [] (PySem.mem_of_lookup hfr)
          refine ⟨c, hcc, ?_⟩
          rcases lk with ⟨z, _⟩ | ⟨_, c', hc', hcell⟩
          · have z' : X.env.kindOf x = some .local := z
            rcases hcgt with q | q
            · rw [z'] at q; cases q
            · rw [z'] at q; cases q
          · have := S.look I.ok hcc
            rw [this] at hc'
            cases hc'
            obtain ⟨o, ho, hd⟩ := hcell
            exact ⟨o, hk _ _ ho, hd⟩
  · intro x c h
    obtain ⟨v, o, ho, hd⟩ := cellOk x c h
    exact ⟨v, o, hk _ _ ho, hd⟩
  · intro x c h
    exact I.freeC x c (S.look ok h)
  · intro p hp
    have hp' : p ∈ X.pn ++ pins := by
      rcases List.mem_append.mp hp with z | z
      · exact z
      · cases z
    obtain ⟨e, n, ne, nf, d⟩ := I.pin p hp'
    refine ⟨hk _ _ e, n, fresh _ _ e, fun z => ?_, d⟩
    rcases List.mem_cons.mp (I.stkSub p.1 z) with q | q
    · exact ne q
    · exact nf q
  · show (caps.map _).length = N'.length
    rw [List.length_map]
    exact S.len
/-- .. and ends: what was around it is as it was -/
theorem Inv.unblock (S : CompScope X N' caps scope) (I : Inv X pins σ H s₃) (hf : ∀ b ∈ fp, FpOk X pins H b) {τ : St} {H' : Hp} {s' : Shared} (J : Inv (blk X N' scope s₃.heap.objs.size s₃ H fp pins) [] τ H' s') {h'' : Heap}
    (hs : ∀ b u, b ≠ s₃.heap.objs.size → s'.heap.get? b = some u → h''.get? b = some u) : Inv X pins σ H' { s' with heap := h'' } := by
  have hC : H' s₃.heap.objs.size = none := J.free
  have u : Un (frs X.stack) fp H H' s₃.heap h'' := by
    have b := J.base
    have ne : ∀ x o, s₃.heap.get? x = some o → x ≠ s₃.heap.objs.size := fun x o e => Nat.ne_of_lt (Heap.lt_size e)
    refine ⟨fun x o e n hx hb => hs _ _ (ne x o e) (b.keep x o e n hx hb), fun x o e n hx hb => ?_, b.free, fun x o e hb => ?_, b.tups, b.frzs, b.tbls⟩
    · obtain ⟨sl, q⟩ := b.slot x o e n hx hb
      exact ⟨sl, hs _ _ (ne x o e) q⟩
    · obtain ⟨o', q⟩ := b.there x o e hb
      exact ⟨o', hs _ _ (ne x o e) q⟩
  exact I.call' (s' := { s' with heap := h'' }) (ch := fp) J.os u (J.hok.off hC hs) J.bare fun b hb => ⟨(hf b hb).2.2.2.1, (hf b hb).2.1, (hf b hb).2.2.2.2.1, (hf b hb).2.2.2.2.2⟩
end
end L2

namespace L2
open PySem PySem.Spec PyProof.Rows

/-- the tests of a clause -/
def PIf (X : Cx) (ifs : List Expr) (t : TT) : Prop :=
  ∀ (pins : List (Addr × Obj)) (s : Shared) (σ : St) (H : Hp) (Q : Bool → Hp → Prop), Inv X pins σ H s → t σ H Q →
    wpAny (model X.prog X.w) X.A (forIn ifs true fun c r => if r = true then do let ok ← isTrue c X.env (eval c X.env); pure (ForInStep.yield ok) else pure (ForInStep.yield r)) (TP X pins σ Q) X.xe s
def tYes : TT := fun _ H Q => Q true H
theorem pif_nil {X : Cx} : PIf X [] tYes := fun pins s σ H Q I h => wpAny_tests_nil ⟨H, I, h⟩
theorem pif_one {X : Cx} {c : Expr} {t : TT} (h : PT X c t) : PIf X [c] t := fun pins s σ H Q I q => wpAny_tests_one (h pins s σ H Q I q)

def CompW (J : It) (g : TG) (tc : TT) (te : TE) (l : Addr) (Q : VK) (τ0 : St) (H0 : Hp) : Prop :=
  ∃ W : Nat → Nat → St → Hp → Prop, (∃ m, W 0 m τ0 H0) ∧ ∀ i m τ H2, W i m τ H2 →
    (J.stop i H2 ∧ Q (.ref l) H2) ∨ (J.go i H2 ∧ ∃ N : St → Hp → Prop, (∀ τ' H', N τ' H' → ∃ m', m' < m ∧ W (i + 1) m' τ' H') ∧ ∀ x H', J.yld i H2 x H' → g x τ H' fun τ2 H3 =>
      tc τ2 H3 fun b H4 => if b = true then te τ2 H4 fun y H5 => ∃ xs, H5 l = some (.lst xs) ∧ xs.length < sizeLine ∧ N τ2 (upd H5 l (.lst (xs ++ [y]))) else N τ2 H4)
def tComp (caps : List (Option Nat)) (wi : TI) (g : TG) (tc : TT) (te : TE) : TE := fun σ H Q => wi σ H fun J H1 => ∀ l, H1 l = none → CompW J g tc te l Q (capt caps σ) (upd H1 l (.lst []))

section
variable {X : Cx} {N' : List Str} {caps : List (Option Nat)} {scope : Scope} {tg iter elt : Expr} {ifs : List Expr} {pos : Pos} {wi : TI} {g : TG} {tc : TT} {te : TE}

theorem upE {M : Model} {A : Around} {α : Type} {t : Sem α} {Q : α → Shared → Prop} {E : Value → Shared → Prop} {s : Shared} (h : wpAny M A t Q (fun _ _ => False) s) : wpAny M A t Q E s := wpAny_mono h (fun _ _ q => q) fun _ _ f => f.elim

/-- the block behind its entry -/
theorem comp_loop (S : CompScope X N' caps scope) (hc : X.calm = true) (hg : ∀ C s₃ H₃ fp pl, PG (blk X N' scope C s₃ H₃ fp pl) tg g) (hif : ∀ C s₃ H₃ fp pl, PIf (blk X N' scope C s₃ H₃ fp pl) ifs tc)
    (he : ∀ C s₃ H₃ fp pl, PE (blk X N' scope C s₃ H₃ fp pl) elt te) {pins : List (Addr × Obj)} {σ : St} {H3 : Hp} {s3 : Shared} {h₁ : Heap} {t₁ : Nat} {m₁ : Str → Option Value} {it l : Addr} {fp : List Addr} {tn : Nat → Heap → Prop} {J : It}
    (I3 : Inv X pins σ H3 s3) (T : Turn X.prog X.w X.K tg J fp it tn) (st3 : tn 0 h₁) (hf3 : ∀ b ∈ fp, FpOk X pins H3 b) (hlt3 : ∀ b ∈ fp, b < s3.heap.objs.size) (hns₁ : h₁.Ns s3.heap.objs.size m₁) (keep3 : ∀ b o, s3.heap.get? b = some o → h₁.get? b = some o)
    {Q : VK} {RR : Value → Addr → Result → Shared → Prop} {W : Nat → Nat → St → Hp → Prop} {m0 : Nat} (w0 : W 0 m0 (capt caps σ) H3) (turn : ∀ i m τ H2, W i m τ H2 →
      (J.stop i H2 ∧ Q (.ref l) H2) ∨ (J.go i H2 ∧ ∃ N : St → Hp → Prop, (∀ τ' H', N τ' H' → ∃ m', m' < m ∧ W (i + 1) m' τ' H') ∧ ∀ x H', J.yld i H2 x H' → g x τ H' fun τ2 H3 =>
        tc τ2 H3 fun b H4 => if b = true then te τ2 H4 fun y H5 => ∃ xs, H5 l = some (.lst xs) ∧ xs.length < sizeLine ∧ N τ2 (upd H5 l (.lst (xs ++ [y]))) else N τ2 H4))
    (hRR : ∀ (l C : Addr) (H' : Hp) (s' : Shared), H' C = none → C ≠ X.env.locals → X.s₀.heap.objs.size ≤ C → (∀ x c, X.env.cells.lookup x = some c → c ≠ C) → (∀ p ∈ X.pn ++ pins, p.1 ≠ C) → (∃ m, s'.heap.Ns C m) → Inv X pins σ H' s' →
      (∀ h'' : Heap, (∀ b u, b ≠ C → s'.heap.get? b = some u → h''.get? b = some u) → Inv X pins σ H' { s' with heap := h'' }) → Q (.ref l) H' → RR (.ref l) C (.ok .next) s') :
    codeAny (model X.prog X.w) X.A (.compStart (.ListComp elt [⟨tg, iter, ifs, 0⟩] scope pos) 0 (.ref it) (.ref l) (compEnvC scope (clOf X.env scope.names []) s3.heap.objs.size X.env))
      (RR (.ref l) s3.heap.objs.size) { s3 with heap := h₁, toks := t₁ } := by
  have J0 : Inv (blk X N' scope s3.heap.objs.size s3 H3 fp pins) [] (capt caps σ) H3 { s3 with heap := h₁, toks := t₁ } := Inv.block S I3 hc hf3 hlt3 hns₁ keep3
  have fpB : ∀ {H' : Hp}, (∀ b ∈ fp, H' b = none) → ∀ b ∈ fp, FpOk (blk X N' scope s3.heap.objs.size s3 H3 fp pins) [] H' b := fun {H'} hn b hb => by
    obtain ⟨f0, f1, f2, f3, f4, f5⟩ := hf3 b hb
    refine ⟨hn b hb, Nat.ne_of_lt (hlt3 b hb), fun z => ?_, .inl hb, fun x c e => f4 x c (S.look I3.ok e), fun p hp => ?_⟩
    · rcases List.mem_cons.mp (I3.stkSub b z) with q | q
      · exact f1 q
      · exact f2 q
    · rcases List.mem_append.mp hp with q | q
      · exact f5 p q
      · cases q
  have fin : ∀ {τ : St} {H' : Hp} {s' : Shared}, Inv (blk X N' scope s3.heap.objs.size s3 H3 fp pins) [] τ H' s' → Q (.ref l) H' → RR (.ref l) s3.heap.objs.size (.ok .next) s' := fun {τ H' s'} J q => by
    refine hRR _ _ H' s' J.free ?_ ?_ ?_ ?_ ?_ ?_ ?_ q
    · exact (Nat.ne_of_lt I3.lt).symm
    · exact I3.sz
    · intro x c e z
      obtain ⟨v, o, ho, _⟩ := I3.cell x c e
      exact Nat.ne_of_lt (Heap.lt_size ho) z
    · intro p hp z
      obtain ⟨e, _⟩ := I3.pin p hp
      exact Nat.ne_of_lt (Heap.lt_size e) z
    · obtain ⟨m, hm, _⟩ := J.loc
      exact ⟨m, hm⟩
    · have := Inv.unblock S I3 hf3 J (h'' := s'.heap) fun b u _ e => e
      exact this
    · exact fun h'' hs => Inv.unblock S I3 hf3 J hs
  have loop : codeAny (model X.prog X.w) X.A (.compLoop (.ListComp elt [⟨tg, iter, ifs, 0⟩] scope pos) 0 (.ref it) (.ref l) (compEnvC scope (clOf X.env scope.names []) s3.heap.objs.size X.env))
      (RR (.ref l) s3.heap.objs.size) { s3 with heap := h₁, toks := t₁ } := by
    refine codeAny_loop rfl (fun n s' => ∃ i τ H', Inv (blk X N' scope s3.heap.objs.size s3 H3 fp pins) [] τ H' s' ∧ tn i s'.heap ∧ (∀ b ∈ fp, H' b = none) ∧ W i n τ H') ?_ m0 ⟨0, _, _, J0, st3, fun b hb => (hf3 b hb).1, w0⟩
    rintro n s4 ⟨i, τ, H4, J4, st4, fr4, w4⟩
    show wpAny _ X.A ((compTurn (.ListComp elt [⟨tg, iter, ifs, 0⟩] scope pos) 0 (.ref it) (.ref l) (compEnvC scope (clOf X.env scope.names []) s3.heap.objs.size X.env)).onRaise (fun x => do noteFrame x (compEnvC scope (clOf X.env scope.names []) s3.heap.objs.size X.env); theTreesLotGoes x)) _ _ s4
    refine wpAny_noted ?_
    rw [compTurn_list]
    rcases turn i n τ H4 w4 with ⟨stop, qn⟩ | ⟨go, N, hN, step⟩
    · refine wpAny_bind (wpAny_standAt (wpAny_bind (wpAny_mono (T.done (blk X N' scope s3.heap.objs.size s3 H3 fp pins) rfl rfl rfl rfl i [] s4 τ H4 _ J4 (fpB fr4) st4 stop) (fun r s5 h5 => ?_) fun _ _ e => e)))
      obtain ⟨hr, J5⟩ := h5
      subst hr
      exact wpAny_pure (fin J5 qn)
    · refine wpAny_bind (wpAny_standAt (wpAny_bind (wpAny_mono (T.item (blk X N' scope s3.heap.objs.size s3 H3 fp pins) rfl rfl rfl rfl i [] s4 τ H4 _ J4 (fpB fr4) st4 go) (fun r s5 h5 => ?_) fun _ _ e => e)))
      obtain ⟨u, hr, h5⟩ := h5
      subst hr
      refine wpAny_bind (wpAny_mono h5 (fun _ s6 h6 => ?_) fun _ _ e => e)
      obtain ⟨x, H6, J6, r6, y6, st6, fr6⟩ := h6
      have J6' := J6.pinned (fpB fr6) (T.obj _ _ st6)
      refine wpAny_bind (wpAny_mono (upE (hg _ _ _ _ _ _ s6 τ H6 x u _ J6' r6 (step x H6 y6))) (fun _ s7 h7 => ?_) fun _ _ e => e)
      obtain ⟨τ7, H7, J7, q7⟩ := h7
      have again : ∀ {τ8 : St} {H8 : Hp} {s8 : Shared}, Inv (blk X N' scope s3.heap.objs.size s3 H3 fp pins) ([] ++ pinsAt fp s6.heap) τ8 H8 s8 → N τ8 H8 →
          ∃ m, m < n ∧ ∃ i τ' H', Inv (blk X N' scope s3.heap.objs.size s3 H3 fp pins) [] τ' H' s8 ∧ tn i s8.heap ∧ (∀ b ∈ fp, H' b = none) ∧ W i m τ' H' := fun {τ8 H8 s8} J8 n8 => by
        obtain ⟨m', hm, w8⟩ := hN τ8 H8 n8
        refine ⟨m', hm, i + 1, τ8, H8, J8.unpinned, T.keep _ _ _ st6 fun b hb o e => (J8.pin (b, o) (List.mem_append_right _ (List.mem_append_right _ (mem_pinsAt hb e)))).1, fun b hb => ?_, w8⟩
        obtain ⟨o, e, d⟩ := T.obj _ _ st6 b hb
        exact (J8.pin (b, o) (List.mem_append_right _ (List.mem_append_right _ (mem_pinsAt hb e)))).2.1
      refine wpAny_bind (wpAny_mono (upE (hif _ _ _ _ _ _ s7 τ7 H7 _ J7 q7)) (fun ok s8 h8 => ?_) fun _ _ e => e)
      obtain ⟨H8, J8, q8⟩ := h8
      cases ok with
      | false => exact wpAny_pure ⟨rfl, again J8 (by simpa using q8)⟩
      | true =>
        have q8' : te τ7 H8 fun y H5 => ∃ xs, H5 l = some (.lst xs) ∧ xs.length < sizeLine ∧ N τ7 (upd H5 l (.lst (xs ++ [y]))) := by simpa using q8
        refine wpAny_bind (wpAny_bind (wpAny_mono (upE (he _ _ _ _ _ _ s8 τ7 H8 _ J8 q8')) (fun y s9 h9 => ?_) fun _ _ e => e))
        obtain ⟨yv, H9, J9, r9, xs, hx, hz, n9⟩ := h9
        refine wpAny_bind (wpAny_mono (upE (mt_append (X := blk X N' scope s3.heap.objs.size s3 H3 fp pins) _ s9 τ7 H9 (.ref l) [yv] (.ref l) [y] (fun _ H' => N τ7 H') J9 rfl (.cons r9 .nil) ⟨_, xs, yv, rfl, rfl, hx, hz, n9⟩)) (fun _ s10 h10 => ?_) fun _ _ e => e)
        obtain ⟨_, H10, J10, _, n10⟩ := h10
        exact wpAny_pure (wpAny_pure ⟨rfl, again J10 n10⟩)
  exact codeAny_compStart_list loop (T.self X.A 0 _ _ _ st3 loop)

/-- the block, from the iterator on: RR is what is wanted of its end -/
theorem comp_block (S : CompScope X N' caps scope) (hc : X.calm = true) (hg : ∀ C s₃ H₃ fp pl, PG (blk X N' scope C s₃ H₃ fp pl) tg g) (hif : ∀ C s₃ H₃ fp pl, PIf (blk X N' scope C s₃ H₃ fp pl) ifs tc)
    (he : ∀ C s₃ H₃ fp pl, PE (blk X N' scope C s₃ H₃ fp pl) elt te) {pins : List (Addr × Obj)} {σ : St} {H : Hp} {s : Shared} {it : Addr} {fp : List Addr} {tn : Nat → Heap → Prop} {J : It}
    (I : Inv X pins σ H s) (T : Turn X.prog X.w X.K tg J fp it tn) (st : tn 0 s.heap) (hf : ∀ b ∈ fp, FpOk X pins H b) {Q : VK} {RR : Value → Addr → Result → Shared → Prop} {E : Value → Shared → Prop}
    (h : ∀ l, H l = none → ∃ W : Nat → Nat → St → Hp → Prop, (∃ m, W 0 m (capt caps σ) (upd H l (.lst []))) ∧ ∀ i m τ H2, W i m τ H2 →
      (J.stop i H2 ∧ Q (.ref l) H2) ∨ (J.go i H2 ∧ ∃ N : St → Hp → Prop, (∀ τ' H', N τ' H' → ∃ m', m' < m ∧ W (i + 1) m' τ' H') ∧ ∀ x H', J.yld i H2 x H' → g x τ H' fun τ2 H3 =>
        tc τ2 H3 fun b H4 => if b = true then te τ2 H4 fun y H5 => ∃ xs, H5 l = some (.lst xs) ∧ xs.length < sizeLine ∧ N τ2 (upd H5 l (.lst (xs ++ [y]))) else N τ2 H4))
    (hRR : ∀ (l C : Addr) (H' : Hp) (s' : Shared), H' C = none → C ≠ X.env.locals → X.s₀.heap.objs.size ≤ C → (∀ x c, X.env.cells.lookup x = some c → c ≠ C) → (∀ p ∈ X.pn ++ pins, p.1 ≠ C) → (∃ m, s'.heap.Ns C m) → Inv X pins σ H' s' →
      (∀ h'' : Heap, (∀ b u, b ≠ C → s'.heap.get? b = some u → h''.get? b = some u) → Inv X pins σ H' { s' with heap := h'' }) → Q (.ref l) H' → RR (.ref l) C (.ok .next) s') :
    wpAny (model X.prog X.w) X.A (newList []) (fun acc s₃ => wpAny (model X.prog X.w) X.A (newFunctionEnv scope X.env.globals (clOf X.env scope.names []) [] X.env.qual none .none (some X.env)) (fun cenv s₄ =>
      codeAny (model X.prog X.w) X.A (.compStart (.ListComp elt [⟨tg, iter, ifs, 0⟩] scope pos) 0 (.ref it) acc { cenv with scope := relabel scope X.env }) (RR acc cenv.locals) s₄) E s₃) E s := by
  obtain ⟨W, ⟨m0, w0⟩, turn⟩ := h s.heap.objs.size I.fresh
  refine wpAny_newObj_type (wpAny_newFunctionEnv S.nocell (by intro y hy; simp at hy) (fun h₁ hns₁ hsb₁ => ?_) S.kind)
  have I3 : Inv X pins σ (upd H s.heap.objs.size (.lst [])) { s with heap := s.heap.push { cls := .type "list", data := .seq ([] : List Value).toArray } } := I.lnew (t' := s.toks) (its := []) (ys := []) .nil (Nat.zero_le _)
  have hltf : ∀ b ∈ fp, b < s.heap.objs.size := fun b hb => by
    obtain ⟨o, e, _⟩ := T.obj 0 _ st b hb
    exact Heap.lt_size e
  have hf3 : ∀ b ∈ fp, FpOk X pins (upd H s.heap.objs.size (.lst [])) b := fun b hb => ⟨by rw [upd_ne (Nat.ne_of_lt (hltf b hb))]; exact (hf b hb).1, (hf b hb).2⟩
  have keep3 : ∀ b o, (s.heap.push { cls := .type "list", data := .seq ([] : List Value).toArray }).get? b = some o → h₁.get? b = some o := fun b o e => hsb₁.extBut b o (Nat.ne_of_lt (Heap.lt_size e)) (Heap.get?_push_of_some _ e)
  have st3 : tn 0 h₁ := T.keep 0 _ _ st fun b hb o e => keep3 b o (Heap.get?_push_of_some _ e)
  have hlt3 : ∀ b ∈ fp, b < (s.heap.push { cls := .type "list", data := .seq ([] : List Value).toArray }).objs.size := fun b hb => by
    have := hltf b hb
    rw [Heap.size_push]
    exact Nat.lt_succ_of_lt this
  exact comp_loop (s3 := { s with heap := s.heap.push { cls := .type "list", data := .seq ([] : List Value).toArray } }) S hc hg hif he I3 T st3 hf3 hlt3 hns₁ keep3 w0 turn hRR

/-- [elt for tg in iter if ..], one clause -/
theorem pe_lcomp (S : CompScope X N' caps scope) (hc : X.calm = true) (hi : PI X tg iter wi) (hg : ∀ C s₃ H₃ fp pl, PG (blk X N' scope C s₃ H₃ fp pl) tg g) (hif : ∀ C s₃ H₃ fp pl, PIf (blk X N' scope C s₃ H₃ fp pl) ifs tc)
    (he : ∀ C s₃ H₃ fp pl, PE (blk X N' scope C s₃ H₃ fp pl) elt te) (hs : ∀ x, foldedSetIterable iter X.env x = pure x := by intro _; rfl) : PE X (.ListComp elt [⟨tg, iter, ifs, 0⟩] scope pos) (tComp caps wi g tc te) := by
  intro pins s σ H Q I h
  rw [eval_ListComp]
  refine wpAny_comprehension_free (use := none) rfl hs (closure_cl (S.has I.ok)) S.kind S.names (thn (hi pins s σ H _ I h) fun v s1 h1 => thn h1 fun itv s2 h2 => ?_)
  obtain ⟨it, fp, tn, J, H2, e, I2, T, st2, f2, hQ⟩ := h2
  subst e
  refine comp_block (RR := fun acc C => compPost (model X.prog X.w) X.A X.xe none (EP X pins σ Q) acc C) S hc hg hif he I2 T st2 f2 hQ ?_
  intro l C H' s' _ _ _ _ _ hm _ hI q
  obtain ⟨m, hm⟩ := hm
  exact ⟨m, hm, fun h'' hs'' => ⟨.ref l, H', hI h'' fun b u hb e => hs''.extBut b u hb e, rfl, q⟩⟩

/-- y = [elt for ..], y a plain local name on the same line -/
theorem ps_lcomp {i : Nat} {y : Str} {py spos : Pos} (hN : X.N.Nodup) (hi' : X.N[i]? = some y) (hy : X.env.scope.names.lookup y = some .local) (S : CompScope X N' caps scope) (hc : X.calm = true) (hi : PI X tg iter wi)
    (hg : ∀ C s₃ H₃ fp pl, PG (blk X N' scope C s₃ H₃ fp pl) tg g) (hif : ∀ C s₃ H₃ fp pl, PIf (blk X N' scope C s₃ H₃ fp pl) ifs tc)
    (he : ∀ C s₃ H₃ fp pl, PE (blk X N' scope C s₃ H₃ fp pl) elt te)
    (hsw : swapsWith (.ListComp elt [⟨tg, iter, ifs, 0⟩] scope pos) (some (.Name y py)) spos.line X.env = pure true := by rfl) (hs : ∀ x, foldedSetIterable iter X.env x = pure x := by intro _; rfl) :
    PS X (.Assign [.Name y py] (.ListComp elt [⟨tg, iter, ifs, 0⟩] scope pos) spos) (tAsg (tComp caps wi g tc te) (gName i)) := by
  intro pins s σ H D I h
  rw [exec_Assign_Name_used _ _ _ _ hsw]
  refine wpAny_bind (wpAny_standAt (wpAny_bind ?_))
  show wpAny _ X.A (do let _ ← comprehension (.ListComp elt [⟨tg, iter, ifs, 0⟩] scope pos) scope X.env _ (newList []) false (eval iter X.env) (some (assign (.Name y py) X.env))) _ _ s
  refine wpAny_bind (wpAny_mono (wpAny_comprehension_free (use := some (assign (.Name y py) X.env)) (Q := fun _ s' => SP X pins D .next s') rfl hs (closure_cl (S.has I.ok)) S.kind S.names
    (thn (hi pins s σ H _ I h) fun v s1 h1 => thn h1 fun itv s2 h2 => ?_)) (fun _ s' hq => wpAny_pure (wpAny_pure hq)) fun _ _ e => e)
  obtain ⟨it, fp, tn, J, H2, e, I2, T, st2, f2, hQ⟩ := h2
  subst e
  refine comp_block (Q := fun x H1 => gName i x σ H1 D.nx) (RR := fun acc C => compPost (model X.prog X.w) X.A X.xe (some (assign (.Name y py) X.env)) (fun _ s' => SP X pins D .next s') acc C) S hc hg hif he I2 T st2 f2 hQ ?_
  intro l C H' s' hC hCL hC0 hCc hCp hm hI0 hI q
  obtain ⟨m, hm⟩ := hm
  show wpAny _ X.A (assign (.Name y py) X.env (.ref l)) _ _ s'
  refine wpAny_assign_Name (store_ok2 (v := .ref l) hI0 hN hi' (.inl hy) rfl (fun s5 I5 hch => ?_) (.inr hy))
  obtain ⟨a, hsa, ha⟩ := hch
  have hCa : C ≠ a := by
    rcases ha with z | z
    · rw [z]; exact hCL
    · exact (hCc _ _ z).symm
  refine ⟨m, hm.sameBut hsa hCa, fun h'' hs'' => ?_⟩
  have I6 := I5.turned (t' := s5.toks) (h' := h'') (it := C) (fun b o hb e => hs''.extBut b o hb e) hC hCL (.inr hC0) hCc hCp
  exact ⟨_, H', I6, q⟩
end
end L2

namespace L2
open PySem PySem.Spec PyProof.Rows

/-! ### // by any positive number that is not beyond 10^40 -/
def CDivP (_ j : Int) : Prop := 0 < j ∧ j ≤ 10 ^ 40
theorem log2_small {n : Nat} (h : n ≤ 10 ^ 40) : n.log2 < 9000 := by
  by_cases h0 : n = 0
  · rw [h0]; decide
  · refine (Nat.log2_lt h0).mpr (Nat.lt_of_le_of_lt h ?_)
    exact Nat.lt_of_lt_of_le (show 10 ^ 40 < 2 ^ 200 by decide) (Nat.pow_le_pow_right (by decide) (by decide))
section
variable {X : Cx}
theorem op_fdivP : OpR X (binaryOp .FloorDiv) (rI CDivP fun i j => .int (i / j)) := opI fun i j _ _ _ _ _ hc q => by
  have h1 : (0 : Int) < j := hc.1
  have h2 : j ≤ 10 ^ 40 := hc.2
  exact floordiv_int (by omega) (by rw [Int.fdiv_eq_ediv_of_nonneg i (by omega)]; exact q) (.inl (PyProof.noPylong_of_log2 (log2_small (by omega))))

/-! ### data: what a value reads as -/
mutual
inductive Rds (K : PySem.W.Frag) (H : Hp) : V → PyData → Prop where
  | non : Rds K H .non .none
  | bl (b : Bool) : Rds K H (.bl b) (.bool b)
  | int (i : Int) : Rds K H (.int i) (.int i)
  | str (x : Str) : Rds K H (.str x) (.str x)
  | tup {a : Addr} {xs : List V} {ds : List PyData} : SqT K H a xs → RdsL K H xs ds → Rds K H (.ref a) (.tuple ds)
  | lst {a : Addr} {xs : List V} {ds : List PyData} : SqL K H a xs → RdsL K H xs ds → Rds K H (.ref a) (.list ds)
inductive RdsL (K : PySem.W.Frag) (H : Hp) : List V → List PyData → Prop where
  | nil : RdsL K H [] []
  | cons {x : V} {xs : List V} {d : PyData} {ds : List PyData} : Rds K H x d → RdsL K H xs ds → RdsL K H (x :: xs) (d :: ds)
end
variable {pins : List (Addr × Obj)} {σ : St} {H : Hp} {s : Shared}
mutual
theorem Rds.reads (I : Inv X pins σ H s) : ∀ {x : V} {u : Value} {d : PyData}, Rds X.K H x d → RelV x u → ∃ as, Reads s.heap u d as
  | _, _, _, .non, r => by cases (show _ = Value.none from r); exact ⟨_, .none⟩
  | _, _, _, .bl b, r => by cases (show _ = Value.bool b from r); exact ⟨_, .bool b⟩
  | _, _, _, .int i, r => by obtain ⟨t, e⟩ := (show ∃ t, _ = Value.int i t from r); cases e; exact ⟨_, .int i t⟩
  | _, _, _, .str x, r => by obtain ⟨t, e⟩ := (show ∃ t, _ = Value.str x t from r); cases e; exact ⟨_, .str x t⟩
  | _, _, _, .tup (a := a) hq hl, r => by
    cases (show _ = Value.ref a from r)
    obtain ⟨its, rv, ⟨o, h1, h2, n, h3⟩, _⟩ := I.tuple hq
    obtain ⟨as, q⟩ := RdsL.reads I hl rv
    exact ⟨_, .tuple h1 h2 h3 (by simpa using q)⟩
  | _, _, _, .lst (a := a) hq hl, r => by
    cases (show _ = Value.ref a from r)
    obtain ⟨its, rv, pl, _⟩ := I.list hq
    obtain ⟨o, h1, h2, n, h3⟩ := pl.isList
    obtain ⟨as, q⟩ := RdsL.reads I hl rv
    exact ⟨_, .list h1 h2 h3 (by simpa using q)⟩
theorem RdsL.reads (I : Inv X pins σ H s) : ∀ {xs : List V} {us : List Value} {ds : List PyData}, RdsL X.K H xs ds → Vals xs us → ∃ as, ReadsAll s.heap us ds as
  | _, _, _, .nil, .nil => ⟨_, .nil⟩
  | _, _, _, .cons h t, .cons r q => by
    obtain ⟨as, p⟩ := Rds.reads I h r
    obtain ⟨bs, p'⟩ := RdsL.reads I t q
    exact ⟨_, .cons p p'⟩
end
def rEqD (K : PySem.W.Frag) : R2 := fun x y H Q => ∃ d e, Rds K H x d ∧ Rds K H y e ∧ SeqAt.shaped d = true ∧ SeqAt.shaped e = true ∧ Q (.bl (PyData.eqv d e)) H
def rNeD (K : PySem.W.Frag) : R2 := fun x y H Q => ∃ d e, Rds K H x d ∧ Rds K H y e ∧ SeqAt.shaped d = true ∧ SeqAt.shaped e = true ∧ Q (.bl (!PyData.eqv d e)) H
theorem op_eqD (hu : X.A.units + 64 < cLine) : OpR X (compareOp .Eq) (rEqD X.K) := by
  intro pins s σ H x y v u Q I rx ry h
  obtain ⟨d, e, hx, hy, sd, se, q⟩ := h
  obtain ⟨as, ra⟩ := hx.reads I rx
  obtain ⟨bs, rb⟩ := hy.reads I ry
  exact eq_dataH ra rb sd se hu ⟨.bl _, H, I, rfl, q⟩
theorem op_neD (hu : X.A.units + 64 < cLine) : OpR X (compareOp .NotEq) (rNeD X.K) := by
  intro pins s σ H x y v u Q I rx ry h
  obtain ⟨d, e, hx, hy, sd, se, q⟩ := h
  obtain ⟨as, ra⟩ := hx.reads I rx
  obtain ⟨bs, rb⟩ := hy.reads I ry
  exact ne_dataH ra rb sd se hu ⟨.bl _, H, I, rfl, q⟩
theorem RdsL.ints {K : PySem.W.Frag} {H : Hp} : ∀ ns : List Int, RdsL K H (ns.map V.int) (ns.map PyData.int)
  | [] => .nil
  | n :: r => .cons (.int n) (RdsL.ints r)

/-! ### a slice of a text -/
def rSlS : V → Option Int → Option Int → Hp → VK → Prop := fun x lo hi H Q => ∃ z, x = .str z ∧ z.length ≤ sizeLine ∧ Q (.str (Txt.slice z lo hi)) H
theorem sl_str : SlR X rSlS := by
  intro pins s σ H x v vl vu lo hi sl Q I rx hs pl pu h
  obtain ⟨z, rfl, hz, q⟩ := h
  obtain ⟨t, rfl⟩ := (show ∃ t, v = Value.str z t from rx)
  refine ⟨"str", _, F.slot_str_getitem.lookup, typeIs_str _ _ _, ?_⟩
  obtain ⟨o, h1, h2, h3⟩ := hs
  have fin : (Txt.slice z lo hi).length ≤ sizeLine ∧ ∀ t' k, EP X pins σ Q (.str (Txt.slice z lo hi) t') { s with toks := k } := ⟨Nat.le_trans (Txt.slice_le z _ _) hz, fun t' k => ⟨.str _, H, I.tok k, ⟨t', rfl⟩, q⟩⟩
  cases pl with
  | none =>
    cases pu with
    | none => exact wpAny_getItem_str_slice (l := none) (u := none) (st := none) ⟨o, h1, h2, h3⟩ rfl (post_val_or_str fin)
    | int j uj => exact wpAny_getItem_str_slice (l := none) (u := some (j, uj)) (st := none) ⟨o, h1, h2, h3⟩ rfl (post_val_or_str fin)
  | int i ui =>
    cases pu with
    | none => exact wpAny_getItem_str_slice (l := some (i, ui)) (u := none) (st := none) ⟨o, h1, h2, h3⟩ rfl (post_val_or_str fin)
    | int j uj => exact wpAny_getItem_str_slice (l := some (i, ui)) (u := some (j, uj)) (st := none) ⟨o, h1, h2, h3⟩ rfl (post_val_or_str fin)

/-! ### isinstance against a built-in type -/
theorem call_isi : CallR X (.builtin "isinstance") (fun xs H Q => ∃ x n t b, xs = [x, .ty n] ∧ TyOf X.K H x t ∧ PySem.W.kitOne X.K t (.type n) = some b ∧ Q (.bl b) H) := by
  intro pins s σ H xs us Q I r h
  obtain ⟨x, n, t, b, rfl, ty, e, q⟩ := h
  obtain ⟨u, w', rfl, ru, rw'⟩ := vals2 r
  cases (show w' = Value.type n from rw')
  exact isinst_ok I ru ty e fun tk => ⟨.bl b, H, I.tok tk, rfl, q⟩
end
end L2

namespace L2
open PySem PySem.Spec PyProof.Rows
theorem lk_list_keys : typeLookup (.type "list") "keys" = pure none := by rw [typeLookup_type, builtinLookup_eq_fast]; kernel_rfl
/-- a list has no keys -/
theorem noKeys {prog : Program} {w : World} {A : Around} {E : Value → Shared → Prop} {s : Shared} {a : Addr} {xs : Array Value} {k : Nat} {Q : Option Value → Shared → Prop}
    (hx : s.heap.get? a = some { cls := .type "list", data := .seq xs k }) (hA : A.handled = none)
    (h : ∀ h' tk, (∀ b o, s.heap.get? b = some o → h'.get? b = some o) → Q none { s with heap := h', toks := tk }) :
    wpAny (model prog w) A (getAttr? (.ref a) "keys") Q E s := by
  obtain ⟨hp, g, d, tk, os⟩ := s
  have hT : ∀ tk', (⟨hp, g, d, tk', os⟩ : Shared).TypeIs (.ref a) "list" := fun _ => ⟨_, hx, rfl⟩
  have f1 := sub_AttributeError
  have f3 := F.slot_list_getattribute.lookup
  have f4 := F.slot_list_getattribute.bind (.ref a)
  have f5 := am_list_getattr_none
  unfold getAttr? getAttrBy? getAttrBy
  repeat (any_goals (first | assumption | exact hT _ | ((with_reducible show wpAny _ _ (call (Value.builtin "list.__getattribute__") _ _) _ _ _); refine call_meets F.slot_list_getattribute (hT _) am_entry_list_getattribute (F.args_list_getattribute_2 _ _) (meets_getattribute_miss_list a xs k #[] "keys" _ lk_list_keys (by decide +kernel) (by decide)) ⟨hx, hA, fun h' tk' e hx' => ?_⟩) | wp_step))
  obtain ⟨t', u', he⟩ := hx'.there
  have hE : ∀ tk', (⟨h', g, d, tk', os⟩ : Shared).TypeIs (.ref e) "AttributeError" := fun _ => ⟨_, he, rfl⟩
  show wpAny _ _ (getattributeRaised _ _ _ _ _ _ _) _ _ _
  unfold getattributeRaised
  repeat (any_goals (first | assumption | exact hE _ | wp_step))
  exact h _ _ hx'.keeps
end L2
namespace L2
open PySem PySem.Spec PyProof.Rows
theorem entry_dict_loop : entryFor table "dict.update.loop" = some Builtin.«dict.update.loop» := entryFor_of_tree (by kernel_rfl)
theorem plain_dict_loop : plainId "dict.update.loop" = true := by decide +kernel
/-- the pairs that a list of tuples holds -/
abbrev PairsAt (K : PySem.W.Frag) (H : Hp) : List V → List (Key × V) → Prop := Paired fun y kv => ∃ a, y = .ref a ∧ SqT K H a [kV kv.1, kv.2]
theorem Paired.at {α β : Type} {F : α → β → Prop} : ∀ {l₁ : List α} {l₂ : List β} {i : Nat} {x : α}, Paired F l₁ l₂ → l₁[i]? = some x → ∃ y, l₂[i]? = some y ∧ F x y
  | _, _, _, _, .nil, e => by simp at e
  | _, _, 0, _, .cons r _, e => by simp at e; subst e; exact ⟨_, rfl, r⟩
  | _, _, i + 1, x, .cons _ t, e => by
    obtain ⟨y, h1, h2⟩ := Paired.at (i := i) t (by simpa using e)
    exact ⟨y, by simpa using h1, h2⟩
section
variable {X : Cx}
theorem mergeK_snoc (kvs more : List (Key × V)) (p : Key × V) : mergeK kvs (more ++ [p]) = putK (mergeK kvs more) p.1 p.2 := by
  unfold mergeK
  rw [List.foldl_append]
  rfl
theorem dict_loop {A : Around} {pins : List (Addr × Obj)} {σ : St} {H : Hp} {p d it : Addr} {ys : List V} {kvs : List (Key × V)} {R : Result → Shared → Prop} (hA : A.handled = none) (hp : H p = some (.lst ys)) (hr : PairsAt X.K H ys kvs) (hl : ys.length ≤ 1000000) (hd : H d = none)
    (hit : it ≠ X.env.locals ∧ (it ∈ X.ex ∨ X.s₀.heap.objs.size ≤ it) ∧ (∀ x c, X.env.cells.lookup x = some c → c ≠ it) ∧ ∀ q ∈ X.pn ++ pins, q.1 ≠ it) (hin : H it = none) (hid : it ≠ d)
    (h : ∀ s', Inv X pins σ (upd H d (.dK (mergeK [] kvs))) s' → R (.ok (.ret .none)) s') : ∀ (n i : Nat) (s : Shared), kvs.length - i = n → i ≤ kvs.length → s.heap.IsListIter it p i → Inv X pins σ (upd H d (.dK (mergeK [] (kvs.take i)))) s →
      codeAny (model X.prog X.w) A (.builtin "dict.update.loop" ⟨[.ref d, .ref it, rawInt i, .none], []⟩) R s := by
  have hlen := Paired.length hr
  have npd : p ≠ d := ne_of_none hp hd
  have hsz : sizeLine ≥ 1000001 := by decide
  intro n
  induction n with
  | zero =>
    intro i s hn hi st I
    have ei : i = kvs.length := by omega
    refine codeAny_builtin entry_dict_loop ?_
    rw [Around.under_plainId plain_dict_loop _]
    have hq : SqL X.K (upd H d (.dK (mergeK [] (kvs.take i)))) p ys := SqL.of (by rw [upd_ne npd]; exact hp)
    obtain ⟨its, rv, pl, hz⟩ := I.list hq
    have hl' := rv.length
    show wpAny _ _ (pyNext (.ref it) >>= _) _ _ s
    refine wpAny_bind (wpAny_pyNext_list_end hA st pl.isList (by simp; omega) fun h' eb => ?_)
    show wpAny _ _ (Builtin.Dict.addKeywords d [] >>= fun _ => ret .none) _ _ _
    have I' := I.turned (t' := s.toks) (h' := h') (it := it) (fun b o hb e => eb b o hb e) (by rw [upd_ne hid]; exact hin) hit.1 hit.2.1 hit.2.2.1 hit.2.2.2
    refine wpAny_bind (wpAny_pure (wpAny_pure ?_))
    rw [ei, List.take_length] at I'
    exact h _ I'
  | succ n ih =>
    intro i s hn hi st I
    have hi' : i < kvs.length := by omega
    refine codeAny_builtin entry_dict_loop ?_
    rw [Around.under_plainId plain_dict_loop _]
    have hq : SqL X.K (upd H d (.dK (mergeK [] (kvs.take i)))) p ys := SqL.of (by rw [upd_ne npd]; exact hp)
    obtain ⟨its, rv, pl, hz⟩ := I.list hq
    have hyi : ys[i]? = some (ys[i]'(by omega)) := List.getElem?_eq_getElem _
    generalize ys[i]'(by omega) = y at hyi
    obtain ⟨u, hu, ru⟩ := rv.get hyi
    obtain ⟨kv, hk, a, ea, hta⟩ := Paired.at hr hyi
    subst ea
    cases (show u = Value.ref a from ru)
    show wpAny _ _ (pyNext (.ref it) >>= _) _ _ s
    refine wpAny_bind (wpAny_pyNext_list_item st pl.isList (x := .ref a) (by simpa using hu) fun h' st' sb => ?_)
    have I' := I.turned (t' := s.toks) (h' := h') (it := it) (fun b o hb e => (sb.2 b hb).trans e) (by rw [upd_ne hid]; exact hin) hit.1 hit.2.1 hit.2.2.1 hit.2.2.2
    have hta' : SqT X.K (upd H d (.dK (mergeK [] (kvs.take i)))) a [kV kv.1, kv.2] := by
      rcases hta with hta | hta
      · rcases hta with hta | ⟨o, hta⟩
        · exact .inl (.inl (by rw [upd_ne (ne_of_none hta hd)]; exact hta))
        · exact .inl (.inr ⟨o, by rw [upd_ne (ne_of_none hta hd)]; exact hta⟩)
      · exact .inr hta
    obtain ⟨its2, rv2, pt, hz2⟩ := I'.tuple hta'
    obtain ⟨ku, vu, rfl, rk, rw2⟩ := vals2 rv2
    obtain ⟨ot, ht1, ht2, nt, ht3⟩ := id pt
    dsimp only
    refine wpAny_bind (wpAny_holding ?_)
    refine wpAny_bind (wpAny_tryCatch ?_)
    unfold Builtin.Dict.pairItems
    refine wpAny_bind (wpAny_typeOf pt.typeIs ?_)
    rw [if_pos (by decide)]
    refine wpAny_bind (wpAny_seqItems ht1 ht3 (wpAny_pure ?_))
    show wpAny _ _ (holding [ku, vu] (dictSet d ku vu)) _ _ _
    refine wpAny_holding ?_
    have ed : upd H d (.dK (mergeK [] (kvs.take i))) d = some (.dK (mergeK [] (kvs.take i))) := upd_same
    obtain ⟨z, hdm, vs, rel, dd⟩ := dk_of I'.hok ed
    have hz3 : vs.length ≤ sizeLine := by rw [← rel.length]; exact z
    unfold dictSet
    refine wpAny_holding (wpAny_bind ((mixKind X.prog X.w).pyHash (kV_is rk) ?_))
    refine wpAny_dictSetHashed_pairs (hsz := hz3) (kV_is rk) dd fun h2 dd' hs => ?_
    have he : ∃ q, h2.get? d = some q := let ⟨q, _, _, hq, _⟩ := dd'; ⟨q, hq⟩
    have e2 : putK (mergeK [] (kvs.take i)) kv.1 kv.2 = mergeK [] (kvs.take (i + 1)) := by
      rw [List.take_succ, hk, ← mergeK_snoc]
      rfl
    have hl2 : (putK (mergeK [] (kvs.take i)) kv.1 kv.2).length ≤ sizeLine := by
      rw [e2]
      have := length_mergeK (kvs.take (i + 1)) []
      rw [List.length_take] at this
      simp only [List.length_nil] at this
      omega
    have I2 := d_write (t' := s.toks + 1) I' (by rw [ed]; exact True.intro) hs he (dk_new (H' := upd (upd H d (.dK (mergeK [] (kvs.take i)))) d (.dK (putK (mergeK [] (kvs.take i)) kv.1 kv.2))) hl2 hdm (rel.put kv.1 rw2) dd')
    rw [upd_upd, e2] at I2
    have hc : ((i : Int) + 1) = ((i + 1 : Nat) : Int) := by push_cast; rfl
    rw [hc]
    refine wpAny_pure ⟨plainId_quiet plain_dict_loop _, ih (i + 1) _ (by omega) (by omega) ?_ I2⟩
    obtain ⟨oi, e1, e2, e3⟩ := st'
    exact ⟨oi, hs.extBut _ _ hid e1, e2, e3⟩
/-- dict(pairs), pairs a list of tuples of two, keys ints and texts -/
theorem call_dictPairs (hc : X.calm = true) : CallR X (.type "dict") (fun xs H Q => ∃ p ys kvs, xs = [.ref p] ∧ H p = some (.lst ys) ∧ PairsAt X.K H ys kvs ∧ ys.length ≤ 1000000 ∧ ∀ q, H q = none → Q (.ref q) (upd H q (.dK (mergeK [] kvs)))) := by
  intro pins s σ H xs us Q I r h
  obtain ⟨p, ys, kvs, rfl, hp, hr, hl, q⟩ := h
  obtain ⟨u, rfl, ru⟩ := vals1 r
  cases (show u = Value.ref p from ru)
  refine callType_codes (Q₁ := fun obj s₁ => obj = .ref s.heap.objs.size ∧ s₁ = { s with heap := s.heap.push { cls := .type "dict", data := .dict #[] } }) F.kt_called_dict (F.kt_typeCall_dict_1 _) F.entry_dict_init (kt_code_dict_new _ ⟨rfl, rfl⟩) ?_
  rintro obj s₁ ⟨rfl, rfl⟩
  have hd : H s.heap.objs.size = none := I.fresh
  have hnew : (s.heap.push { cls := .type "dict", data := .dict #[] }).DictOf (mixKind X.prog X.w) s.heap.objs.size [] := Heap.DictOf.new s.heap
  have I1 : Inv X pins σ (upd H s.heap.objs.size (.dK [])) { s with heap := s.heap.push { cls := .type "dict", data := .dict #[] } } := I.laid (t' := s.toks) (fun _ _ q => Heap.get?_push_of_some _ q) (Nat.le_refl _) (dk_empty s.heap I.big)
  have npd : p ≠ s.heap.objs.size := ne_of_none hp hd
  refine ⟨hnew.typeIs, F.args_dict_init_2 _ _, ?_⟩
  obtain ⟨hz, its, n, rv, hx⟩ := I1.hok p _ (show upd H s.heap.objs.size (.dK []) p = some (.lst ys) by rw [upd_ne npd]; exact hp)
  have hA : X.A.handled = none := I.ok.hd hc
  unfold Builtin.«dict.__init__»
  refine wpAny_bind ?_
  unfold Builtin.Dict.selfAndRest
  refine wpAny_bind (wpAny_notOrdered_dict hnew.typeIs ?_)
  show wpAny _ _ (pure (s.heap.objs.size, [Value.ref p])) _ _ _
  refine wpAny_pure ?_
  show wpAny _ _ (Builtin.Dict.updateFrom "dict.__init__" s.heap.objs.size (.ref p) [] .none) _ _ _
  unfold Builtin.Dict.updateFrom
  refine wpAny_bind (wpAny_typeOf (T := "list") ⟨_, hx, rfl⟩ ?_)
  rw [if_pos (by decide)]
  refine wpAny_bind (noKeys hx (by exact hA) fun h2 tk keep => ?_)
  have I2 := I1.kept (t' := tk) keep
  have hx2 := keep _ _ hx
  have hil : h2.IsList p its.toArray := ⟨_, hx2, rfl, _, rfl⟩
  simp only [Option.isNone_none, if_true]
  refine wpAny_bind (wpAny_rule (wpAny_bind (wpAny_pyIter_list hil ?_)))
  have I3 : Inv X pins σ (upd H s.heap.objs.size (.dK [])) { s with heap := h2.push { cls := .type "list_iterator", data := .fields #[.ref p, .int 0 0] }, toks := tk } := I2.kept (t' := tk) fun b o e => Heap.get?_push_of_some _ e
  have hfp := I2.fpOk (b := h2.objs.size) (H' := upd H s.heap.objs.size (.dK [])) (Nat.le_refl _) (I2.hok.fresh (Nat.le_refl _))
  obtain ⟨f0, f1, f2, f3, f4, f5⟩ := hfp
  have hne : h2.objs.size ≠ s.heap.objs.size := by
    intro z
    rw [z, upd_same] at f0
    cases f0
  have hin : H h2.objs.size = none := by rw [upd_ne hne] at f0; exact f0
  refine wpAny_pure ⟨plainId_quiet plain_dict_loop _, ?_⟩
  exact dict_loop (X := X) (σ := σ) (H := H) (kvs := kvs) (by exact hA) hp hr hl hd ⟨f1, f3, f4, f5⟩ hin hne (fun s' I' => ⟨rfl, ⟨.ref _, _, I', rfl, q _ hd⟩⟩) kvs.length 0 _ (by omega) (Nat.zero_le _) ⟨_, Heap.get?_push_size _ rfl, rfl, rfl⟩ I3
end
end L2

namespace L2
open PySem PySem.Spec PyProof.Rows
/-! ### comprehensions: the forms one uses -/
section
variable {g : TG} {tc : TT} {te : TE} {l : Addr} {Q : VK} {τ0 : St} {H0 : Hp}
theorem comp_range {lo : Int} {n : Nat} (Pv : Nat → St → Hp → Prop) (h0 : Pv 0 τ0 H0)
    (hs : ∀ i τ H2, i < n → Pv i τ H2 → g (.int (lo + i)) τ H2 fun τ2 H3 => tc τ2 H3 fun b H4 => if b = true then te τ2 H4 fun y H5 => ∃ xs, H5 l = some (.lst xs) ∧ xs.length < sizeLine ∧ Pv (i + 1) τ2 (upd H5 l (.lst (xs ++ [y]))) else Pv (i + 1) τ2 H4)
    (hend : ∀ τ H2, Pv n τ H2 → Q (.ref l) H2) : CompW (Itr lo n) g tc te l Q τ0 H0 := by
  refine ⟨fun i m τ H => Pv i τ H ∧ i ≤ n ∧ m = n - i, ⟨n, h0, Nat.zero_le _, by omega⟩, ?_⟩
  rintro i m τ H2 ⟨p, hi, rfl⟩
  by_cases h : i < n
  · refine .inr ⟨h, fun τ' H' => Pv (i + 1) τ' H', fun τ' H' q => ⟨n - (i + 1), by omega, q, by omega, rfl⟩, ?_⟩
    intro x H' y
    obtain ⟨e, y⟩ := y
    subst e y
    exact hs i τ _ h p
  · have e : i = n := by omega
    subst e
    exact .inl ⟨Nat.le_refl _, hend τ H2 p⟩
theorem comp_list {K : PySem.W.Frag} {a : Addr} {xs : List V} (Pv : Nat → St → Hp → Prop) (h0 : Pv 0 τ0 H0) (hl : ∀ i τ H, i ≤ xs.length → Pv i τ H → SqL K H a xs)
    (hs : ∀ i x τ H2, xs[i]? = some x → Pv i τ H2 → g x τ H2 fun τ2 H3 => tc τ2 H3 fun b H4 => if b = true then te τ2 H4 fun y H5 => ∃ zs, H5 l = some (.lst zs) ∧ zs.length < sizeLine ∧ Pv (i + 1) τ2 (upd H5 l (.lst (zs ++ [y]))) else Pv (i + 1) τ2 H4)
    (hend : ∀ τ H2, Pv xs.length τ H2 → Q (.ref l) H2) : CompW (Itl K a) g tc te l Q τ0 H0 := by
  refine ⟨fun i m τ H => Pv i τ H ∧ i ≤ xs.length ∧ m = xs.length - i, ⟨xs.length, h0, Nat.zero_le _, by omega⟩, ?_⟩
  rintro i m τ H2 ⟨p, hi, rfl⟩
  by_cases h : i < xs.length
  · refine .inr ⟨⟨xs, xs[i], hl i τ H2 hi p, List.getElem?_eq_getElem h⟩, fun τ' H' => Pv (i + 1) τ' H', fun τ' H' q => ⟨xs.length - (i + 1), by omega, q, by omega, rfl⟩, ?_⟩
    intro x H' y
    obtain ⟨e, y⟩ := y
    subst e
    exact hs i x τ _ (y xs (hl i τ _ hi p)) p
  · have e : i = xs.length := by omega
    subst e
    exact .inl ⟨⟨xs, hl _ τ H2 hi p, Nat.le_refl _⟩, hend τ H2 p⟩
end
end L2
namespace L2
open PySem PySem.Spec PyProof.Rows
/-! ### a comprehension's scope, by a look -/
def lookComp (out : List (Str × NameKind)) (N N' : List Str) (caps : List (Option Nat)) (scope : Scope) : Bool :=
  decide (scope.kind = .function) && scope.names.all (fun y => decide (y.2 ≠ .cell)) && scope.names.all (fun y => !decide (y.2 = .local) || decide (scope.names.lookup y.1 = some .local)) &&
  scope.names.all (fun y => !decide (y.2 = .free) || decide (out.lookup y.1 = some .cell) || decide (out.lookup y.1 = some .free)) && decide (caps.length = N'.length) &&
  (List.range caps.length).all (fun j => match caps[j]?, N'[j]? with
    | some (some i), some x => decide (N[i]? = some x) && decide (scope.names.lookup x = some .free)
    | _, _ => true) && decide N'.Nodup
theorem compScope {X : Cx} {N' : List Str} {caps : List (Option Nat)} {scope : Scope} (h : lookComp X.env.scope.names X.N N' caps scope = true) : CompScope X N' caps scope := by
  unfold lookComp at h
  simp only [Bool.and_eq_true, decide_eq_true_eq, List.all_eq_true, Bool.or_eq_true, Bool.not_eq_true', decide_eq_false_iff_not] at h
  obtain ⟨⟨⟨⟨⟨⟨h1, h2⟩, h3⟩, h4⟩, h5⟩, h6⟩, h7⟩ := h
  refine ⟨h1, h2, fun y hy e => ?_, fun y hy e => ?_, h5, fun j i x hj hx => ?_, h7⟩
  · rcases h3 y hy with z | z
    · exact absurd e z
    · exact z
  · rcases h4 y hy with (z | z) | z
    · exact absurd e z
    · exact .inl z
    · exact .inr z
  · have hlt : j < caps.length := (List.getElem?_eq_some_iff.mp hj).1
    have := h6 j (List.mem_range.mpr hlt)
    rw [hj, hx] at this
    simp only [Bool.and_eq_true, decide_eq_true_eq] at this
    exact this
theorem atI_some {α : Type} {xs : List α} {i : Int} (h0 : 0 ≤ i) (h1 : i < xs.length) : ∃ v, atI xs i = some v ∧ xs[i.toNat]? = some v := by
  have hlt : i.toNat < xs.length := by omega
  refine ⟨xs[i.toNat]'hlt, ?_, List.getElem?_eq_getElem hlt⟩
  have e : ((i.toNat : Nat) : Int) = i := Int.toNat_of_nonneg h0
  have q : atI xs ((i.toNat : Nat) : Int) = some (xs[i.toNat]'hlt) := atI_nat (List.getElem?_eq_getElem hlt)
  rw [e] at q
  exact q
theorem of_map {α : Type} {f : α → V} {ns : List α} {i : Nat} {x : V} (h : (ns.map f)[i]? = some x) : ∃ v, x = f v ∧ v ∈ ns := by
  rw [List.getElem?_map] at h
  cases e : ns[i]? with
  | none => rw [e] at h; cases h
  | some v => rw [e] at h; exact ⟨v, (Option.some.inj h).symm, List.mem_of_getElem? e⟩
theorem Str_len_app (a b : Str) : (a ++ b).length = a.length + b.length := PySem.strLen_append a b
theorem Str_len_one (c : Nat) : (⟨#[c]⟩ : Str).length = 1 := rfl
theorem Str_ne_nil {w : Str} (h : 1 ≤ w.length) : w ≠ "" := by
  rintro rfl
  exact absurd h (by decide)
end L2
namespace L2
theorem yesI {τ : St} {H : Hp} {A B : Hp → Prop} (h : A H) : tYes τ H (fun b H4 => if b = true then A H4 else B H4) := by
  show (if true = true then A H else B H)
  rw [if_pos rfl]
  exact h
end L2
namespace L2
open PySem PySem.Spec PyProof.Rows
theorem strOk_mem {x : Str} : PyData.strOk x = true ↔ ∀ c ∈ x.cps, c < 0x110000 := by
  unfold PyData.strOk
  rw [Array.all_eq_true_iff_forall_mem]
  simp
theorem strOk_app {a b : Str} (ha : PyData.strOk a = true) (hb : PyData.strOk b = true) : PyData.strOk (a ++ b) = true := by
  rw [strOk_mem] at *
  intro c hc
  have hc' : c ∈ a.cps ++ b.cps := hc
  rcases Array.mem_append.mp hc' with z | z
  · exact ha c z
  · exact hb c z
theorem strOk_slice {x : Str} (l u : Option Int) (h : PyData.strOk x = true) : PyData.strOk (Txt.slice x l u) = true := by
  unfold Txt.slice
  split
  · exact h
  · rw [strOk_mem] at *
    intro c hc
    have hc' : c ∈ (List.filterMap (x.cps[·]?) (Builtin.Str.strSliceIndices l u 1 x.length)).toArray := hc
    rw [List.mem_toArray] at hc'
    obtain ⟨i, _, e⟩ := List.mem_filterMap.mp hc'
    exact h c (Array.mem_of_getElem? e)
theorem strOk_one {z : Str} {c : Nat} {i : Int} (h : PyData.strOk z = true) (hc : atI z.cps.toList i = some c) : PyData.strOk (⟨#[c]⟩ : Str) = true := by
  rw [strOk_mem] at *
  intro d hd
  have e : d = c := by simpa using hd
  subst e
  obtain ⟨j, _, hj, _⟩ := atI_get hc
  exact h d (by have := List.mem_of_getElem? hj; simpa using this)
end L2

namespace L2
open PySem PySem.Spec PyProof.Rows
theorem entry_all_loop : entryFor table "all.loop" = some Builtin.«all.loop» := entryFor_of_tree (by kernel_rfl)
theorem plain_all_loop : plainId "all.loop" = true := by decide +kernel
section
variable {X : Cx}
theorem all_loop {A : Around} {pins : List (Addr × Obj)} {σ : St} {H : Hp} {p it : Addr} {bs : List Bool} {R : Result → Shared → Prop} (hA : A.handled = none) (hp : SqL X.K H p (bs.map V.bl))
    (hit : it ≠ X.env.locals ∧ (it ∈ X.ex ∨ X.s₀.heap.objs.size ≤ it) ∧ (∀ x c, X.env.cells.lookup x = some c → c ≠ it) ∧ ∀ q ∈ X.pn ++ pins, q.1 ≠ it) (hin : H it = none)
    (h : ∀ s', Inv X pins σ H s' → R (.ok (.ret (.bool (bs.all id)))) s') : ∀ (n i : Nat) (s : Shared), bs.length - i = n → i ≤ bs.length → (bs.take i).all id = true → s.heap.IsListIter it p i → Inv X pins σ H s →
      codeAny (model X.prog X.w) A (.builtin "all.loop" ⟨[.ref it], []⟩) R s := by
  intro n
  induction n with
  | zero =>
    intro i s hn hi ht st I
    have ei : i = bs.length := by omega
    refine codeAny_builtin entry_all_loop ?_
    rw [Around.under_plainId plain_all_loop _]
    obtain ⟨its, rv, pl, hz⟩ := I.list hp
    have hl' := rv.length
    rw [List.length_map] at hl'
    show wpAny _ _ (pyNext (.ref it) >>= _) _ _ s
    refine wpAny_bind (wpAny_pyNext_list_end hA st pl.isList (by simp; omega) fun h' eb => ?_)
    have I' := I.turned (t' := s.toks) (h' := h') (it := it) (fun b o hb e => eb b o hb e) hin hit.1 hit.2.1 hit.2.2.1 hit.2.2.2
    refine wpAny_bind (wpAny_rule (wpAny_pure ?_))
    rw [ei, List.take_length] at ht
    have := h _ I'
    rw [ht] at this
    exact this
  | succ n ih =>
    intro i s hn hi ht st I
    have hi' : i < bs.length := by omega
    refine codeAny_builtin entry_all_loop ?_
    rw [Around.under_plainId plain_all_loop _]
    obtain ⟨its, rv, pl, hz⟩ := I.list hp
    have hyi : (bs.map V.bl)[i]? = some (.bl bs[i]) := by rw [List.getElem?_map, List.getElem?_eq_getElem hi']; rfl
    obtain ⟨u, hu, ru⟩ := rv.get hyi
    cases (show u = Value.bool bs[i] from ru)
    show wpAny _ _ (pyNext (.ref it) >>= _) _ _ s
    refine wpAny_bind (wpAny_pyNext_list_item st pl.isList (x := .bool bs[i]) (by simpa using hu) fun h' st' sb => ?_)
    have I' := I.turned (t' := s.toks) (h' := h') (it := it) (fun b o hb e => (sb.2 b hb).trans e) hin hit.1 hit.2.1 hit.2.2.1 hit.2.2.2
    dsimp only
    refine wpAny_bind (wpAny_holding (wpAny_truthy_bool ?_))
    refine wpAny_bind (wpAny_letGo ?_)
    by_cases hb : bs[i] = true
    · rw [if_pos hb]
      refine wpAny_pure ⟨plainId_quiet plain_all_loop _, ih (i + 1) _ (by omega) (by omega) ?_ st' I'⟩
      rw [List.take_succ, List.getElem?_eq_getElem hi', List.all_append, ht, hb]
      rfl
    · rw [if_neg hb]
      refine wpAny_bind (wpAny_rule (wpAny_pure ?_))
      have := h _ I'
      have e : bs.all id = false := by
        rw [List.all_eq_false]
        exact ⟨bs[i], List.getElem_mem hi', by simpa using hb⟩
      rw [e] at this
      exact this
/-- all(bools), of a list -/
theorem call_all (hc : X.calm = true) : CallR X (.builtin "all") (fun xs H Q => ∃ (p : Addr) (bs : List Bool), xs = [.ref p] ∧ SqL X.K H p (bs.map V.bl) ∧ Q (.bl (bs.all id)) H) := by
  intro pins s σ H xs us Q I r h
  obtain ⟨p, bs, rfl, hp, q⟩ := h
  obtain ⟨u, rfl, ru⟩ := vals1 r
  cases (show u = Value.ref p from ru)
  have hA : X.A.handled = none := I.ok.hd hc
  obtain ⟨its, rv, pl, hz⟩ := I.list hp
  refine call_function_tree F.kind_all F.plain_all F.entry_all (F.args_all1 _) ?_
  unfold Builtin.«all»
  show wpAny _ _ (pyIter (.ref p) >>= _) _ _ s
  refine wpAny_bind (wpAny_pyIter_list pl.isList ?_)
  have I3 : Inv X pins σ H { s with heap := s.heap.push { cls := .type "list_iterator", data := .fields #[.ref p, .int 0 0] } } := I.kept (t' := s.toks) fun b o e => Heap.get?_push_of_some _ e
  obtain ⟨f0, f1, f2, f3, f4, f5⟩ := I.fpOk (b := s.heap.objs.size) (H' := H) (Nat.le_refl _) (I.hok.fresh (Nat.le_refl _))
  refine wpAny_pure ⟨plainId_quiet plain_all_loop _, ?_⟩
  exact all_loop (X := X) (σ := σ) (H := H) (by exact hA) hp ⟨f1, f3, f4, f5⟩ f0 (fun s' I' => ⟨.bl _, H, I', rfl, q⟩) bs.length 0 _ (by omega) (Nat.zero_le _) rfl ⟨_, Heap.get?_push_size _ rfl, rfl, rfl⟩ I3
end
theorem entry_any_loop : entryFor table "any.loop" = some Builtin.«any.loop» := entryFor_of_tree (by kernel_rfl)
theorem plain_any_loop : plainId "any.loop" = true := by decide +kernel
section
variable {X : Cx}
theorem any_loop {A : Around} {pins : List (Addr × Obj)} {σ : St} {H : Hp} {p it : Addr} {bs : List Bool} {R : Result → Shared → Prop} (hA : A.handled = none) (hp : SqL X.K H p (bs.map V.bl))
    (hit : it ≠ X.env.locals ∧ (it ∈ X.ex ∨ X.s₀.heap.objs.size ≤ it) ∧ (∀ x c, X.env.cells.lookup x = some c → c ≠ it) ∧ ∀ q ∈ X.pn ++ pins, q.1 ≠ it) (hin : H it = none)
    (h : ∀ s', Inv X pins σ H s' → R (.ok (.ret (.bool (bs.any id)))) s') : ∀ (n i : Nat) (s : Shared), bs.length - i = n → i ≤ bs.length → (bs.take i).any id = false → s.heap.IsListIter it p i → Inv X pins σ H s →
      codeAny (model X.prog X.w) A (.builtin "any.loop" ⟨[.ref it], []⟩) R s := by
  intro n
  induction n with
  | zero =>
    intro i s hn hi ht st I
    have ei : i = bs.length := by omega
    refine codeAny_builtin entry_any_loop ?_
    rw [Around.under_plainId plain_any_loop _]
    obtain ⟨its, rv, pl, hz⟩ := I.list hp
    have hl' := rv.length
    rw [List.length_map] at hl'
    show wpAny _ _ (pyNext (.ref it) >>= _) _ _ s
    refine wpAny_bind (wpAny_pyNext_list_end hA st pl.isList (by simp; omega) fun h' eb => ?_)
    have I' := I.turned (t' := s.toks) (h' := h') (it := it) (fun b o hb e => eb b o hb e) hin hit.1 hit.2.1 hit.2.2.1 hit.2.2.2
    refine wpAny_bind (wpAny_rule (wpAny_pure ?_))
    rw [ei, List.take_length] at ht
    have := h _ I'
    rw [ht] at this
    exact this
  | succ n ih =>
    intro i s hn hi ht st I
    have hi' : i < bs.length := by omega
    refine codeAny_builtin entry_any_loop ?_
    rw [Around.under_plainId plain_any_loop _]
    obtain ⟨its, rv, pl, hz⟩ := I.list hp
    have hyi : (bs.map V.bl)[i]? = some (.bl bs[i]) := by rw [List.getElem?_map, List.getElem?_eq_getElem hi']; rfl
    obtain ⟨u, hu, ru⟩ := rv.get hyi
    cases (show u = Value.bool bs[i] from ru)
    show wpAny _ _ (pyNext (.ref it) >>= _) _ _ s
    refine wpAny_bind (wpAny_pyNext_list_item st pl.isList (x := .bool bs[i]) (by simpa using hu) fun h' st' sb => ?_)
    have I' := I.turned (t' := s.toks) (h' := h') (it := it) (fun b o hb e => (sb.2 b hb).trans e) hin hit.1 hit.2.1 hit.2.2.1 hit.2.2.2
    dsimp only
    refine wpAny_bind (wpAny_holding (wpAny_truthy_bool ?_))
    refine wpAny_bind (wpAny_letGo ?_)
    by_cases hb : bs[i] = true
    · rw [if_pos hb]
      refine wpAny_bind (wpAny_rule (wpAny_pure ?_))
      have := h _ I'
      have e : bs.any id = true := by
        rw [List.any_eq_true]
        exact ⟨bs[i], List.getElem_mem hi', hb⟩
      rw [e] at this
      exact this
    · rw [if_neg hb]
      refine wpAny_pure ⟨plainId_quiet plain_any_loop _, ih (i + 1) _ (by omega) (by omega) ?_ st' I'⟩
      rw [List.take_succ, List.getElem?_eq_getElem hi', List.any_append, ht]
      have hb' : bs[i] = false := by simpa using hb
      rw [hb']
      rfl
/-- any(bools), of a list -/
theorem call_any (hc : X.calm = true) : CallR X (.builtin "any") (fun xs H Q => ∃ (p : Addr) (bs : List Bool), xs = [.ref p] ∧ SqL X.K H p (bs.map V.bl) ∧ Q (.bl (bs.any id)) H) := by
  intro pins s σ H xs us Q I r h
  obtain ⟨p, bs, rfl, hp, q⟩ := h
  obtain ⟨u, rfl, ru⟩ := vals1 r
  cases (show u = Value.ref p from ru)
  have hA : X.A.handled = none := I.ok.hd hc
  obtain ⟨its, rv, pl, hz⟩ := I.list hp
  refine call_function_tree F.kind_any F.plain_any F.entry_any (F.args_any1 _) ?_
  unfold Builtin.«any»
  show wpAny _ _ (pyIter (.ref p) >>= _) _ _ s
  refine wpAny_bind (wpAny_pyIter_list pl.isList ?_)
  have I3 : Inv X pins σ H { s with heap := s.heap.push { cls := .type "list_iterator", data := .fields #[.ref p, .int 0 0] } } := I.kept (t' := s.toks) fun b o e => Heap.get?_push_of_some _ e
  obtain ⟨f0, f1, f2, f3, f4, f5⟩ := I.fpOk (b := s.heap.objs.size) (H' := H) (Nat.le_refl _) (I.hok.fresh (Nat.le_refl _))
  refine wpAny_pure ⟨plainId_quiet plain_any_loop _, ?_⟩
  exact any_loop (X := X) (σ := σ) (H := H) (by exact hA) hp ⟨f1, f3, f4, f5⟩ f0 (fun s' I' => ⟨.bl _, H, I', rfl, q⟩) bs.length 0 _ (by omega) (Nat.zero_le _) rfl ⟨_, Heap.get?_push_size _ rfl, rfl, rfl⟩ I3
end
end L2

namespace Sm
open PySem L2

/-! ### data: what a value is worth, without addresses (but for objects that are changed) -/
inductive D where
  | non | bl (b : Bool) | int (i : Int) | str (x : Str) | ty (n : String)
  | tup (xs : List D) | lv (xs : List D) | ro (xs : List D) | dv (kvs : List (Key × D)) | ob (n : Nat)
inductive MO where
  | lst (xs : List D) | dct (kvs : List (Key × D))
abbrev MH := List MO
abbrev DS := List (Option D)

abbrev noH : Hp := fun _ => none
/-- the addresses of our objects, and those that are kept from everybody (a comprehension's list) -/
structure Ad where
  ob : List Addr
  rs : List Addr
def Ad.has (ρ : Ad) (a : Addr) : Prop := a ∈ ρ.ob ∨ a ∈ ρ.rs
def TupAt (K : PySem.W.Frag) (ρ : Ad) (H : Hp) (a : Addr) (vs : List V) : Prop := (Rd H a (.tup vs) ∧ ¬ρ.has a) ∨ SqT K noH a vs
def RoAt (K : PySem.W.Frag) (ρ : Ad) (H : Hp) (a : Addr) (vs : List V) : Prop := (Rd H a (.lst vs) ∧ ¬ρ.has a) ∨ SqL K noH a vs

mutual
inductive Rep (K : PySem.W.Frag) (ρ : Ad) (H : Hp) : V → D → Prop where
  | non : Rep K ρ H .non .non
  | bl (b : Bool) : Rep K ρ H (.bl b) (.bl b)
  | int (i : Int) : Rep K ρ H (.int i) (.int i)
  | str {x : Str} (h : PyData.strOk x = true) : Rep K ρ H (.str x) (.str x)
  | ty (n : String) : Rep K ρ H (.ty n) (.ty n)
  | tup {a : Addr} {vs : List V} {ds : List D} : TupAt K ρ H a vs → RepL K ρ H vs ds → Rep K ρ H (.ref a) (.tup ds)
  | lv {a : Addr} {vs : List V} {ds : List D} : H a = some (.lst vs) → ¬ρ.has a → RepL K ρ H vs ds → Rep K ρ H (.ref a) (.lv ds)
  | ro {a : Addr} {vs : List V} {ds : List D} : RoAt K ρ H a vs → RepL K ρ H vs ds → Rep K ρ H (.ref a) (.ro ds)
  | dv {a : Addr} {us : List (Key × V)} {kvs : List (Key × D)} : H a = some (.dK us) → ¬ρ.has a → RepK K ρ H us kvs → Rep K ρ H (.ref a) (.dv kvs)
  | ob {a : Addr} {n : Nat} : ρ.ob[n]? = some a → Rep K ρ H (.ref a) (.ob n)
inductive RepL (K : PySem.W.Frag) (ρ : Ad) (H : Hp) : List V → List D → Prop where
  | nil : RepL K ρ H [] []
  | cons {v : V} {vs : List V} {d : D} {ds : List D} : Rep K ρ H v d → RepL K ρ H vs ds → RepL K ρ H (v :: vs) (d :: ds)
inductive RepK (K : PySem.W.Frag) (ρ : Ad) (H : Hp) : List (Key × V) → List (Key × D) → Prop where
  | nil : RepK K ρ H [] []
  | cons {k : Key} {v : V} {vs : List (Key × V)} {d : D} {ds : List (Key × D)} : Rep K ρ H v d → RepK K ρ H vs ds → RepK K ρ H ((k, v) :: vs) ((k, d) :: ds)
end

/-- what may change: objects of ours alone, new ones come behind -/
structure Ch (ρ : Ad) (H : Hp) (ρ' : Ad) (H' : Hp) : Prop where
  pre : ∀ (n : Nat) a, ρ.ob[n]? = some a → ρ'.ob[n]? = some a
  old : ∀ b o, ¬ρ.has b → H b = some o → ¬ρ'.has b ∧ H' b = some o
theorem Ch.refl (ρ : Ad) (H : Hp) : Ch ρ H ρ H := ⟨fun _ _ e => e, fun _ _ n e => ⟨n, e⟩⟩
theorem Ch.trans {ρ ρ1 ρ2 : Ad} {H H1 H2 : Hp} (a : Ch ρ H ρ1 H1) (b : Ch ρ1 H1 ρ2 H2) : Ch ρ H ρ2 H2 :=
  ⟨fun n x e => b.pre n x (a.pre n x e), fun x o n e => let ⟨n', e'⟩ := a.old x o n e; b.old x o n' e'⟩
/-- what a step may do: besides, what is kept from everybody stays -/
structure Stp (ρ : Ad) (H : Hp) (ρ' : Ad) (H' : Hp) : Prop extends Ch ρ H ρ' H' where
  rs : ρ'.rs = ρ.rs
  res : ∀ b ∈ ρ.rs, H' b = H b
theorem Stp.refl (ρ : Ad) (H : Hp) : Stp ρ H ρ H := ⟨.refl _ _, rfl, fun _ _ => rfl⟩
theorem Stp.trans {ρ ρ1 ρ2 : Ad} {H H1 H2 : Hp} (a : Stp ρ H ρ1 H1) (b : Stp ρ1 H1 ρ2 H2) : Stp ρ H ρ2 H2 :=
  ⟨a.toCh.trans b.toCh, b.rs.trans a.rs, fun x hx => (b.res x (by rw [a.rs]; exact hx)).trans (a.res x hx)⟩
instance {ρ ρ' : Ad} {H H' : Hp} : CoeOut (Stp ρ H ρ' H') (Ch ρ H ρ' H') := ⟨Stp.toCh⟩
theorem Ch.rd {ρ ρ' : Ad} {H H' : Hp} {a : Addr} {u : HO} (S : Ch ρ H ρ' H') (h : Rd H a u) (n : ¬ρ.has a) : Rd H' a u ∧ ¬ρ'.has a := by
  rcases h with h | ⟨o, h⟩
  · obtain ⟨q, e⟩ := S.old a _ n h; exact ⟨.inl e, q⟩
  · obtain ⟨q, e⟩ := S.old a _ n h; exact ⟨.inr ⟨o, e⟩, q⟩
mutual
theorem Rep.mono {K : PySem.W.Frag} {ρ ρ' : Ad} {H H' : Hp} (S : Ch ρ H ρ' H') : ∀ {v : V} {d : D}, Rep K ρ H v d → Rep K ρ' H' v d
  | _, _, .non => .non
  | _, _, .bl b => .bl b
  | _, _, .int i => .int i
  | _, _, .str x => .str x
  | _, _, .ty n => .ty n
  | _, _, .tup h l => .tup (h.elim (fun ⟨a, n⟩ => .inl (S.rd a n)) .inr) (RepL.mono S l)
  | _, _, .lv h n l => let ⟨n', h'⟩ := S.old _ _ n h; .lv h' n' (RepL.mono S l)
  | _, _, .ro h l => .ro (h.elim (fun ⟨a, n⟩ => .inl (S.rd a n)) .inr) (RepL.mono S l)
  | _, _, .dv h n l => let ⟨n', h'⟩ := S.old _ _ n h; .dv h' n' (RepK.mono S l)
  | _, _, .ob e => .ob (S.pre _ _ e)
theorem RepL.mono {K : PySem.W.Frag} {ρ ρ' : Ad} {H H' : Hp} (S : Ch ρ H ρ' H') : ∀ {vs : List V} {ds : List D}, RepL K ρ H vs ds → RepL K ρ' H' vs ds
  | _, _, .nil => .nil
  | _, _, .cons h t => .cons (Rep.mono S h) (RepL.mono S t)
theorem RepK.mono {K : PySem.W.Frag} {ρ ρ' : Ad} {H H' : Hp} (S : Ch ρ H ρ' H') : ∀ {vs : List (Key × V)} {ds : List (Key × D)}, RepK K ρ H vs ds → RepK K ρ' H' vs ds
  | _, _, .nil => .nil
  | _, _, .cons h t => .cons (Rep.mono S h) (RepK.mono S t)
end
section
variable {K : PySem.W.Frag} {ρ ρ' : Ad} {H H' : Hp}
theorem RepL.length : ∀ {vs : List V} {ds : List D}, RepL K ρ H vs ds → vs.length = ds.length
  | _, _, .nil => rfl
  | _, _, .cons _ t => by rw [List.length_cons, List.length_cons, RepL.length t]
theorem RepL.get : ∀ {vs : List V} {ds : List D} {i : Nat} {v : V}, RepL K ρ H vs ds → vs[i]? = some v → ∃ d, ds[i]? = some d ∧ Rep K ρ H v d
  | _, _, _, _, .nil, e => by simp at e
  | _, _, 0, _, .cons r _, e => by simp at e; subst e; exact ⟨_, rfl, r⟩
  | _, _, i + 1, v, .cons _ t, e => by
    obtain ⟨u, h1, h2⟩ := RepL.get (i := i) (v := v) t (by simpa using e)
    exact ⟨u, by simpa using h1, h2⟩
theorem RepL.got : ∀ {vs : List V} {ds : List D} {i : Nat} {d : D}, RepL K ρ H vs ds → ds[i]? = some d → ∃ v, vs[i]? = some v ∧ Rep K ρ H v d
  | _, _, _, _, .nil, e => by simp at e
  | _, _, 0, _, .cons r _, e => by simp at e; subst e; exact ⟨_, rfl, r⟩
  | _, _, i + 1, d, .cons _ t, e => by
    obtain ⟨u, h1, h2⟩ := RepL.got (i := i) (d := d) t (by simpa using e)
    exact ⟨u, by simpa using h1, h2⟩
theorem RepL.append : ∀ {vs ws : List V} {ds es : List D}, RepL K ρ H vs ds → RepL K ρ H ws es → RepL K ρ H (vs ++ ws) (ds ++ es)
  | _, _, _, _, .nil, s => s
  | _, _, _, _, .cons r t, s => .cons r (RepL.append t s)
theorem RepL.take : ∀ {vs : List V} {ds : List D} (n : Nat), RepL K ρ H vs ds → RepL K ρ H (vs.take n) (ds.take n)
  | _, _, 0, _ => .nil
  | _, _, _ + 1, .nil => .nil
  | _, _, n + 1, .cons r t => .cons r (RepL.take n t)
theorem RepL.drop : ∀ {vs : List V} {ds : List D} (n : Nat), RepL K ρ H vs ds → RepL K ρ H (vs.drop n) (ds.drop n)
  | _, _, 0, r => r
  | _, _, _ + 1, .nil => .nil
  | _, _, n + 1, .cons _ t => RepL.drop n t
theorem RepL.set {v : V} {d : D} (r : Rep K ρ H v d) : ∀ {vs : List V} {ds : List D} (i : Nat), RepL K ρ H vs ds → RepL K ρ H (vs.set i v) (ds.set i d)
  | _, _, _, .nil => .nil
  | _, _, 0, .cons _ t => .cons r t
  | _, _, i + 1, .cons q t => .cons q (RepL.set r i t)
theorem RepL.snoc {v : V} {d : D} {vs : List V} {ds : List D} (t : RepL K ρ H vs ds) (r : Rep K ρ H v d) : RepL K ρ H (vs ++ [v]) (ds ++ [d]) := t.append (.cons r .nil)
theorem RepL.dropLast : ∀ {vs : List V} {ds : List D}, RepL K ρ H vs ds → RepL K ρ H vs.dropLast ds.dropLast
  | _, _, .nil => .nil
  | _, _, .cons _ .nil => .nil
  | _, _, .cons r (.cons q t) => .cons r (RepL.dropLast (.cons q t))
theorem RepL.isEmpty {vs : List V} {ds : List D} (t : RepL K ρ H vs ds) : vs.isEmpty = ds.isEmpty := by cases t <;> rfl
theorem TupAt.sq {a : Addr} {vs : List V} (h : TupAt K ρ H a vs) : SqT K H a vs := by
  rcases h with ⟨h, _⟩ | h
  · exact .inl h
  · rcases h with (h | ⟨o, h⟩) | h
    · cases h
    · cases h
    · exact .inr h
theorem RoAt.sq {a : Addr} {vs : List V} (h : RoAt K ρ H a vs) : SqL K H a vs := by
  rcases h with ⟨h, _⟩ | h
  · exact .inl h
  · rcases h with (h | ⟨o, h⟩) | h
    · cases h
    · cases h
    · exact .inr h
end

/-! ### objects -/
def ObR (K : PySem.W.Frag) (ρ : Ad) (H : Hp) (a : Addr) : MO → Prop
  | .lst ds => ∃ vs, H a = some (.lst vs) ∧ RepL K ρ H vs ds
  | .dct kvs => ∃ us, H a = some (.dK us) ∧ RepK K ρ H us kvs
structure Sim (K : PySem.W.Frag) (ρ : Ad) (h : MH) (H : Hp) : Prop where
  len : ρ.ob.length = h.length
  nd : ρ.ob.Nodup
  at_ : ∀ (n : Nat) a o, ρ.ob[n]? = some a → h[n]? = some o → ObR K ρ H a o
  rsv : ∀ b ∈ ρ.rs, (∃ o, H b = some o) ∧ b ∉ ρ.ob
section
variable {K : PySem.W.Frag} {ρ ρ' : Ad} {H H' : Hp} {h : MH}
theorem ObR.has {a : Addr} {o : MO} (x : ObR K ρ H a o) : ∃ u, H a = some u := by
  cases o with
  | lst ds => obtain ⟨vs, e, _⟩ := x; exact ⟨_, e⟩
  | dct ds => obtain ⟨vs, e, _⟩ := x; exact ⟨_, e⟩
theorem ObR.mono {a : Addr} {o : MO} (x : ObR K ρ H a o) (T : Ch ρ H ρ' H') (e : H' a = H a) : ObR K ρ' H' a o := by
  cases o with
  | lst ds => obtain ⟨vs, x, r⟩ := x; exact ⟨vs, e.trans x, r.mono T⟩
  | dct ds => obtain ⟨vs, x, r⟩ := x; exact ⟨vs, e.trans x, r.mono T⟩
theorem Sim.mem (S : Sim K ρ h H) {a : Addr} (ha : a ∈ ρ.ob) : ∃ (n : Nat) (o : MO), ρ.ob[n]? = some a ∧ h[n]? = some o ∧ ObR K ρ H a o := by
  obtain ⟨n, hn, e⟩ := List.mem_iff_getElem.mp ha
  have hn' : n < h.length := by rw [← S.len]; exact hn
  have e1 : ρ.ob[n]? = some a := by rw [List.getElem?_eq_getElem hn, e]
  exact ⟨n, h[n], e1, List.getElem?_eq_getElem hn', S.at_ n a _ e1 (List.getElem?_eq_getElem hn')⟩
theorem Sim.has (S : Sim K ρ h H) {a : Addr} (ha : ρ.has a) : ∃ u, H a = some u := by
  rcases ha with ha | ha
  · obtain ⟨_, _, _, _, x⟩ := S.mem ha; exact x.has
  · exact (S.rsv a ha).1
theorem Sim.fresh (S : Sim K ρ h H) {p : Addr} (hp : H p = none) : ¬ρ.has p := fun m => by
  obtain ⟨u, e⟩ := S.has m
  rw [hp] at e; cases e
/-- a new thing that is no object of ours -/
theorem Stp.laid (S : Sim K ρ h H) {p : Addr} {o : HO} (hp : H p = none) : Stp ρ H ρ (upd H p o) :=
  ⟨⟨fun _ _ e => e, fun b u n e => ⟨n, by rw [upd_ne (ne_of_none e hp)]; exact e⟩⟩, rfl, fun b hb => by
    obtain ⟨u, e⟩ := (S.rsv b hb).1
    rw [upd_ne (ne_of_none e hp)]⟩
theorem Sim.same (S : Sim K ρ h H) (T : Stp ρ H ρ H') (k : ∀ a ∈ ρ.ob, H' a = H a) : Sim K ρ h H' :=
  ⟨S.len, S.nd, fun n a o e1 e2 => (S.at_ n a o e1 e2).mono T.toCh (k a (List.mem_of_getElem? e1)), fun b hb => ⟨by rw [T.res b hb]; exact (S.rsv b hb).1, (S.rsv b hb).2⟩⟩
theorem Sim.laid (S : Sim K ρ h H) {p : Addr} {o : HO} (hp : H p = none) : Sim K ρ h (upd H p o) :=
  S.same (Stp.laid S hp) fun a ha => by
    obtain ⟨u, e⟩ := S.has (.inl ha)
    rw [upd_ne (ne_of_none e hp)]
/-- a new object -/
abbrev Ad.more (ρ : Ad) (p : Addr) : Ad := ⟨ρ.ob ++ [p], ρ.rs⟩
theorem Stp.made (S : Sim K ρ h H) {p : Addr} {o : HO} (hp : H p = none) : Stp ρ H (ρ.more p) (upd H p o) := by
  refine ⟨⟨fun n a e => ?_, fun b u n e => ?_⟩, rfl, (Stp.laid S hp).res⟩
  · show (ρ.ob ++ [p])[n]? = _
    rw [List.getElem?_append_left (List.getElem?_eq_some_iff.mp e).1]; exact e
  · refine ⟨fun m => ?_, by rw [upd_ne (ne_of_none e hp)]; exact e⟩
    rcases m with m | m
    · rcases List.mem_append.mp m with m | m
      · exact n (.inl m)
      · exact ne_of_none e hp (List.mem_singleton.mp m)
    · exact n (.inr m)
theorem Sim.made (S : Sim K ρ h H) {p : Addr} {u : HO} {o : MO} (hp : H p = none) (ho : ObR K (ρ.more p) (upd H p u) p o) : Sim K (ρ.more p) (h ++ [o]) (upd H p u) := by
  refine ⟨by simp [S.len], ?_, fun n a x e1 e2 => ?_, fun b hb => ?_⟩
  · show (ρ.ob ++ [p]).Nodup
    rw [List.nodup_append]
    refine ⟨S.nd, by simp, fun a ha b hb z => ?_⟩
    rw [List.mem_singleton.mp hb] at z
    exact S.fresh hp (.inl (z ▸ ha))
  · by_cases hn : n < ρ.ob.length
    · have e1 : (ρ.ob ++ [p])[n]? = some a := e1
      rw [List.getElem?_append_left hn] at e1
      rw [List.getElem?_append_left (by rw [← S.len]; exact hn)] at e2
      have q := S.at_ n a x e1 e2
      obtain ⟨w, ew⟩ := q.has
      exact q.mono (Stp.made S hp).toCh (upd_ne (ne_of_none ew hp))
    · have l1 := (List.getElem?_eq_some_iff.mp e1).1
      simp at l1
      have hn' : n = ρ.ob.length := by omega
      subst hn'
      have e1 : (ρ.ob ++ [p])[ρ.ob.length]? = some a := e1
      rw [List.getElem?_append_right (Nat.le_refl _)] at e1
      rw [List.getElem?_append_right (by rw [S.len]; exact Nat.le_refl _)] at e2
      simp at e1
      rw [S.len] at e2
      simp at e2
      subst e1; subst e2
      exact ho
  · obtain ⟨⟨v, e⟩, n⟩ := S.rsv b hb
    have z := ne_of_none e hp
    refine ⟨⟨v, by rw [upd_ne z]; exact e⟩, fun m => ?_⟩
    rcases List.mem_append.mp m with m | m
    · exact n m
    · exact z (List.mem_singleton.mp m)
/-- an object is changed -/
theorem Stp.wrote (S : Sim K ρ h H) {a : Addr} {o : HO} (ha : a ∈ ρ.ob) : Stp ρ H ρ (upd H a o) :=
  ⟨⟨fun _ _ e => e, fun b u n e => ⟨n, by rw [upd_ne (fun (z : b = a) => n (.inl (by rw [z]; exact ha)))]; exact e⟩⟩, rfl, fun b hb => upd_ne fun (z : b = a) => (S.rsv b hb).2 (by rw [z]; exact ha)⟩
theorem Sim.wrote (S : Sim K ρ h H) {n : Nat} {a : Addr} {u : HO} {o : MO} (e : ρ.ob[n]? = some a) (ho : ObR K ρ (upd H a u) a o) : Sim K ρ (h.set n o) (upd H a u) := by
  have ha := List.mem_of_getElem? e
  have T : Stp ρ H ρ (upd H a u) := Stp.wrote S ha
  refine ⟨by rw [List.length_set]; exact S.len, S.nd, fun m b x e1 e2 => ?_, fun b hb => ⟨by rw [T.res b hb]; exact (S.rsv b hb).1, (S.rsv b hb).2⟩⟩
  by_cases hm : n = m
  · subst hm
    have l2 : n < h.length := by rw [← S.len]; exact (List.getElem?_eq_some_iff.mp e).1
    rw [e] at e1; cases e1
    rw [List.getElem?_set_self l2] at e2; cases e2
    exact ho
  · rw [List.getElem?_set_ne hm] at e2
    have q := S.at_ m b x e1 e2
    have hb : b ≠ a := by
      intro z
      subst z
      exact hm ((List.getElem?_inj (List.getElem?_eq_some_iff.mp e).1 S.nd).mp (e.trans e1.symm))
    exact q.mono T.toCh (upd_ne hb)
/-- an address kept from everybody: more, changed, given free -/
abbrev Ad.keep (ρ : Ad) (l : Addr) : Ad := ⟨ρ.ob, l :: ρ.rs⟩
theorem Ch.keep {l : Addr} {o : HO} (hl : H l = none) : Ch ρ H (ρ.keep l) (upd H l o) := by
  refine ⟨fun n a e => e, fun b u n e => ⟨fun m => ?_, by rw [upd_ne (ne_of_none e hl)]; exact e⟩⟩
  rcases m with m | m
  · exact n (.inl m)
  · rcases List.mem_cons.mp m with m | m
    · exact ne_of_none e hl m
    · exact n (.inr m)
theorem Sim.keep (S : Sim K ρ h H) {l : Addr} {o : HO} (hl : H l = none) : Sim K (ρ.keep l) h (upd H l o) := by
  refine ⟨S.len, S.nd, fun n a x e1 e2 => ?_, fun b hb => ?_⟩
  · have q := S.at_ n a x e1 e2
    obtain ⟨w, ew⟩ := q.has
    exact q.mono (Ch.keep hl) (upd_ne (ne_of_none ew hl))
  · rcases List.mem_cons.mp hb with rfl | hb
    · exact ⟨⟨_, upd_same⟩, fun m => S.fresh hl (.inl m)⟩
    · obtain ⟨⟨v, e⟩, n⟩ := S.rsv b hb
      exact ⟨⟨v, by rw [upd_ne (ne_of_none e hl)]; exact e⟩, n⟩
theorem Ch.put {l : Addr} {o : HO} (hl : l ∈ ρ.rs) : Ch ρ H ρ (upd H l o) := ⟨fun n a e => e, fun b u n e => ⟨n, by rw [upd_ne (fun (z : b = l) => n (.inr (by rw [z]; exact hl)))]; exact e⟩⟩
theorem Sim.put (S : Sim K ρ h H) {l : Addr} {o : HO} (hl : l ∈ ρ.rs) : Sim K ρ h (upd H l o) := by
  refine ⟨S.len, S.nd, fun n a x e1 e2 => (S.at_ n a x e1 e2).mono (Ch.put hl) (upd_ne fun (z : a = l) => (S.rsv l hl).2 (by rw [← z]; exact List.mem_of_getElem? e1)), fun b hb => ⟨?_, (S.rsv b hb).2⟩⟩
  by_cases z : b = l
  · subst z; exact ⟨_, upd_same⟩
  · rw [upd_ne z]; exact (S.rsv b hb).1
theorem Ch.free {os rs rs' : List Addr} {H : Hp} (hs : ∀ b ∈ rs', b ∈ rs) : Ch ⟨os, rs⟩ H ⟨os, rs'⟩ H := ⟨fun n a e => e, fun b u n e => ⟨fun m => n (m.elim .inl fun m => .inr (hs b m)), e⟩⟩
theorem Sim.free {os rs rs' : List Addr} {H : Hp} (S : Sim K ⟨os, rs⟩ h H) (hs : ∀ b ∈ rs', b ∈ rs) : Sim K ⟨os, rs'⟩ h H :=
  ⟨S.len, S.nd, fun n a x e1 e2 => (S.at_ n a x e1 e2).mono (Ch.free hs) rfl, fun b hb => S.rsv b (hs b hb)⟩
end

/-! ### the names -/
structure RepS (K : PySem.W.Frag) (ρ : Ad) (H : Hp) (σ : St) (δ : DS) : Prop where
  len : σ.length = δ.length
  at_ : ∀ (i : Nat) d, δ[i]? = some (some d) → ∃ v, σ[i]? = some (some v) ∧ Rep K ρ H v d
section
variable {K : PySem.W.Frag} {ρ ρ' : Ad} {H H' : Hp} {h : MH} {σ : St} {δ : DS}
theorem RepS.mono (R : RepS K ρ H σ δ) (S : Ch ρ H ρ' H') : RepS K ρ' H' σ δ := ⟨R.len, fun i d e => let ⟨v, a, b⟩ := R.at_ i d e; ⟨v, a, b.mono S⟩⟩
theorem RepS.set (R : RepS K ρ H σ δ) {v : V} {d : D} (r : Rep K ρ H v d) (i : Nat) : RepS K ρ H (σ.set i (some v)) (δ.set i (some d)) := by
  refine ⟨by rw [List.length_set, List.length_set]; exact R.len, fun j e he => ?_⟩
  by_cases hij : i = j
  · subst hij
    have hl : i < δ.length := by
      have := (List.getElem?_eq_some_iff.mp he).1
      rw [List.length_set] at this
      exact this
    rw [List.getElem?_set_self hl] at he
    cases he
    exact ⟨v, by rw [List.getElem?_set_self (by rw [R.len]; exact hl)], r⟩
  · rw [List.getElem?_set_ne hij] at he ⊢
    exact R.at_ j e he
end

/-! ### mirrored code -/
abbrev EM := DS → MH → Option (D × MH)
abbrev TM := DS → MH → Option (Bool × MH)
abbrev AM := DS → MH → Option (List D × MH)
inductive Fl where
  | nx | bk | ct | rt (d : D)
abbrev SM := DS → MH → Option (Fl × DS × MH)
abbrev GM := D → DS → MH → Option (DS × MH)
abbrev Fn := List D → MH → Option (D × MH)

def Post (K : PySem.W.Frag) (ρ : Ad) (H : Hp) (h' : MH) (d : D) : VK := fun v H' => ∃ ρ', Stp ρ H ρ' H' ∧ Sim K ρ' h' H' ∧ Rep K ρ' H' v d
def tM (K : PySem.W.Frag) (m : EM) : TE := fun σ H Q => ∃ ρ δ h d h', RepS K ρ H σ δ ∧ Sim K ρ h H ∧ m δ h = some (d, h') ∧ ∀ v H', Post K ρ H h' d v H' → Q v H'
def tMT (K : PySem.W.Frag) (m : TM) : TT := fun σ H Q => ∃ ρ δ h b h', RepS K ρ H σ δ ∧ Sim K ρ h H ∧ m δ h = some (b, h') ∧ ∀ ρ' H', Stp ρ H ρ' H' → Sim K ρ' h' H' → Q b H'
def tMA (K : PySem.W.Frag) (m : AM) : TA := fun σ H Q => ∃ ρ δ h ds h', RepS K ρ H σ δ ∧ Sim K ρ h H ∧ m δ h = some (ds, h') ∧ ∀ vs ρ' H', Stp ρ H ρ' H' → Sim K ρ' h' H' → RepL K ρ' H' vs ds → Q vs H'
def tMS (K : PySem.W.Frag) (m : SM) : TS := fun E σ H => ∃ ρ δ h fl δ' h', RepS K ρ H σ δ ∧ Sim K ρ h H ∧ m δ h = some (fl, δ', h') ∧ ∀ ρ' H', Stp ρ H ρ' H' → Sim K ρ' h' H' →
  match fl with
  | .nx => ∀ σ', RepS K ρ' H' σ' δ' → E.nx σ' H'
  | .bk => ∀ σ', RepS K ρ' H' σ' δ' → E.bk σ' H'
  | .ct => ∀ σ', RepS K ρ' H' σ' δ' → E.ct σ' H'
  | .rt d => ∀ v, Rep K ρ' H' v d → E.rt v H'
def tMG (K : PySem.W.Frag) (m : GM) : TG := fun v σ H Q => ∃ ρ δ h d δ' h', RepS K ρ H σ δ ∧ Sim K ρ h H ∧ Rep K ρ H v d ∧ m d δ h = some (δ', h') ∧ ∀ ρ' H' σ', Stp ρ H ρ' H' → Sim K ρ' h' H' → RepS K ρ' H' σ' δ' → Q σ' H'
def SE (X : Cx) (e : Expr) (m : EM) : Prop := PE X e (tM X.K m)
def ST (X : Cx) (e : Expr) (m : TM) : Prop := PT X e (tMT X.K m)
def SW (X : Cx) (e : Expr) (m : TM) : Prop := PW X e (tMT X.K m)
def SA (X : Cx) (es : List Expr) (m : AM) : Prop := PA X es (tMA X.K m)
def SS (X : Cx) (s : Stmt) (m : SM) : Prop := PS X s (tMS X.K m)
def SSs (X : Cx) (s : List Stmt) (m : SM) : Prop := PSs X s (tMS X.K m)
def SG (X : Cx) (e : Expr) (m : GM) : Prop := PG X e (tMG X.K m)
theorem _root_.L2.PE.imp {X : Cx} {e : Expr} {t t' : TE} (h : PE X e t) (i : ∀ σ H Q, t' σ H Q → t σ H Q) : PE X e t' := fun pins s σ H Q I q => h pins s σ H Q I (i σ H Q q)
theorem _root_.L2.PT.imp {X : Cx} {e : Expr} {t t' : TT} (h : PT X e t) (i : ∀ σ H Q, t' σ H Q → t σ H Q) : PT X e t' := fun pins s σ H Q I q => h pins s σ H Q I (i σ H Q q)
theorem _root_.L2.PW.imp {X : Cx} {e : Expr} {t t' : TT} (h : PW X e t) (i : ∀ σ H Q, t' σ H Q → t σ H Q) : PW X e t' := fun wh pins s σ H Q I q => h wh pins s σ H Q I (i σ H Q q)
theorem _root_.L2.PA.imp {X : Cx} {e : List Expr} {t t' : TA} (h : PA X e t) (i : ∀ σ H Q, t' σ H Q → t σ H Q) : PA X e t' := fun pos pins s σ H Q I q => h pos pins s σ H Q I (i σ H Q q)
theorem _root_.L2.PS.imp {X : Cx} {e : Stmt} {t t' : TS} (h : PS X e t) (i : ∀ E σ H, t' E σ H → t E σ H) : PS X e t' := fun pins s σ H E I q => h pins s σ H E I (i E σ H q)
theorem _root_.L2.PSs.imp {X : Cx} {e : List Stmt} {t t' : TS} (h : PSs X e t) (i : ∀ E σ H, t' E σ H → t E σ H) : PSs X e t' := fun pins s σ H E I q => h pins s σ H E I (i E σ H q)
theorem _root_.L2.PG.imp {X : Cx} {e : Expr} {t t' : TG} (h : PG X e t) (i : ∀ v σ H Q, t' v σ H Q → t v σ H Q) : PG X e t' := fun pins s σ H v u Q I r q => h pins s σ H v u Q I r (i v σ H Q q)
end Sm

namespace Sm
open PySem L2

theorem bnd {α β : Type} {o : Option α} {f : α → Option β} {b : β} (h : o.bind f = some b) : ∃ a, o = some a ∧ f a = some b := Option.bind_eq_some_iff.mp h
theorem mpd {α β : Type} {o : Option α} {f : α → β} {b : β} (h : o.map f = some b) : ∃ a, o = some a ∧ f a = b := Option.map_eq_some_iff.mp h

theorem bl_of {x : D} {α : Type} {g : Bool → Option α} {z : α} (e : (match x with | .bl c => g c | _ => none) = some z) : ∃ c, x = .bl c ∧ g c = some z := by
  cases x <;> first | exact absurd e (by intro z; cases z) | exact ⟨_, rfl, e⟩

section
variable {K : PySem.W.Frag} {ρ ρ' : Ad} {H H' : Hp} {h h' : MH} {d : D} {v : V}
theorem Post.here (S : Sim K ρ h H) (r : Rep K ρ H v d) : Post K ρ H h d v H := ⟨ρ, .refl _ _, S, r⟩
theorem Post.step {ρ1 : Ad} {H1 : Hp} (T : Stp ρ H ρ1 H1) (p : Post K ρ1 H1 h' d v H') : Post K ρ H h' d v H' := let ⟨ρ2, T2, S2, r2⟩ := p; ⟨ρ2, T.trans T2, S2, r2⟩
/-- what is new behind a step was free ahead of it -/
theorem Stp.free (T : Stp ρ H ρ' H') (S : Sim K ρ h H) (S' : Sim K ρ' h' H') {p : Addr} (hp : H' p = none) : H p = none := by
  cases e : H p with
  | none => rfl
  | some o =>
    by_cases m : ρ.has p
    · rcases m with m | m
      · obtain ⟨n, hn⟩ := List.getElem?_of_mem m
        obtain ⟨u, eu⟩ := S'.has (.inl (List.mem_of_getElem? (T.pre n p hn)))
        rw [hp] at eu; cases eu
      · rw [T.res p m, e] at hp; cases hp
    · rw [(T.old p o m e).2] at hp; cases hp
/-- a new tuple, list, as a value -/
theorem Post.tup {p : Addr} {vs : List V} {ds : List D} (S : Sim K ρ h H) (r : RepL K ρ H vs ds) (hp : H p = none) : Post K ρ H h (.tup ds) (.ref p) (upd H p (.tup vs)) :=
  ⟨ρ, Stp.laid S hp, S.laid hp, .tup (.inl ⟨.inl upd_same, S.fresh hp⟩) (r.mono (Stp.laid S hp).toCh)⟩
theorem Post.lv {p : Addr} {vs : List V} {ds : List D} (S : Sim K ρ h H) (r : RepL K ρ H vs ds) (hp : H p = none) : Post K ρ H h (.lv ds) (.ref p) (upd H p (.lst vs)) :=
  ⟨ρ, Stp.laid S hp, S.laid hp, .lv upd_same (S.fresh hp) (r.mono (Stp.laid S hp).toCh)⟩
theorem Post.dv {p : Addr} {us : List (Key × V)} {ds : List (Key × D)} (S : Sim K ρ h H) (r : RepK K ρ H us ds) (hp : H p = none) : Post K ρ H h (.dv ds) (.ref p) (upd H p (.dK us)) :=
  ⟨ρ, Stp.laid S hp, S.laid hp, .dv upd_same (S.fresh hp) (r.mono (Stp.laid S hp).toCh)⟩
end

/-! ### expressions -/
def eVar (i : Nat) : EM := fun δ h => (δ[i]?).join.map fun d => (d, h)
def eK (d : D) : EM := fun _ h => some (d, h)
def eOp (f : D → D → MH → Option (D × MH)) (a b : EM) : EM := fun δ h => (a δ h).bind fun p => (b δ p.2).bind fun q => f p.1 q.1 q.2
def eUn (f : D → MH → Option (D × MH)) (a : EM) : EM := fun δ h => (a δ h).bind fun p => f p.1 p.2
def aNil : AM := fun _ h => some ([], h)
def aCons (a : EM) (r : AM) : AM := fun δ h => (a δ h).bind fun p => (r δ p.2).bind fun q => some (p.1 :: q.1, q.2)
def eFn (f : Fn) (a : AM) : EM := fun δ h => (a δ h).bind fun p => f p.1 p.2
def eIf (t : TM) (a b : EM) : EM := fun δ h => (t δ h).bind fun p => if p.1 then a δ p.2 else b δ p.2
def tBool (a : EM) : TM := fun δ h => (a δ h).bind fun p => match p.1 with
  | .bl b => some (b, p.2)
  | _ => none
def tNot (t : TM) : TM := fun δ h => (t δ h).map fun p => (!p.1, p.2)
def tAnd (a b : TM) : TM := fun δ h => (a δ h).bind fun p => if p.1 then b δ p.2 else some (false, p.2)
def tOr (a b : TM) : TM := fun δ h => (a δ h).bind fun p => if p.1 then some (true, p.2) else b δ p.2
def eAnd (a b : EM) : EM := fun δ h => (a δ h).bind fun p => match p.1 with
  | .bl c => if c then b δ p.2 else some (.bl false, p.2)
  | _ => none
def eOr (a b : EM) : EM := fun δ h => (a δ h).bind fun p => match p.1 with
  | .bl c => if c then some (.bl true, p.2) else b δ p.2
  | _ => none
def fTup : Fn := fun ds h => some (.tup ds, h)
def fLv : Fn := fun ds h => some (.lv ds, h)

def rS (K : PySem.W.Frag) (f : D → D → MH → Option (D × MH)) : R2 := fun x y H Q => ∃ ρ h d e z h', Sim K ρ h H ∧ Rep K ρ H x d ∧ Rep K ρ H y e ∧ f d e h = some (z, h') ∧ ∀ v H', Post K ρ H h' z v H' → Q v H'
def OpS (X : Cx) (g : Value → Value → Sem Value) (f : D → D → MH → Option (D × MH)) : Prop := OpR X g (rS X.K f)
def rU (K : PySem.W.Frag) (f : D → MH → Option (D × MH)) : V → Hp → VK → Prop := fun x H Q => ∃ ρ h d z h', Sim K ρ h H ∧ Rep K ρ H x d ∧ f d h = some (z, h') ∧ ∀ v H', Post K ρ H h' z v H' → Q v H'
def rF (K : PySem.W.Frag) (f : Fn) : List V → Hp → VK → Prop := fun vs H Q => ∃ ρ h ds z h', Sim K ρ h H ∧ RepL K ρ H vs ds ∧ f ds h = some (z, h') ∧ ∀ v H', Post K ρ H h' z v H' → Q v H'
def CallS (X : Cx) (g : Value) (f : Fn) : Prop := CallR X g (rF X.K f)

section
variable {X : Cx} {a b c e : Expr} {es : List Expr} {pos : Pos} {ma mb mc : EM} {mt mu : TM} {m : AM} {f : D → D → MH → Option (D × MH)}
theorem se_var {i : Nat} {x : Str} (hN : X.N[i]? = some x) (hv : Vis X.env.scope x) (hd : (x == ("__debug__" : Str)) = false := by decide) (hcd : (x == ("__classdict__" : Str)) = false := by decide) : SE X (.Name x pos) (eVar i) :=
  (pe_var hN hv hd hcd).imp fun σ H Q ⟨ρ, δ, h, d, h', R, S, e, k⟩ => by
    obtain ⟨d', e1, e2⟩ := mpd e
    cases e2
    obtain ⟨v, ev, r⟩ := R.at_ i _ (Option.join_eq_some_iff.mp e1)
    exact ⟨v, ev, k v H (.here S r)⟩
theorem se_c {v : V} {d : D} (hp : PE X e (tC v)) (hr : ∀ ρ H, Rep X.K ρ H v d) : SE X e (eK d) := hp.imp fun σ H Q ⟨ρ, δ, h, d', h', R, S, ee, k⟩ => by
  cases ee
  exact k v H (.here S (hr _ _))
theorem se_int {i j} : SE X (.Constant (.int i) j pos) (eK (.int i)) := se_c pe_int fun _ _ => .int i
theorem se_bl {b j} : SE X (.Constant (.bool b) j pos) (eK (.bl b)) := se_c pe_bl fun _ _ => .bl b
theorem se_non {j} : SE X (.Constant .none j pos) (eK .non) := se_c pe_non fun _ _ => .non
theorem se_str {x j} (h : PyData.strOk x = true := by decide +kernel) : SE X (.Constant (.str x) j pos) (eK (.str x)) := se_c pe_str fun _ _ => .str h
theorem se_ty {x : Str} {n : String} (hg : Gl X x) (hm : X.mg x = none) (hv : bootBuiltins x = some (.type n)) (hn : x ≠ "__name__" := by decide) (hd : (x == ("__debug__" : Str)) = false := by decide) : SE X (.Name x pos) (eK (.ty n)) :=
  se_c (pe_bltn (v := .ty n) hg hm hv rfl hn hd) fun _ _ => .ty n
theorem se_glob {x : Str} {v : V} {u : Value} {d : D} (hg : Gl X x) (hm : X.mg x = some u) (r : RelV v u) (hr : ∀ ρ H, Rep X.K ρ H v d) (hd : (x == ("__debug__" : Str)) = false := by decide) : SE X (.Name x pos) (eK d) :=
  se_c (pe_glob hg hm r hd) hr

/-- the reading of two in a row -/
theorem rd_op {σ : St} {H : Hp} {Q : VK} (h : tM X.K (eOp f ma mb) σ H Q) : tOp (rS X.K f) (tM X.K ma) (tM X.K mb) σ H Q := by
  obtain ⟨ρ, δ, h, d, h', R, S, e, k⟩ := h
  obtain ⟨⟨x, h1⟩, e1, e⟩ := bnd e
  obtain ⟨⟨y, h2⟩, e2, e3⟩ := bnd e
  refine ⟨ρ, δ, h, x, h1, R, S, e1, fun v H1 ⟨ρ1, T1, S1, r1⟩ => ?_⟩
  refine ⟨ρ1, δ, h1, y, h2, R.mono T1, S1, e2, fun u H2 ⟨ρ2, T2, S2, r2⟩ => ?_⟩
  exact ⟨ρ2, h2, x, y, d, h', S2, r1.mono T2, r2, e3, fun w H3 p => k w H3 (p.step (T1.trans T2))⟩
theorem se_op {op : Operator} (ho : OpS X (binaryOp op) f) (ha : SE X a ma) (hb : SE X b mb) : SE X (.BinOp a op b pos) (eOp f ma mb) := (pe_op ho ha hb).imp fun _ _ _ => rd_op
theorem se_cmp {op : CmpOp} (ho : OpS X (compareOp op) f) (ha : SE X a ma) (hb : SE X b mb) (hm : behindInMarks op b = false) : SE X (.Compare a [op] [b] pos) (eOp f ma mb) := (pe_cmpR ho ha hb hm).imp fun _ _ _ => rd_op
theorem st_cmp {op : CmpOp} (ho : OpS X (compareOp op) f) (ha : SE X a ma) (hb : SE X b mb) (hm : behindInMarks op b = false) : ST X (.Compare a [op] [b] pos) (tBool (eOp f ma mb)) :=
  (pt_cmpR ho ha hb hm).imp fun σ H Q ⟨ρ, δ, h, c, h', R, S, e, k⟩ => by
    obtain ⟨⟨x, h1⟩, e1, e2⟩ := bnd e
    obtain ⟨c', rfl, e2⟩ := bl_of e2
    cases e2
    refine rd_op ⟨ρ, δ, h, .bl c, h1, R, S, e1, fun v H' ⟨ρ', T, S', r⟩ => ?_⟩
    cases r
    exact ⟨c, rfl, k ρ' H' T S'⟩
theorem se_un {op : UnaryOp} {f : D → MH → Option (D × MH)} (ho : UnR X (unaryOp op) (rU X.K f)) (ha : SE X a ma) : SE X (.UnaryOp op a pos) (eUn f ma) := (pe_un ho ha).imp fun σ H Q ⟨ρ, δ, h, d, h', R, S, e, k⟩ => by
  obtain ⟨⟨x, h1⟩, e1, e⟩ := bnd e
  exact ⟨ρ, δ, h, x, h1, R, S, e1, fun v H1 ⟨ρ1, T1, S1, r1⟩ => ⟨ρ1, h1, x, d, h', S1, r1, e, fun w H3 p => k w H3 (p.step T1)⟩⟩
/-! ### argument lists -/
theorem sa_nil : SA X [] aNil := pa_nil.imp fun σ H Q ⟨ρ, δ, h, d, h', R, S, e, k⟩ => by
  cases e
  exact k [] ρ H (.refl _ _) S .nil
theorem sa_cons (ha : SE X e ma) (hr : SA X es m) (hs : starEach (e :: es) X.env = (false, eval e X.env) :: starEach es X.env := by rfl) : SA X (e :: es) (aCons ma m) :=
  (pa_cons ha hr hs).imp fun σ H Q ⟨ρ, δ, h, d, h', R, S, e, k⟩ => by
    obtain ⟨⟨x, h1⟩, e1, e⟩ := bnd e
    obtain ⟨⟨ys, h2⟩, e2, e3⟩ := bnd e
    cases e3
    refine ⟨ρ, δ, h, x, h1, R, S, e1, fun v H1 ⟨ρ1, T1, S1, r1⟩ => ?_⟩
    exact ⟨ρ1, δ, h1, ys, h2, R.mono T1, S1, e2, fun vs ρ2 H2 T2 S2 rs => k _ ρ2 H2 (T1.trans T2) S2 (.cons (r1.mono T2) rs)⟩
def ALen (m : AM) (n : Nat) : Prop := ∀ δ h ds h', m δ h = some (ds, h') → ds.length = n
theorem al_nil : ALen aNil 0 := fun δ h ds h' e => by cases e; rfl
theorem al_cons {n : Nat} (hr : ALen m n) : ALen (aCons ma m) (n + 1) := fun δ h ds h' e => by
  obtain ⟨⟨x, h1⟩, e1, e⟩ := bnd e
  obtain ⟨⟨ys, h2⟩, e2, e3⟩ := bnd e
  cases e3
  rw [List.length_cons, hr _ _ _ _ e2]
theorem se_tup {x1} {n : Nat} (h : SA X es m) (hl : ALen m n) (hn : n ≤ sizeLine := by decide) : SE X (.Tuple es x1 pos) (eFn fTup m) := (pe_tup h).imp fun σ H Q ⟨ρ, δ, h, d, h', R, S, e, k⟩ => by
  obtain ⟨⟨x, h1⟩, e1, e⟩ := bnd e
  cases e
  refine ⟨ρ, δ, h, x, h1, R, S, e1, fun vs ρ1 H1 T1 S1 r1 => ⟨by rw [r1.length, hl _ _ _ _ e1]; exact hn, fun p hp => k _ _ (Post.step T1 (.tup S1 r1 hp))⟩⟩
/-- fresh lists, dicts: as a value, or as an object of ours -/
def tFL (K : PySem.W.Frag) (m : AM) : TE := fun σ H Q => ∃ ρ δ h ds h', RepS K ρ H σ δ ∧ Sim K ρ h H ∧ m δ h = some (ds, h') ∧ ∀ ρ1 H1 p vs, Stp ρ H ρ1 H1 → Sim K ρ1 h' H1 → H1 p = none → RepL K ρ1 H1 vs ds → Q (.ref p) (upd H1 p (.lst vs))
def SFL (X : Cx) (e : Expr) (m : AM) : Prop := PE X e (tFL X.K m)
def eLv (m : AM) : EM := fun δ h => (m δ h).map fun p => (.lv p.1, p.2)
def eOb (m : AM) : EM := fun δ h => (m δ h).map fun p => (.ob p.2.length, p.2 ++ [.lst p.1])
theorem Post.ob {K : PySem.W.Frag} {ρ : Ad} {H : Hp} {h : MH} {p : Addr} {vs : List V} {ds : List D} (S : Sim K ρ h H) (r : RepL K ρ H vs ds) (hp : H p = none) : Post K ρ H (h ++ [.lst ds]) (.ob h.length) (.ref p) (upd H p (.lst vs)) :=
  ⟨ρ.more p, Stp.made S hp, S.made hp ⟨vs, upd_same, r.mono (Stp.made S hp).toCh⟩, .ob (show (ρ.ob ++ [p])[h.length]? = _ by rw [← S.len, List.getElem?_append_right (Nat.le_refl _)]; simp)⟩
theorem Post.obD {K : PySem.W.Frag} {ρ : Ad} {H : Hp} {h : MH} {p : Addr} {vs : List (Key × V)} {ds : List (Key × D)} (S : Sim K ρ h H) (r : RepK K ρ H vs ds) (hp : H p = none) : Post K ρ H (h ++ [.dct ds]) (.ob h.length) (.ref p) (upd H p (.dK vs)) :=
  ⟨ρ.more p, Stp.made S hp, S.made hp ⟨vs, upd_same, r.mono (Stp.made S hp).toCh⟩, .ob (show (ρ.ob ++ [p])[h.length]? = _ by rw [← S.len, List.getElem?_append_right (Nat.le_refl _)]; simp)⟩
theorem SFL.lv (h : SFL X e m) : SE X e (eLv m) := h.imp fun σ H Q ⟨ρ, δ, h, d, h', R, S, e, k⟩ => by
  obtain ⟨⟨ds, h1⟩, e1, e2⟩ := mpd e
  cases e2
  exact ⟨ρ, δ, h, ds, h1, R, S, e1, fun ρ1 H1 p vs T S1 hp r => k _ _ (Post.step T (.lv S1 r hp))⟩
theorem SFL.ob (h : SFL X e m) : SE X e (eOb m) := h.imp fun σ H Q ⟨ρ, δ, h, d, h', R, S, e, k⟩ => by
  obtain ⟨⟨ds, h1⟩, e1, e2⟩ := mpd e
  cases e2
  exact ⟨ρ, δ, h, ds, h1, R, S, e1, fun ρ1 H1 p vs T S1 hp r => k _ _ (Post.step T (.ob S1 r hp))⟩
theorem sf_lst {n : Nat} (h : SA X es m) (hl : ALen m n) (hn : n ≤ sizeLine := by decide) : SFL X (.List es pos) m := (pe_lst h).imp fun σ H Q ⟨ρ, δ, h, ds, h', R, S, e, k⟩ =>
  ⟨ρ, δ, h, ds, h', R, S, e, fun vs ρ1 H1 T1 S1 r1 => ⟨by rw [r1.length, hl _ _ _ _ e]; exact hn, fun p hp => k ρ1 H1 p vs T1 S1 hp r1⟩⟩
def eDv : EM := fun _ h => some (.dv [], h)
def eDo : EM := fun _ h => some (.ob h.length, h ++ [.dct []])
theorem se_dv : SE X (.Dict [] [] pos) eDv := pe_dnewK.imp fun σ H Q ⟨ρ, δ, h, d, h', R, S, e, k⟩ p hp => by
  cases e
  exact k _ _ (.dv S .nil hp)
theorem se_do : SE X (.Dict [] [] pos) eDo := pe_dnewK.imp fun σ H Q ⟨ρ, δ, h, d, h', R, S, e, k⟩ p hp => by
  cases e
  exact k _ _ (.obD S .nil hp)

/-! ### tests, and, or, not, if -/
theorem rd_bool {σ : St} {H : Hp} {Q : Bool → Hp → Prop} (h : tMT X.K (tBool ma) σ H Q) : tM X.K ma σ H fun x H1 => ∃ c, x = .bl c ∧ Q c H1 := by
  obtain ⟨ρ, δ, h, c, h', R, S, e, k⟩ := h
  obtain ⟨⟨x, h1⟩, e1, e2⟩ := bnd e
  obtain ⟨c', rfl, e2⟩ := bl_of e2
  cases e2
  refine ⟨ρ, δ, h, .bl c, h1, R, S, e1, fun v H' ⟨ρ', T, S', r⟩ => ?_⟩
  cases r
  exact ⟨c, rfl, k ρ' H' T S'⟩
theorem st_not (h : ST X a mt) : ST X (.UnaryOp .Not a pos) (tNot mt) := (pt_not h).imp fun σ H Q ⟨ρ, δ, h, c, h', R, S, e, k⟩ => by
  obtain ⟨⟨x, h1⟩, e1, e2⟩ := mpd e
  cases e2
  exact ⟨ρ, δ, h, x, h1, R, S, e1, fun ρ' H' T S' => k ρ' H' T S'⟩
theorem sw_and1 (h : ST X a mt) : SW X (.BoolOp .And [a] pos) mt := pw_and1 h
theorem sw_or1 (h : ST X a mt) : SW X (.BoolOp .Or [a] pos) mt := pw_or1 h
theorem sw_and {rest : List Expr} (ha : ST X a mt) (hb : SW X (.BoolOp .And (b :: rest) pos) mu) : SW X (.BoolOp .And (a :: b :: rest) pos) (tAnd mt mu) := (pw_and ha hb).imp fun σ H Q ⟨ρ, δ, h, c, h', R, S, e, k⟩ => by
  obtain ⟨⟨x, h1⟩, e1, e2⟩ := bnd e
  refine ⟨ρ, δ, h, x, h1, R, S, e1, fun ρ' H' T S' => ?_⟩
  cases x with
  | true => rw [if_pos rfl] at e2 ⊢; exact ⟨ρ', δ, h1, c, h', R.mono T, S', e2, fun ρ2 H2 T2 S2 => k ρ2 H2 (T.trans T2) S2⟩
  | false => rw [if_neg (by simp)] at e2 ⊢; cases e2; exact k ρ' H' T S'
theorem sw_or {rest : List Expr} (ha : ST X a mt) (hb : SW X (.BoolOp .Or (b :: rest) pos) mu) : SW X (.BoolOp .Or (a :: b :: rest) pos) (tOr mt mu) := (pw_or ha hb).imp fun σ H Q ⟨ρ, δ, h, c, h', R, S, e, k⟩ => by
  obtain ⟨⟨x, h1⟩, e1, e2⟩ := bnd e
  refine ⟨ρ, δ, h, x, h1, R, S, e1, fun ρ' H' T S' => ?_⟩
  cases x with
  | false => rw [if_neg (by simp)] at e2 ⊢; exact ⟨ρ', δ, h1, c, h', R.mono T, S', e2, fun ρ2 H2 T2 S2 => k ρ2 H2 (T.trans T2) S2⟩
  | true => rw [if_pos rfl] at e2 ⊢; cases e2; exact k ρ' H' T S'
theorem SW.st (h : SW X a mt) : ST X a mt := PW.pt h
theorem se_one {op} (h : SE X a ma) : SE X (.BoolOp op [a] pos) ma := pe_one h
theorem se_and {rest : List Expr} (ha : SE X a ma) (hb : SE X (.BoolOp .And (b :: rest) pos) mb) : SE X (.BoolOp .And (a :: b :: rest) pos) (eAnd ma mb) := (pe_and ha hb).imp fun σ H Q ⟨ρ, δ, h, d, h', R, S, e, k⟩ => by
  obtain ⟨⟨x, h1⟩, e1, e2⟩ := bnd e
  obtain ⟨c, rfl, e2⟩ := bl_of e2
  refine ⟨ρ, δ, h, .bl c, h1, R, S, e1, fun v H' ⟨ρ', T, S', r⟩ => ?_⟩
  cases r
  refine ⟨c, rfl, ?_⟩
  cases c with
  | true => rw [if_pos rfl] at e2 ⊢; exact ⟨ρ', δ, h1, d, h', R.mono T, S', e2, fun v H2 p => k v H2 (p.step T)⟩
  | false => rw [if_neg (by simp)] at e2 ⊢; cases e2; exact k _ _ ⟨ρ', T, S', .bl _⟩
theorem se_or {rest : List Expr} (ha : SE X a ma) (hb : SE X (.BoolOp .Or (b :: rest) pos) mb) : SE X (.BoolOp .Or (a :: b :: rest) pos) (eOr ma mb) := (pe_or ha hb).imp fun σ H Q ⟨ρ, δ, h, d, h', R, S, e, k⟩ => by
  obtain ⟨⟨x, h1⟩, e1, e2⟩ := bnd e
  obtain ⟨c, rfl, e2⟩ := bl_of e2
  refine ⟨ρ, δ, h, .bl c, h1, R, S, e1, fun v H' ⟨ρ', T, S', r⟩ => ?_⟩
  cases r
  refine ⟨c, rfl, ?_⟩
  cases c with
  | false => rw [if_neg (by simp)] at e2 ⊢; exact ⟨ρ', δ, h1, d, h', R.mono T, S', e2, fun v H2 p => k v H2 (p.step T)⟩
  | true => rw [if_pos rfl] at e2 ⊢; cases e2; exact k _ _ ⟨ρ', T, S', .bl _⟩
def eNot (a : EM) : EM := fun δ h => (a δ h).bind fun p => match p.1 with
  | .bl c => some (.bl (!c), p.2)
  | _ => none
theorem se_not (ha : SE X a ma) : SE X (.UnaryOp .Not a pos) (eNot ma) := (pe_not ha).imp fun σ H Q ⟨ρ, δ, h, d, h', R, S, e, k⟩ => by
  obtain ⟨⟨x, h1⟩, e1, e2⟩ := bnd e
  obtain ⟨c, rfl, e2⟩ := bl_of e2
  cases e2
  refine ⟨ρ, δ, h, .bl c, h1, R, S, e1, fun v H' ⟨ρ', T, S', r⟩ => ?_⟩
  cases r
  exact ⟨c, rfl, k _ _ ⟨ρ', T, S', .bl _⟩⟩
theorem se_if (hc : ST X c mt) (ha : SE X a ma) (hb : SE X b mb) : SE X (.IfExp c a b pos) (eIf mt ma mb) := (pe_ifExp hc ha hb).imp fun σ H Q ⟨ρ, δ, h, d, h', R, S, e, k⟩ => by
  obtain ⟨⟨x, h1⟩, e1, e2⟩ := bnd e
  refine ⟨ρ, δ, h, x, h1, R, S, e1, fun ρ' H' T S' => ?_⟩
  cases x with
  | true => rw [if_pos rfl] at e2 ⊢; exact ⟨ρ', δ, h1, d, h', R.mono T, S', e2, fun v H2 p => k v H2 (p.step T)⟩
  | false => rw [if_neg (by simp)] at e2 ⊢; exact ⟨ρ', δ, h1, d, h', R.mono T, S', e2, fun v H2 p => k v H2 (p.step T)⟩
/-- a value's truth -/
def lOf (d : D) (h : MH) : Option (List D) := match d with
  | .lv xs => some xs
  | .ro xs => some xs
  | .ob n => match h[n]? with
    | some (.lst xs) => some xs
    | _ => none
  | _ => none
def truD (d : D) (h : MH) : Option Bool := match d with
  | .non => some false
  | .bl b => some b
  | .int i => some (i != 0)
  | .str x => if x.length ≤ sizeLine then some ((x.length : Int) != 0) else none
  | .tup xs => some (!xs.isEmpty)
  | .dv kvs => some (!kvs.isEmpty)
  | .ob n => match h[n]? with
    | some (.lst xs) => some (!xs.isEmpty)
    | some (.dct kvs) => some (!kvs.isEmpty)
    | none => none
  | .lv xs => some (!xs.isEmpty)
  | .ro xs => some (!xs.isEmpty)
  | .ty _ => none
def tVal (a : EM) : TM := fun δ h => (a δ h).bind fun p => (truD p.1 p.2).map fun c => (c, p.2)
theorem RepK.isEmpty {K : PySem.W.Frag} {ρ : Ad} {H : Hp} {us : List (Key × V)} {ds : List (Key × D)} (t : RepK K ρ H us ds) : us.isEmpty = ds.isEmpty := by cases t <;> rfl
theorem truV_of {K : PySem.W.Frag} {ρ : Ad} {H : Hp} {h : MH} {v : V} {d : D} {c : Bool} (S : Sim K ρ h H) (r : Rep K ρ H v d) (e : truD d h = some c) : TruV K v H c := by
  cases r with
  | non => cases e; exact rfl
  | bl b => cases e; exact rfl
  | int i => cases e; exact rfl
  | str hs =>
    unfold truD at e
    by_cases z : ‹Str›.length ≤ sizeLine
    · simp only [if_pos z] at e; cases e; exact ⟨z, rfl⟩
    · simp only [if_neg z] at e; cases e
  | ty n => cases e
  | tup ht l => cases e; exact .inr (.inl ⟨_, ht.sq, by rw [l.isEmpty]⟩)
  | lv ht n l => cases e; exact .inl ⟨_, SqL.of ht, by rw [l.isEmpty]⟩
  | ro ht l => cases e; exact .inl ⟨_, ht.sq, by rw [l.isEmpty]⟩
  | dv ht n l => cases e; exact .inr (.inr ⟨_, ht, by rw [l.isEmpty]⟩)
  | ob hn =>
    unfold truD at e
    rename_i a n
    cases q : h[n]? with
    | none => simp only [q] at e; cases e
    | some o =>
      have x := S.at_ n a o hn q
      cases o with
      | lst ds => simp only [q] at e; cases e; obtain ⟨vs, e1, l⟩ := x; exact .inl ⟨_, SqL.of e1, by rw [l.isEmpty]⟩
      | dct ds => simp only [q] at e; cases e; obtain ⟨vs, e1, l⟩ := x; exact .inr (.inr ⟨_, e1, by rw [l.isEmpty]⟩)
theorem st_val (ha : SE X a ma) (he : ∀ whole, isTrue a X.env whole = (do let v ← whole; standAt a.pos; holding [v] (truthy v)) := by intro _; rfl) : ST X a (tVal ma) := (pt_truth ha he).imp fun σ H Q ⟨ρ, δ, h, c, h', R, S, e, k⟩ => by
  obtain ⟨⟨x, h1⟩, e1, e2⟩ := bnd e
  obtain ⟨c', e3, e4⟩ := mpd e2
  cases e4
  exact ⟨ρ, δ, h, x, h1, R, S, e1, fun v H' ⟨ρ', T, S', r⟩ => ⟨c, truV_of S' r e3, k ρ' H' T S'⟩⟩
end
end Sm

namespace Sm
open PySem L2

/-! ### equal data -/
mutual
def beqD : D → D → Bool
  | .non, .non => true
  | .bl a, .bl b => a == b
  | .int a, .int b => a == b
  | .str a, .str b => decide (a = b)
  | .ty a, .ty b => a == b
  | .tup a, .tup b => beqL a b
  | .lv a, .lv b => beqL a b
  | .ro a, .ro b => beqL a b
  | .dv a, .dv b => beqK a b
  | .ob a, .ob b => a == b
  | _, _ => false
def beqL : List D → List D → Bool
  | [], [] => true
  | a :: r, b :: s => beqD a b && beqL r s
  | _, _ => false
def beqK : List (Key × D) → List (Key × D) → Bool
  | [], [] => true
  | (k, a) :: r, (j, b) :: s => decide (k = j) && beqD a b && beqK r s
  | _, _ => false
end
mutual
theorem beqD_eq : ∀ (a b : D), beqD a b = true → a = b
  | .non, b, h => by cases b <;> first | rfl | simp [beqD] at h
  | .bl x, b, h => by cases b <;> simp [beqD] at h; rw [h]
  | .int x, b, h => by cases b <;> simp [beqD] at h; rw [h]
  | .str x, b, h => by cases b <;> simp [beqD] at h; rw [h]
  | .ty x, b, h => by cases b <;> simp [beqD] at h; rw [h]
  | .ob x, b, h => by cases b <;> simp [beqD] at h; rw [h]
  | .tup x, b, h => by cases b <;> simp [beqD] at h; rw [beqL_eq _ _ h]
  | .lv x, b, h => by cases b <;> simp [beqD] at h; rw [beqL_eq _ _ h]
  | .ro x, b, h => by cases b <;> simp [beqD] at h; rw [beqL_eq _ _ h]
  | .dv x, b, h => by cases b <;> simp [beqD] at h; rw [beqK_eq _ _ h]
theorem beqL_eq : ∀ (a b : List D), beqL a b = true → a = b
  | [], b, h => by cases b <;> first | rfl | simp [beqL] at h
  | x :: r, b, h => by
    cases b with
    | nil => simp [beqL] at h
    | cons y s => simp [beqL] at h; rw [beqD_eq _ _ h.1, beqL_eq _ _ h.2]
theorem beqK_eq : ∀ (a b : List (Key × D)), beqK a b = true → a = b
  | [], b, h => by cases b <;> first | rfl | simp [beqK] at h
  | (k, x) :: r, b, h => by
    cases b with
    | nil => simp [beqK] at h
    | cons y s =>
      obtain ⟨j, y⟩ := y
      simp [beqK] at h
      rw [h.1.1, beqD_eq _ _ h.1.2, beqK_eq _ _ h.2]
end
mutual
theorem beqD_refl : ∀ (a : D), beqD a a = true
  | .non => rfl
  | .bl x => by simp [beqD]
  | .int x => by simp [beqD]
  | .str x => by simp [beqD]
  | .ty x => by simp [beqD]
  | .ob x => by simp [beqD]
  | .tup x => by simp [beqD]; exact beqL_refl x
  | .lv x => by simp [beqD]; exact beqL_refl x
  | .ro x => by simp [beqD]; exact beqL_refl x
  | .dv x => by simp [beqD]; exact beqK_refl x
theorem beqL_refl : ∀ (a : List D), beqL a a = true
  | [] => rfl
  | x :: r => by simp [beqL]; exact ⟨beqD_refl x, beqL_refl r⟩
theorem beqK_refl : ∀ (a : List (Key × D)), beqK a a = true
  | [] => rfl
  | (k, x) :: r => by simp [beqK]; exact ⟨beqD_refl x, beqK_refl r⟩
end
def beqO : MO → MO → Bool
  | .lst a, .lst b => beqL a b
  | .dct a, .dct b => beqK a b
  | _, _ => false
theorem beqO_eq {a b : MO} (h : beqO a b = true) : a = b := by
  cases a <;> cases b <;> simp [beqO] at h
  · rw [beqL_eq _ _ h]
  · rw [beqK_eq _ _ h]
theorem beqO_refl (a : MO) : beqO a a = true := by
  cases a with
  | lst x => exact beqL_refl x
  | dct x => exact beqK_refl x
def beqH : MH → MH → Bool
  | [], [] => true
  | a :: r, b :: s => beqO a b && beqH r s
  | _, _ => false
theorem beqH_eq : ∀ {a b : MH}, beqH a b = true → a = b
  | [], b, h => by cases b <;> first | rfl | simp [beqH] at h
  | x :: r, b, h => by
    cases b with
    | nil => simp [beqH] at h
    | cons y s => simp [beqH] at h; rw [beqO_eq h.1, beqH_eq h.2]
theorem beqH_refl : ∀ (a : MH), beqH a a = true
  | [] => rfl
  | x :: r => by simp [beqH]; exact ⟨beqO_refl x, beqH_refl r⟩

/-! ### statements -/
def sNil : SM := fun δ h => some (.nx, δ, h)
def sBrk : SM := fun δ h => some (.bk, δ, h)
def sCont : SM := fun δ h => some (.ct, δ, h)
def sNever : SM := fun _ _ => none
def sSeq (a b : SM) : SM := fun δ h => (a δ h).bind fun r => match r.1 with
  | .nx => b r.2.1 r.2.2
  | _ => some r
def sSet (i : Nat) (e : EM) : SM := fun δ h => (e δ h).bind fun p => some (.nx, δ.set i (some p.1), p.2)
def sAsg (e : EM) (g : GM) : SM := fun δ h => (e δ h).bind fun p => (g p.1 δ p.2).bind fun q => some (.nx, q.1, q.2)
def sExpr (e : EM) : SM := fun δ h => (e δ h).bind fun p => some (.nx, δ, p.2)
def sRet (e : EM) : SM := fun δ h => (e δ h).bind fun p => some (.rt p.1, δ, p.2)
def sRetN : SM := fun δ h => some (.rt .non, δ, h)
def sIf (t : TM) (a b : SM) : SM := fun δ h => (t δ h).bind fun p => if p.1 then a δ p.2 else b δ p.2
def sAug (i : Nat) (f : D → D → MH → Option (D × MH)) (e : EM) : SM := fun δ h => ((δ[i]?).join).bind fun x => (e δ h).bind fun p => (f x p.1 p.2).bind fun q => some (.nx, δ.set i (some q.1), q.2)
def gN (i : Nat) : GM := fun d δ h => some (δ.set i (some d), h)
abbrev GMs := List D → DS → MH → Option (DS × MH)
def gsNil : GMs := fun ds δ h => match ds with
  | [] => some (δ, h)
  | _ => none
def gsCons (g : GM) (u : GMs) : GMs := fun ds δ h => match ds with
  | [] => none
  | d :: r => (g d δ h).bind fun p => u r p.1 p.2
def gT (n : Nat) (u : GMs) : GM := fun d δ h => match d with
  | .tup xs => if xs.length = n then u xs δ h else none
  | _ => none
abbrev W := List (Nat × MO)
abbrev IM := DS → MH → Option (List D × W × MH)
def chk : W → MH → Bool
  | [], _ => true
  | (n, o) :: r, h => (match h[n]? with | some u => beqO u o | none => false) && chk r h
def forD (ws : W) (g : GM) (b : SM) : List D → SM
  | [], δ, h => if chk ws h then some (.nx, δ, h) else none
  | x :: r, δ, h => if chk ws h then (g x δ h).bind fun q => (b q.1 q.2).bind fun z => match z.1 with
    | .nx => forD ws g b r z.2.1 z.2.2
    | .ct => forD ws g b r z.2.1 z.2.2
    | .bk => some (.nx, z.2.1, z.2.2)
    | .rt d => some (.rt d, z.2.1, z.2.2)
    else none
def sFor (i : IM) (g : GM) (b : SM) : SM := fun δ h => (i δ h).bind fun p => forD p.2.1 g b p.1 δ p.2.2
def whileD (c : TM) (b : SM) : Nat → SM
  | 0, _, _ => none
  | n + 1, δ, h => (c δ h).bind fun p => if p.1 then (b δ p.2).bind fun z => match z.1 with
      | .nx => whileD c b n z.2.1 z.2.2
      | .ct => whileD c b n z.2.1 z.2.2
      | .bk => some (.nx, z.2.1, z.2.2)
      | .rt d => some (.rt d, z.2.1, z.2.2)
    else some (.nx, δ, p.2)

section
variable {X : Cx} {a b c e tg iter : Expr} {es : List Expr} {st : Stmt} {sts rest : List Stmt} {pos : Pos} {ma mb : EM} {mt : TM} {ms mu : SM} {m : AM} {g : GM} {gs : GMs}
theorem ss_nil : SSs X [] sNil := pss_nil.imp fun E σ H ⟨ρ, δ, h, fl, δ', h', R, S, e, k⟩ => by
  cases e
  exact k ρ H (.refl _ _) S σ R
theorem ss_pass : SS X (.Pass pos) sNil := ps_pass.imp fun E σ H ⟨ρ, δ, h, fl, δ', h', R, S, e, k⟩ => by
  cases e
  exact k ρ H (.refl _ _) S σ R
theorem ss_doc {x j pos'} : SS X (.Expr (.Constant (.str x) j pos) pos') sNil := ps_doc.imp fun E σ H ⟨ρ, δ, h, fl, δ', h', R, S, e, k⟩ => by
  cases e
  exact k ρ H (.refl _ _) S σ R
theorem ss_brk : SS X (.Break pos) sBrk := ps_break.imp fun E σ H ⟨ρ, δ, h, fl, δ', h', R, S, e, k⟩ => by
  cases e
  exact k ρ H (.refl _ _) S σ R
theorem ss_cont : SS X (.Continue pos) sCont := ps_continue.imp fun E σ H ⟨ρ, δ, h, fl, δ', h', R, S, e, k⟩ => by
  cases e
  exact k ρ H (.refl _ _) S σ R
theorem ss_never : SS X st sNever := ps_never.imp fun E σ H ⟨ρ, δ, h, fl, δ', h', R, S, e, k⟩ => by cases e
theorem rd_seq {E : Ends} {σ : St} {H : Hp} (hh : tMS X.K (sSeq ms mu) E σ H) : tSeq (tMS X.K ms) (tMS X.K mu) E σ H := by
  obtain ⟨ρ, δ, h, fl, δ', h', R, S, e, k⟩ := hh
  obtain ⟨⟨f1, δ1, h1⟩, e1, e2⟩ := bnd e
  cases f1 with
  | nx => exact ⟨ρ, δ, h, .nx, δ1, h1, R, S, e1, fun ρ1 H1 T1 S1 σ' R' => ⟨ρ1, δ1, h1, fl, δ', h', R', S1, e2, fun ρ2 H2 T2 S2 => k ρ2 H2 (T1.trans T2) S2⟩⟩
  | bk => cases e2; exact ⟨ρ, δ, h, .bk, _, _, R, S, e1, fun ρ1 H1 T1 S1 => k ρ1 H1 T1 S1⟩
  | ct => cases e2; exact ⟨ρ, δ, h, .ct, _, _, R, S, e1, fun ρ1 H1 T1 S1 => k ρ1 H1 T1 S1⟩
  | rt d => cases e2; exact ⟨ρ, δ, h, .rt d, _, _, R, S, e1, fun ρ1 H1 T1 S1 => k ρ1 H1 T1 S1⟩
theorem ss_cons (h1 : SS X st ms) (h2 : SSs X rest mu) : SSs X (st :: rest) (sSeq ms mu) := (pss_cons h1 h2).imp fun _ _ _ => rd_seq
theorem ss_one (h1 : SS X st ms) : SSs X [st] ms := pss_one h1
theorem rd_set {E : Ends} {σ : St} {H : Hp} {i : Nat} (hh : tMS X.K (sSet i ma) E σ H) : tAsg (tM X.K ma) (gName i) E σ H := by
  obtain ⟨ρ, δ, h, fl, δ', h', R, S, e, k⟩ := hh
  obtain ⟨⟨x, h1⟩, e1, e2⟩ := bnd e
  cases e2
  exact ⟨ρ, δ, h, x, h1, R, S, e1, fun v H1 ⟨ρ1, T1, S1, r1⟩ => k ρ1 H1 T1 S1 _ ((R.mono T1).set r1 i)⟩
theorem ss_set {i : Nat} {x : Str} {pos' : Pos} (hN : X.N.Nodup) (hi : X.N[i]? = some x) (hx : Loc X.env.scope x) (he : SE X e ma) (hs : swapsWith e (some (.Name x pos')) pos.line X.env = pure false := by rfl)
    (hf : X.fn x = true ∨ X.env.scope.names.lookup x = some .local := by first | exact .inl rfl | exact .inr rfl | assumption) : SS X (.Assign [.Name x pos'] e pos) (sSet i ma) := (ps_set hN hi hx he hs hf).imp fun _ _ _ => rd_set
/-! ### targets -/
theorem sg_name {i : Nat} {x : Str} (hN : X.N.Nodup) (hi : X.N[i]? = some x) (hx : Loc X.env.scope x) (hf : X.fn x = true ∨ X.env.scope.names.lookup x = some .local := by first | exact .inl rfl | exact .inr rfl | assumption) : SG X (.Name x pos) (gN i) :=
  (pg_name hN hi hx hf).imp fun v σ H Q ⟨ρ, δ, h, d, δ', h', R, S, r, e, k⟩ => by
    cases e
    exact k ρ H _ (.refl _ _) S (R.set r i)
def tMGs (K : PySem.W.Frag) (m : GMs) : TGs := fun vs σ H Q => ∃ ρ δ h ds δ' h', RepS K ρ H σ δ ∧ Sim K ρ h H ∧ RepL K ρ H vs ds ∧ m ds δ h = some (δ', h') ∧ ∀ ρ' H' σ', Stp ρ H ρ' H' → Sim K ρ' h' H' → RepS K ρ' H' σ' δ' → Q σ' H'
def SGs (X : Cx) (es : List Expr) (m : GMs) : Prop := PGs X es (tMGs X.K m)
theorem _root_.L2.PGs.imp {X : Cx} {e : List Expr} {t t' : TGs} (h : PGs X e t) (i : ∀ v σ H Q, t' v σ H Q → t v σ H Q) : PGs X e t' := fun pins s σ H v u Q I r q => h pins s σ H v u Q I r (i v σ H Q q)
theorem sgs_nil : SGs X [] gsNil := pgs_nil.imp fun v σ H Q ⟨ρ, δ, h, d, δ', h', R, S, r, e, k⟩ => by
  cases r with
  | nil => cases e; exact ⟨rfl, k ρ H σ (.refl _ _) S R⟩
  | cons _ _ => cases e
theorem sgs_cons (h1 : SG X e g) (h2 : SGs X es gs) (hs : (assignEach (e :: es) X.env).map (·.2) = assign e X.env :: (assignEach es X.env).map (·.2) := by rfl) : SGs X (e :: es) (gsCons g gs) := (pgs_cons h1 h2 hs).imp fun v σ H Q ⟨ρ, δ, h, d, δ', h', R, S, r, e, k⟩ => by
  cases r with
  | nil => cases e
  | cons r rs =>
    obtain ⟨⟨δ1, h1⟩, e1, e2⟩ := bnd e
    exact ⟨_, _, rfl, ρ, δ, h, _, δ1, h1, R, S, r, e1, fun ρ1 H1 σ1 T1 S1 R1 => ⟨ρ1, δ1, h1, _, δ', h', R1, S1, rs.mono T1, e2, fun ρ2 H2 σ2 T2 S2 R2 => k ρ2 H2 σ2 (T1.trans T2) S2 R2⟩⟩
theorem sg_tup {k0 : Nat} {n : Nat} (hc : X.calm = true) (h : SGs X es gs) (hn : (assignEach es X.env).length = n := by rfl) (hst : (assignEach es X.env).findIdx? (·.1) = none := by rfl) : SG X (.Tuple es k0 pos) (gT n gs) :=
  (pg_tup hc h hn hst).imp fun v σ H Q ⟨ρ, δ, h, d, δ', h', R, S, r, e, k⟩ => by
    cases r <;> first | (exact absurd e (by intro z; cases z)) | skip
    rename_i a vs ds ht l _
    unfold gT at e
    dsimp only at e
    by_cases z : ds.length = n
    · rw [if_pos z] at e
      exact ⟨a, vs, rfl, ht.sq, by rw [l.length]; exact z, ρ, δ, h, ds, δ', h', R, S, l, e, k⟩
    · rw [if_neg z] at e; cases e
theorem ss_asg (he : SE X e ma) (hg : SG X tg g) (hs : swapsWithSole [tg] e pos.line X.env = pure false := by rfl) (hw : swappedStores [tg] e X.env = pure none := by rfl)
    (h1 : (assignEach [tg] X.env).map (·.2) = [assign tg X.env] := by rfl) : SS X (.Assign [tg] e pos) (sAsg ma g) := (ps_asg he hg hs hw h1).imp fun E σ H ⟨ρ, δ, h, fl, δ', h', R, S, e, k⟩ => by
  obtain ⟨⟨x, h1⟩, e1, e2⟩ := bnd e
  obtain ⟨⟨δ2, h2⟩, e4, e3⟩ := bnd e2
  cases e3
  exact ⟨ρ, δ, h, x, h1, R, S, e1, fun v H1 ⟨ρ1, T1, S1, r1⟩ => ⟨ρ1, δ, h1, x, _, _, R.mono T1, S1, r1, e4, fun ρ2 H2 σ2 T2 S2 R2 => k ρ2 H2 (T1.trans T2) S2 σ2 R2⟩⟩
theorem ss_expr (he : SE X e ma) (hs : swapsWith e none pos.line X.env = pure false := by rfl) : SS X (.Expr e pos) (sExpr ma) := (ps_expr he hs).imp fun E σ H ⟨ρ, δ, h, fl, δ', h', R, S, e, k⟩ => by
  obtain ⟨⟨x, h1⟩, e1, e2⟩ := bnd e
  cases e2
  exact ⟨ρ, δ, h, x, h1, R, S, e1, fun v H1 ⟨ρ1, T1, S1, r1⟩ => k ρ1 H1 T1 S1 σ (R.mono T1)⟩
theorem ss_ret (he : SE X e ma) : SS X (.Return (some e) pos) (sRet ma) := (ps_ret he).imp fun E σ H ⟨ρ, δ, h, fl, δ', h', R, S, e, k⟩ => by
  obtain ⟨⟨x, h1⟩, e1, e2⟩ := bnd e
  cases e2
  exact ⟨ρ, δ, h, x, h1, R, S, e1, fun v H1 ⟨ρ1, T1, S1, r1⟩ => k ρ1 H1 T1 S1 v r1⟩
theorem ss_retN : SS X (.Return none pos) sRetN := ps_retN.imp fun E σ H ⟨ρ, δ, h, fl, δ', h', R, S, e, k⟩ => by
  cases e
  exact k ρ H (.refl _ _) S .non .non
theorem ss_if {sa sb : List Stmt} (hc : ST X c mt) (ha : SSs X sa ms) (hb : SSs X sb mu) : SS X (.If c sa sb pos) (sIf mt ms mu) := (ps_if hc ha hb).imp fun E σ H ⟨ρ, δ, h, fl, δ', h', R, S, e, k⟩ => by
  obtain ⟨⟨x, h1⟩, e1, e2⟩ := bnd e
  refine ⟨ρ, δ, h, x, h1, R, S, e1, fun ρ1 H1 T1 S1 => ?_⟩
  cases x with
  | true => rw [if_pos rfl] at e2 ⊢; exact ⟨ρ1, δ, h1, fl, δ', h', R.mono T1, S1, e2, fun ρ2 H2 T2 S2 => k ρ2 H2 (T1.trans T2) S2⟩
  | false => rw [if_neg (by simp)] at e2 ⊢; exact ⟨ρ1, δ, h1, fl, δ', h', R.mono T1, S1, e2, fun ρ2 H2 T2 S2 => k ρ2 H2 (T1.trans T2) S2⟩
/-! ### loops -/
structure ItS (K : PySem.W.Frag) (J : It) (ρ : Ad) (H : Hp) (ws : W) (xs : List D) : Prop where
  run : ∀ ρ1 H1 h1, Ch ρ H ρ1 H1 → Sim K ρ1 h1 H1 → chk ws h1 = true → ∀ i : Nat, (xs.length ≤ i → J.stop i H1) ∧ ∀ x, xs[i]? = some x → J.go i H1 ∧ ∀ v H2, J.yld i H1 v H2 → Stp ρ1 H1 ρ1 H2 ∧ Sim K ρ1 h1 H2 ∧ Rep K ρ1 H2 v x
def tMI (K : PySem.W.Frag) (m : IM) : TI := fun σ H R => ∃ ρ δ h xs ws h', RepS K ρ H σ δ ∧ Sim K ρ h H ∧ m δ h = some (xs, ws, h') ∧ ∀ J ρ1 H1, Stp ρ H ρ1 H1 → Sim K ρ1 h' H1 → ItS K J ρ1 H1 ws xs → R J H1
def SI (X : Cx) (tg iter : Expr) (m : IM) : Prop := PI X tg iter (tMI X.K m)
theorem _root_.L2.PI.imp {X : Cx} {tg e : Expr} {t t' : TI} (h : PI X tg e t) (i : ∀ σ H Q, t' σ H Q → t σ H Q) : PI X tg e t' := fun pins s σ H R I q => h pins s σ H R I (i σ H R q)
theorem ItS.mono {K : PySem.W.Frag} {J : It} {ρ ρ' : Ad} {H H' : Hp} {ws : W} {xs : List D} (I : ItS K J ρ H ws xs) (T : Ch ρ H ρ' H') : ItS K J ρ' H' ws xs := ⟨fun ρ1 H1 h1 T1 => I.run ρ1 H1 h1 (T.trans T1)⟩
theorem rd_for {E : Ends} {σ : St} {H : Hp} {mi : IM} (hh : tMS X.K (sFor mi g ms) E σ H) : tFor (tMI X.K mi) (tMG X.K g) (tMS X.K ms) E σ H := by
  obtain ⟨ρ, δ, h, fl, δ', h', R, S, e, k⟩ := hh
  obtain ⟨⟨xs, ws, h1⟩, e1, e2⟩ := bnd e
  refine ⟨ρ, δ, h, xs, ws, h1, R, S, e1, fun J ρ1 H1 T1 S1 It => ?_⟩
  refine ⟨fun i m σ2 H2 => ∃ ρ2 δ2 h2, m = xs.length - i ∧ i ≤ xs.length ∧ Stp ρ1 H1 ρ2 H2 ∧ RepS X.K ρ2 H2 σ2 δ2 ∧ Sim X.K ρ2 h2 H2 ∧ forD ws g ms (xs.drop i) δ2 h2 = some (fl, δ', h'), ⟨_, ρ1, δ, h1, rfl, Nat.zero_le _, .refl _ _, R.mono T1, S1, e2⟩, ?_⟩
  rintro i m σ2 H2 ⟨ρ2, δ2, h2, rfl, hi, T2, R2, S2, e3⟩
  cases q : xs.drop i with
  | nil =>
    rw [q] at e3
    unfold forD at e3
    by_cases hc : chk ws h2 = true
    · rw [if_pos hc] at e3
      cases e3
      have hl : xs.length ≤ i := by have := congrArg List.length q; rw [List.length_drop, List.length_nil] at this; omega
      exact .inl ⟨(It.run ρ2 H2 _ T2 S2 hc i).1 hl, k ρ2 H2 (T1.trans T2) S2 σ2 R2⟩
    · rw [if_neg hc] at e3; cases e3
  | cons x r =>
    rw [q] at e3
    unfold forD at e3
    by_cases hc : chk ws h2 = true
    · rw [if_pos hc] at e3
      have hx : xs[i]? = some x := by
        have := congrArg (fun l => l[0]?) q
        simpa using this
      have hlt : i < xs.length := (List.getElem?_eq_some_iff.mp hx).1
      have hr : xs.drop (i + 1) = r := by
        have := congrArg List.tail q
        simpa using this
      obtain ⟨⟨δ3, h3⟩, e4, e5⟩ := bnd e3
      obtain ⟨⟨f4, δ4, h4⟩, e6, e7⟩ := bnd e5
      obtain ⟨hgo, hy⟩ := (It.run ρ2 H2 h2 T2 S2 hc i).2 x hx
      have NN : ∀ ρ5 H5 σ5, Stp ρ2 H2 ρ5 H5 → Sim X.K ρ5 h4 H5 → RepS X.K ρ5 H5 σ5 δ4 → forD ws g ms r δ4 h4 = some (fl, δ', h') →
          ∃ m', m' < xs.length - i ∧ (∃ ρ2 δ2 h2, m' = xs.length - (i + 1) ∧ i + 1 ≤ xs.length ∧ Stp ρ1 H1 ρ2 H5 ∧ RepS X.K ρ2 H5 σ5 δ2 ∧ Sim X.K ρ2 h2 H5 ∧ forD ws g ms (xs.drop (i + 1)) δ2 h2 = some (fl, δ', h')) :=
        fun ρ5 H5 σ5 T5 S5 R5 e8 => ⟨xs.length - (i + 1), by omega, ρ5, δ4, h4, rfl, hlt, T2.trans T5, R5, S5, by rw [hr]; exact e8⟩
      refine .inr ⟨hgo, fun σ5 H5 => ∃ ρ5, Stp ρ2 H2 ρ5 H5 ∧ Sim X.K ρ5 h4 H5 ∧ RepS X.K ρ5 H5 σ5 δ4 ∧ forD ws g ms r δ4 h4 = some (fl, δ', h'), fun σ5 H5 ⟨ρ5, T5, S5, R5, e8⟩ => NN ρ5 H5 σ5 T5 S5 R5 e8, fun v H3 y3 => ?_⟩
      obtain ⟨T3, S3, r3⟩ := hy v H3 y3
      refine ⟨ρ2, δ2, h2, x, δ3, h3, R2.mono T3, S3, r3, e4, fun ρ4 H4 σ4 T4 S4 R4 => ?_⟩
      refine ⟨ρ4, δ3, h3, f4, δ4, h4, R4, S4, e6, fun ρ5 H5 T5 S5 => ?_⟩
      have T25 : Stp ρ2 H2 ρ5 H5 := T3.trans (T4.trans T5)
      cases f4 with
      | nx => exact fun σ' R' => ⟨ρ5, T25, S5, R', e7⟩
      | ct => exact fun σ' R' => ⟨ρ5, T25, S5, R', e7⟩
      | bk => cases e7; exact fun σ' R' => k ρ5 H5 (T1.trans (T2.trans T25)) S5 σ' R'
      | rt d => cases e7; exact fun v r => k ρ5 H5 (T1.trans (T2.trans T25)) S5 v r
    · rw [if_neg hc] at e3; cases e3
theorem ss_for {body : List Stmt} {mi : IM} (hp : PassesOwn (model X.prog X.w) X.A X.env X.xe) (hc : X.calm = true) (hi : SI X tg iter mi) (hg : SG X tg g) (hb : SSs X body ms) (hs : ∀ x, foldedSetIterable iter X.env x = pure x := by intro _; rfl) : SS X (.For tg iter body [] pos) (sFor mi g ms) :=
  (ps_for hp hc hi hg hb hs).imp fun _ _ _ => rd_for
theorem rd_while {E : Ends} {σ : St} {H : Hp} {n : Nat} (hh : tMS X.K (whileD mt ms n) E σ H) : tWhile (tMT X.K mt) (tMS X.K ms) E σ H := by
  obtain ⟨ρ, δ, h, fl, δ', h', R, S, e, k⟩ := hh
  refine ⟨fun m σ2 H2 => ∃ ρ2 δ2 h2, Stp ρ H ρ2 H2 ∧ RepS X.K ρ2 H2 σ2 δ2 ∧ Sim X.K ρ2 h2 H2 ∧ whileD mt ms m δ2 h2 = some (fl, δ', h'), ⟨n, ρ, δ, h, .refl _ _, R, S, e⟩, ?_⟩
  rintro m σ2 H2 ⟨ρ2, δ2, h2, T2, R2, S2, e2⟩
  cases m with
  | zero => cases e2
  | succ m =>
    obtain ⟨⟨x, h3⟩, e3, e4⟩ := bnd e2
    refine ⟨ρ2, δ2, h2, x, h3, R2, S2, e3, fun ρ3 H3 T3 S3 => ?_⟩
    cases x with
    | false => rw [if_neg (by simp)] at e4 ⊢; cases e4; exact k ρ3 H3 (T2.trans T3) S3 σ2 (R2.mono T3)
    | true =>
      rw [if_pos rfl] at e4 ⊢
      obtain ⟨⟨f4, δ4, h4⟩, e5, e6⟩ := bnd e4
      refine ⟨fun σ5 H5 => ∃ ρ5, Stp ρ3 H3 ρ5 H5 ∧ Sim X.K ρ5 h4 H5 ∧ RepS X.K ρ5 H5 σ5 δ4 ∧ whileD mt ms m δ4 h4 = some (fl, δ', h'), fun σ5 H5 ⟨ρ5, T5, S5, R5, e8⟩ => ⟨m, Nat.lt_succ_self m, ρ5, δ4, h4, T2.trans (T3.trans T5), R5, S5, e8⟩, ?_⟩
      refine ⟨ρ3, δ2, h3, f4, δ4, h4, R2.mono T3, S3, e5, fun ρ5 H5 T5 S5 => ?_⟩
      cases f4 with
      | nx => exact fun σ' R' => ⟨ρ5, T5, S5, R', e6⟩
      | ct => exact fun σ' R' => ⟨ρ5, T5, S5, R', e6⟩
      | bk => cases e6; exact fun σ' R' => k ρ5 H5 (T2.trans (T3.trans T5)) S5 σ' R'
      | rt d => cases e6; exact fun v r => k ρ5 H5 (T2.trans (T3.trans T5)) S5 v r
theorem ss_while {body : List Stmt} {n : Nat} (hp : PassesOwn (model X.prog X.w) X.A X.env X.xe) (hc : ST X c mt) (hb : SSs X body ms) : SS X (.While c body [] pos) (whileD mt ms n) := (ps_while hp hc hb).imp fun _ _ _ => rd_while
end
end Sm

namespace L2
open PySem PySem.Spec PyProof.Rows
/-- a list or a tuple, walked -/
theorem pi_seq {X : Cx} {tg : Expr} {l : Expr} {tl : TE} (hl : PE X l tl) : PI X tg l (fun σ H R => tl σ H fun x H1 => ∃ a, x = .ref a ∧ (((∃ xs, SqL X.K H1 a xs) ∧ R (Itl X.K a) H1) ∨ ((∃ xs, SqT X.K H1 a xs) ∧ R (Itt X.K a) H1))) := by
  intro pins s σ H R I h
  refine thn (hl pins s σ H _ I h) fun v s1 ⟨x, H1, I1, r1, q1⟩ => ?_
  obtain ⟨a, e, q1⟩ := q1
  subst e
  cases r1
  rcases q1 with ⟨⟨xs, hq⟩, q⟩ | ⟨⟨xs, hq⟩, q⟩
  · obtain ⟨its, rv, p, hz⟩ := I1.list hq
    refine wpAny_pyIter_list p.isList ?_
    refine ⟨s1.heap.objs.size, [s1.heap.objs.size], _, _, H1, rfl, I1.kept (t' := s1.toks) fun b o e => Heap.get?_push_of_some _ e, turn_list a _, ⟨_, Heap.get?_push_size _ rfl, rfl, rfl⟩, fun b hb => ?_, q⟩
    have e : b = s1.heap.objs.size := by simpa using hb
    subst e
    exact I1.fpOk (Nat.le_refl _) (I1.hok.fresh (Nat.le_refl _))
  · obtain ⟨its, rv, p, hz⟩ := I1.tuple hq
    refine wpAny_pyIter_tuple (show s1.heap.IsTuple a its.toArray from p) ?_
    refine ⟨s1.heap.objs.size, [s1.heap.objs.size], _, _, H1, rfl, I1.kept (t' := s1.toks) fun b o e => Heap.get?_push_of_some _ e, turn_tuple a _, ⟨_, Heap.get?_push_size _ rfl, rfl, rfl⟩, fun b hb => ?_, q⟩
    have e : b = s1.heap.objs.size := by simpa using hb
    subst e
    exact I1.fpOk (Nat.le_refl _) (I1.hok.fresh (Nat.le_refl _))
end L2
namespace Sm
open PySem L2

/-! ### what is walked -/
def seqD (d : D) (h : MH) : Option (List D × W) := match d with
  | .lv xs => some (xs, [])
  | .ro xs => some (xs, [])
  | .tup xs => some (xs, [])
  | .ob n => match h[n]? with
    | some (.lst xs) => some (xs, [(n, .lst xs)])
    | _ => none
  | _ => none
def iSeq (e : EM) : IM := fun δ h => (e δ h).bind fun p => (seqD p.1 p.2).map fun q => (q.1, q.2, p.2)
def iRng (m : AM) : IM := fun δ h => (m δ h).bind fun p => match p.1 with
  | [.int j] => if -(2 ^ 62) ≤ j ∧ j < 2 ^ 62 then some ((List.range j.toNat).map fun (k : Nat) => D.int (k : Int), [], p.2) else none
  | [.int i, .int j] => if -(2 ^ 62) ≤ i ∧ i < 2 ^ 62 ∧ -(2 ^ 62) ≤ j ∧ j < 2 ^ 62 then some ((List.range (j - i).toNat).map fun (k : Nat) => D.int (i + (k : Int)), [], p.2) else none
  | _ => none
section
variable {K : PySem.W.Frag} {ρ : Ad} {H : Hp} {h : MH} {a : Addr} {vs : List V} {xs : List D}
theorem its_of {J : It} {ws : W} (hl : ∀ ρ1 H1 h1, Ch ρ H ρ1 H1 → Sim K ρ1 h1 H1 → chk ws h1 = true → ∃ vs, RepL K ρ1 H1 vs xs ∧ (∀ i : Nat, vs.length ≤ i → J.stop i H1) ∧ ∀ (i : Nat) v, vs[i]? = some v → J.go i H1 ∧ ∀ u H2, J.yld i H1 u H2 → H2 = H1 ∧ u = v) : ItS K J ρ H ws xs := by
  refine ⟨fun ρ1 H1 h1 T S hc i => ?_⟩
  obtain ⟨vs, l, s1, s2⟩ := hl ρ1 H1 h1 T S hc
  refine ⟨fun hi => s1 i (by rw [l.length]; exact hi), fun x hx => ?_⟩
  obtain ⟨v, hv, r⟩ := l.got hx
  obtain ⟨g, y⟩ := s2 i v hv
  refine ⟨g, fun u H2 yy => ?_⟩
  obtain ⟨rfl, rfl⟩ := y u H2 yy
  exact ⟨.refl _ _, S, r⟩
theorem itl_of {ws : W} (hl : ∀ ρ1 H1 h1, Ch ρ H ρ1 H1 → Sim K ρ1 h1 H1 → chk ws h1 = true → ∃ vs, RepL K ρ1 H1 vs xs ∧ SqL K H1 a vs) : ItS K (Itl K a) ρ H ws xs :=
  its_of fun ρ1 H1 h1 T S hc => by
    obtain ⟨vs, l, q⟩ := hl ρ1 H1 h1 T S hc
    refine ⟨vs, l, fun i hi => ⟨vs, q, hi⟩, fun i v hv => ⟨⟨vs, v, q, hv⟩, fun u H2 ⟨e, y⟩ => ⟨e, ?_⟩⟩⟩
    have := y vs q
    rw [hv] at this
    exact (Option.some.inj this).symm
theorem itt_of {ws : W} (hl : ∀ ρ1 H1 h1, Ch ρ H ρ1 H1 → Sim K ρ1 h1 H1 → chk ws h1 = true → ∃ vs, RepL K ρ1 H1 vs xs ∧ SqT K H1 a vs) : ItS K (Itt K a) ρ H ws xs :=
  its_of fun ρ1 H1 h1 T S hc => by
    obtain ⟨vs, l, q⟩ := hl ρ1 H1 h1 T S hc
    refine ⟨vs, l, fun i hi => ⟨vs, q, hi⟩, fun i v hv => ⟨⟨vs, v, q, hv⟩, fun u H2 ⟨e, y⟩ => ⟨e, ?_⟩⟩⟩
    have := y vs q
    rw [hv] at this
    exact (Option.some.inj this).symm
theorem chk_one {n : Nat} {o : MO} {h : MH} (hc : chk [(n, o)] h = true) : h[n]? = some o := by
  unfold chk at hc
  cases q : h[n]? with
  | none => rw [q] at hc; cases hc
  | some u =>
    rw [q] at hc
    simp [chk] at hc
    rw [beqO_eq hc]
theorem chk_cons {n : Nat} {o : MO} {ws : W} {h : MH} (hc : chk ((n, o) :: ws) h = true) : h[n]? = some o ∧ chk ws h = true := by
  unfold chk at hc
  rw [Bool.and_eq_true] at hc
  refine ⟨?_, hc.2⟩
  cases q : h[n]? with
  | none => rw [q] at hc; cases hc.1
  | some u =>
    rw [q] at hc
    rw [beqO_eq hc.1]
/-- the list or tuple that data is, whatever comes -/
inductive SeqAt (K : PySem.W.Frag) (H : Hp) (a : Addr) (vs : List V) : Bool → Prop where
  | l : SqL K H a vs → SeqAt K H a vs true
  | t : SqT K H a vs → SeqAt K H a vs false
def isLs : D → Bool
  | .tup _ => false
  | _ => true
theorem seq_of {v : V} {d : D} {ws : W} (S : Sim K ρ h H) (r : Rep K ρ H v d) (e : seqD d h = some (xs, ws)) : ∃ a, v = .ref a ∧ (∃ vs, SeqAt K H a vs (isLs d) ∧ RepL K ρ H vs xs) ∧
    ∀ ρ1 H1 h1, Ch ρ H ρ1 H1 → Sim K ρ1 h1 H1 → chk ws h1 = true → ∃ vs, RepL K ρ1 H1 vs xs ∧ SeqAt K H1 a vs (isLs d) := by
  cases r with
  | tup ht l =>
    cases e
    refine ⟨_, rfl, ⟨_, .t ht.sq, l⟩, fun ρ1 H1 h1 T S1 _ => ?_⟩
    cases (Rep.tup ht l).mono T with
    | tup h1 l1 => exact ⟨_, l1, .t h1.sq⟩
  | lv ht n l =>
    cases e
    refine ⟨_, rfl, ⟨_, .l (SqL.of ht), l⟩, fun ρ1 H1 h1 T S1 _ => ?_⟩
    cases (Rep.lv ht n l).mono T with
    | lv h1 _ l1 => exact ⟨_, l1, .l (SqL.of h1)⟩
  | ro ht l =>
    cases e
    refine ⟨_, rfl, ⟨_, .l ht.sq, l⟩, fun ρ1 H1 h1 T S1 _ => ?_⟩
    cases (Rep.ro ht l).mono T with
    | ro h1 l1 => exact ⟨_, l1, .l h1.sq⟩
  | @ob a n hn =>
    unfold seqD at e
    dsimp only at e
    cases q : h[n]? with
    | none => rw [q] at e; cases e
    | some o =>
      rw [q] at e
      cases o with
      | dct _ => cases e
      | lst ys =>
        cases e
        obtain ⟨vs, e1, l⟩ := S.at_ n a _ hn q
        refine ⟨a, rfl, ⟨vs, .l (SqL.of e1), l⟩, fun ρ1 H1 h1 T S1 hc => ?_⟩
        obtain ⟨us, e2, l2⟩ := S1.at_ n a _ (T.pre n a hn) (chk_one hc)
        exact ⟨us, l2, .l (SqL.of e2)⟩
  | non => cases e
  | bl b => cases e
  | int i => cases e
  | str x => cases e
  | ty x => cases e
  | dv _ _ _ => cases e
end
section
variable {X : Cx} {a b c e tg iter : Expr} {es : List Expr} {pos : Pos} {ma mb : EM} {mt : TM} {ms mu : SM} {m : AM} {g : GM} {gs : GMs}
theorem si_seq (h : SE X e ma) : SI X tg e (iSeq ma) := (pi_seq h).imp fun σ H Q ⟨ρ, δ, h, xs, ws, h', R, S, e, k⟩ => by
  obtain ⟨⟨x, h1⟩, e1, e2⟩ := bnd e
  obtain ⟨⟨ys, w⟩, e3, e4⟩ := mpd e2
  cases e4
  refine ⟨ρ, δ, h, x, h1, R, S, e1, fun v H1 ⟨ρ1, T1, S1, r1⟩ => ?_⟩
  obtain ⟨a, rfl, ⟨vs, q, l⟩, st⟩ := seq_of S1 r1 e3
  refine ⟨a, rfl, ?_⟩
  generalize isLs x = b at q st
  cases q with
  | l q => exact .inl ⟨⟨vs, q⟩, k _ ρ1 H1 T1 S1 (itl_of fun ρ2 H2 h2 T2 S2 hc => by obtain ⟨us, l2, q2⟩ := st ρ2 H2 h2 T2 S2 hc; cases q2 with | l q2 => exact ⟨us, l2, q2⟩)⟩
  | t q => exact .inr ⟨⟨vs, q⟩, k _ ρ1 H1 T1 S1 (itt_of fun ρ2 H2 h2 T2 S2 hc => by obtain ⟨us, l2, q2⟩ := st ρ2 H2 h2 T2 S2 hc; cases q2 with | t q2 => exact ⟨us, l2, q2⟩)⟩
theorem repL_ints {K : PySem.W.Frag} {ρ : Ad} {H : Hp} : ∀ (ns : List Int), RepL K ρ H (ns.map V.int) (ns.map D.int)
  | [] => .nil
  | _ :: r => .cons (.int _) (repL_ints r)
theorem itr_of {K : PySem.W.Frag} {ρ : Ad} {H : Hp} (lo : Int) (n : Nat) : ItS K (Itr lo n) ρ H [] ((List.range n).map fun (k : Nat) => D.int (lo + (k : Int))) := by
  refine its_of fun ρ1 H1 h1 T S hc => ⟨(List.range n).map fun (k : Nat) => V.int (lo + (k : Int)), ?_, fun i hi => ?_, fun i v hv => ?_⟩
  · have := repL_ints (K := K) (ρ := ρ1) (H := H1) ((List.range n).map fun (k : Nat) => lo + (k : Int))
    rw [List.map_map, List.map_map] at this
    exact this
  · rw [List.length_map, List.length_range] at hi; exact hi
  · rw [List.getElem?_map] at hv
    obtain ⟨j, e1, e2⟩ := mpd hv
    obtain ⟨hlt, e3⟩ := List.getElem?_eq_some_iff.mp e1
    rw [List.length_range] at hlt
    rw [List.getElem_range] at e3
    subst e3; subst e2
    exact ⟨hlt, fun u H2 ⟨p, q⟩ => ⟨p, q⟩⟩
theorem repL_int1 {K : PySem.W.Frag} {ρ : Ad} {H : Hp} {vs : List V} {j : Int} (l : RepL K ρ H vs [.int j]) : vs = [.int j] := by
  cases l with
  | cons r l => cases l; cases r; rfl
theorem repL_int2 {K : PySem.W.Frag} {ρ : Ad} {H : Hp} {vs : List V} {i j : Int} (l : RepL K ρ H vs [.int i, .int j]) : vs = [.int i, .int j] := by
  cases l with
  | cons r l => cases l with
    | cons r' l => cases l; cases r; cases r'; rfl
theorem si_range1 {p : Pos} (hg : Gl X "range") (hm : X.mg "range" = none) (ha : SA X [a] m) (hs : starEach [a] X.env = [(false, eval a X.env)] := by rfl) (hl : ALen m 1) : SI X tg (.Call (.Name "range" p) [a] [] pos) (iRng m) :=
  (pi_range1 hg hm ha hs).imp fun σ H Q ⟨ρ, δ, h, xs, ws, h', R, S, e, k⟩ => by
    obtain ⟨⟨x, h1⟩, e1, e2⟩ := bnd e
    refine ⟨ρ, δ, h, x, h1, R, S, e1, fun vs ρ1 H1 T1 S1 r1 => ?_⟩
    match x, hl _ _ _ _ e1, e2, r1 with
    | [d], hl1, e2, r1 =>
      cases d <;> first | exact absurd e2 (by intro z; cases z) | skip
      rename_i j
      dsimp only at e2
      by_cases z : -(2 ^ 62) ≤ j ∧ j < 2 ^ 62
      · rw [if_pos z] at e2
        cases e2
        refine ⟨j, repL_int1 r1, z.1, z.2, k _ ρ1 H1 T1 S1 ?_⟩
        have := itr_of (K := X.K) (ρ := ρ1) (H := H1) 0 j.toNat
        simpa using this
      · rw [if_neg z] at e2; cases e2
theorem si_range2 {p : Pos} (hg : Gl X "range") (hm : X.mg "range" = none) (ha : SA X [a, b] m) (hs : starEach [a, b] X.env = [(false, eval a X.env), (false, eval b X.env)] := by rfl) (hs2 : starEach [b] X.env = [(false, eval b X.env)] := by rfl) (hl : ALen m 2) :
    SI X tg (.Call (.Name "range" p) [a, b] [] pos) (iRng m) :=
  (pi_range2 hg hm ha hs hs2).imp fun σ H Q ⟨ρ, δ, h, xs, ws, h', R, S, e, k⟩ => by
    obtain ⟨⟨x, h1⟩, e1, e2⟩ := bnd e
    refine ⟨ρ, δ, h, x, h1, R, S, e1, fun vs ρ1 H1 T1 S1 r1 => ?_⟩
    match x, hl _ _ _ _ e1, e2, r1 with
    | [d, d'], hl1, e2, r1 =>
      cases d <;> first | exact absurd e2 (by intro z; cases z) | skip
      cases d' <;> first | exact absurd e2 (by intro z; cases z) | skip
      rename_i i j
      dsimp only at e2
      by_cases z : -(2 ^ 62) ≤ i ∧ i < 2 ^ 62 ∧ -(2 ^ 62) ≤ j ∧ j < 2 ^ 62
      · rw [if_pos z] at e2
        cases e2
        exact ⟨i, j, repL_int2 r1, z, k _ ρ1 H1 T1 S1 (itr_of i _)⟩
      · rw [if_neg z] at e2; cases e2
/-! ### comprehensions -/
def captD (caps : List (Option Nat)) (δ : DS) : DS := caps.map fun o => o.bind fun i => (δ[i]?).join
def tYes : TM := fun _ h => some (true, h)
def compD (ws : W) (g : GM) (c : TM) (e : EM) : List D → DS → MH → Option (List D × MH)
  | [], _, h => if chk ws h then some ([], h) else none
  | x :: r, δ, h => if chk ws h then (g x δ h).bind fun q => (c q.1 q.2).bind fun t => if t.1 then (e q.1 t.2).bind fun y => (compD ws g c e r q.1 y.2).map fun z => (y.1 :: z.1, z.2) else compD ws g c e r q.1 t.2 else none
def aComp (caps : List (Option Nat)) (i : IM) (g : GM) (c : TM) (e : EM) : AM := fun δ h => (i δ h).bind fun p => (compD p.2.1 g c e p.1 (captD caps δ) p.2.2).bind fun q => if q.1.length ≤ sizeLine then some q else none
theorem RepS.capt {K : PySem.W.Frag} {ρ : Ad} {H : Hp} {σ : St} {δ : DS} (R : RepS K ρ H σ δ) (caps : List (Option Nat)) : RepS K ρ H (capt caps σ) (captD caps δ) := by
  refine ⟨by simp [L2.capt, captD], fun i d hd => ?_⟩
  unfold captD at hd
  rw [List.getElem?_map] at hd
  obtain ⟨o, e1, e2⟩ := mpd hd
  cases o with
  | none => cases e2
  | some j =>
    have e3 : δ[j]? = some (some d) := Option.join_eq_some_iff.mp e2
    obtain ⟨v, ev, r⟩ := R.at_ j d e3
    refine ⟨v, ?_, r⟩
    unfold L2.capt
    rw [List.getElem?_map, e1]
    simp [ev]
def SIf (X : Cx) (ifs : List Expr) (m : TM) : Prop := PIf X ifs (tMT X.K m)
theorem sif_nil : SIf X [] tYes := fun pins s σ H Q I hh => by
  obtain ⟨ρ, δ, h, b, h', R, S, e, k⟩ := hh
  cases e
  exact pif_nil pins s σ H Q I (k ρ H (.refl _ _) S)
theorem sif_one (h : ST X c mt) : SIf X [c] mt := pif_one h
theorem rd_comp {caps : List (Option Nat)} {mi : IM} {σ : St} {H : Hp} {Q : VK} (hh : tM X.K (eLv (aComp caps mi g mt ma)) σ H Q) : tComp caps (tMI X.K mi) (tMG X.K g) (tMT X.K mt) (tM X.K ma) σ H Q := by
  obtain ⟨ρ, δ, h, d, h', R, S, ee, k⟩ := hh
  obtain ⟨⟨out, h0⟩, ea, e0⟩ := mpd ee
  cases e0
  obtain ⟨⟨xs, ws, h1⟩, e1, eb⟩ := bnd ea
  obtain ⟨⟨ys, h2⟩, e2, e3⟩ := bnd eb
  dsimp only at e2 e3
  by_cases hz : ys.length ≤ sizeLine
  · rw [if_pos hz] at e3
    cases e3
    refine ⟨ρ, δ, h, xs, ws, h1, R, S, e1, fun J ρ1 H1 T1 S1 It l hl => ?_⟩
    have nl : ¬ρ1.has l := S1.fresh hl
    have Tl : Ch ρ1 H1 (ρ1.keep l) (upd H1 l (.lst [])) := Ch.keep hl
    refine ⟨fun i m τ2 H2 => ∃ (ob2 : List Addr) (δ2 : DS) (h2 : MH) (vs : List V) (as bs : List D), m = xs.length - i ∧ i ≤ xs.length ∧ Ch ρ1 H1 ⟨ob2, l :: ρ1.rs⟩ H2 ∧ (∀ b ∈ ρ1.rs, H2 b = H1 b) ∧ RepS X.K ⟨ob2, l :: ρ1.rs⟩ H2 τ2 δ2 ∧ Sim X.K ⟨ob2, l :: ρ1.rs⟩ h2 H2 ∧
        H2 l = some (.lst vs) ∧ RepL X.K ⟨ob2, l :: ρ1.rs⟩ H2 vs as ∧ out = as ++ bs ∧ compD ws g mt ma (xs.drop i) δ2 h2 = some (bs, h0),
      ⟨_, ρ1.ob, captD caps δ, h1, [], [], out, rfl, Nat.zero_le _, Tl, fun b hb => upd_ne fun z => nl (.inr (z ▸ hb)), ((R.mono T1).capt caps).mono Tl, S1.keep hl, upd_same, .nil, rfl, e2⟩, ?_⟩
    rintro i m τ2 H2 ⟨ob2, δ2, h2, vs, as, bs, rfl, hi, T2, rs2, R2, S2, hl2, l2, eo, e3⟩
    have hsub : ∀ b ∈ ρ1.rs, b ∈ l :: ρ1.rs := fun b hb => List.mem_cons_of_mem _ hb
    have C2 : Ch ⟨ob2, l :: ρ1.rs⟩ H2 ⟨ob2, ρ1.rs⟩ H2 := Ch.free hsub
    have T2' : Stp ρ1 H1 ⟨ob2, ρ1.rs⟩ H2 := ⟨T2.trans C2, rfl, rs2⟩
    have S2' : Sim X.K ⟨ob2, ρ1.rs⟩ h2 H2 := S2.free hsub
    cases q : xs.drop i with
    | nil =>
      rw [q] at e3
      unfold compD at e3
      by_cases hc : chk ws h2 = true
      · rw [if_pos hc] at e3
        cases e3
        rw [List.append_nil] at eo
        subst eo
        have hle : xs.length ≤ i := by have := congrArg List.length q; rw [List.length_drop, List.length_nil] at this; omega
        refine .inl ⟨(It.run _ H2 _ T2 S2 hc i).1 hle, k _ _ ⟨_, T1.trans T2', S2', .lv hl2 (fun z => ?_) (l2.mono C2)⟩⟩
        rcases z with z | z
        · exact (S2.rsv l List.mem_cons_self).2 z
        · exact nl (.inr z)
      · rw [if_neg hc] at e3; cases e3
    | cons x r =>
      rw [q] at e3
      unfold compD at e3
      by_cases hc : chk ws h2 = true
      · rw [if_pos hc] at e3
        have hx : xs[i]? = some x := by
          have := congrArg (fun l => l[0]?) q
          simpa using this
        have hlt : i < xs.length := (List.getElem?_eq_some_iff.mp hx).1
        have hr : xs.drop (i + 1) = r := by
          have := congrArg List.tail q
          simpa using this
        obtain ⟨⟨δ3, h3⟩, e4, e5⟩ := bnd e3
        obtain ⟨⟨t, h4⟩, e6, e7⟩ := bnd e5
        dsimp only at e4 e5 e6 e7
        obtain ⟨hgo, hy⟩ := (It.run _ H2 h2 T2 S2 hc i).2 x hx
        refine .inr ⟨hgo, fun τ5 H5 => ∃ (ob5 : List Addr) (h5 : MH) (vs : List V) (as bs : List D), Ch ρ1 H1 ⟨ob5, l :: ρ1.rs⟩ H5 ∧ (∀ b ∈ ρ1.rs, H5 b = H1 b) ∧ RepS X.K ⟨ob5, l :: ρ1.rs⟩ H5 τ5 δ3 ∧ Sim X.K ⟨ob5, l :: ρ1.rs⟩ h5 H5 ∧
          H5 l = some (.lst vs) ∧ RepL X.K ⟨ob5, l :: ρ1.rs⟩ H5 vs as ∧ out = as ++ bs ∧ compD ws g mt ma r δ3 h5 = some (bs, h0), ?_, ?_⟩
        · rintro τ5 H5 ⟨ob5, h5, vs5, as5, bs5, T5, rs5, R5, S5, hl5, l5, eo5, e5⟩
          exact ⟨xs.length - (i + 1), by omega, ob5, δ3, h5, vs5, as5, bs5, rfl, hlt, T5, rs5, R5, S5, hl5, l5, eo5, by rw [hr]; exact e5⟩
        · intro v H3 y3
          obtain ⟨T3, S3, r3⟩ := hy v H3 y3
          refine ⟨⟨ob2, l :: ρ1.rs⟩, δ2, h2, x, δ3, h3, R2.mono T3, S3, r3, e4, fun ρ4 H4 τ4 T4 S4 R4 => ?_⟩
          refine ⟨ρ4, δ3, h3, t, h4, R4, S4, e6, fun ρ5 H5 T5 S5 => ?_⟩
          have T25 : Stp ⟨ob2, l :: ρ1.rs⟩ H2 ρ5 H5 := T3.trans (T4.trans T5)
          obtain ⟨ob5, rs5⟩ := ρ5
          have ers : rs5 = l :: ρ1.rs := T25.rs
          subst ers
          cases t with
          | false =>
            rw [if_neg (by simp)] at e7
            refine iteF ?_
            exact ⟨ob5, h4, vs, as, bs, T2.trans T25.toCh, fun b hb => (T25.res b (hsub b hb)).trans (rs2 b hb), R4.mono T5, S5, (T25.res l List.mem_cons_self).trans hl2, l2.mono T25.toCh, eo, e7⟩
          | true =>
            rw [if_pos rfl] at e7
            refine iteT ?_
            obtain ⟨⟨y, h6⟩, e8, e9⟩ := bnd e7
            obtain ⟨⟨zs, h7⟩, e10, e11⟩ := mpd e9
            cases e11
            refine ⟨⟨ob5, l :: ρ1.rs⟩, δ3, h4, y, h6, R4.mono T5, S5, e8, fun u H6 ⟨ρ6, T6, S6, r6⟩ => ?_⟩
            have T26 : Stp ⟨ob2, l :: ρ1.rs⟩ H2 ρ6 H6 := T25.trans T6
            obtain ⟨ob6, rs6⟩ := ρ6
            have ers : rs6 = l :: ρ1.rs := T26.rs
            subst ers
            have hl6 : H6 l = some (.lst vs) := (T26.res l List.mem_cons_self).trans hl2
            have hml : l ∈ (⟨ob6, l :: ρ1.rs⟩ : Ad).rs := List.mem_cons_self
            have hlen : vs.length < sizeLine := by
              have h1 := l2.length
              have h2 := congrArg List.length eo
              rw [List.length_append, List.length_cons] at h2
              omega
            have Cp : Ch ⟨ob6, l :: ρ1.rs⟩ H6 ⟨ob6, l :: ρ1.rs⟩ (upd H6 l (.lst (vs ++ [u]))) := Ch.put hml
            refine ⟨vs, hl6, hlen, ob6, h6, vs ++ [u], as ++ [y], zs, (T2.trans T26.toCh).trans Cp, fun b hb => ?_, ((R4.mono T5.toCh).mono T6.toCh).mono Cp, S6.put hml, upd_same, ((l2.mono T26.toCh).snoc r6).mono Cp, by rw [eo]; simp, e10⟩
            rw [upd_ne (fun (z : b = l) => nl (.inr (z ▸ hb)))]
            exact (T26.res b (hsub b hb)).trans (rs2 b hb)
      · rw [if_neg hc] at e3; cases e3
  · rw [if_neg hz] at e3; cases e3
end
end Sm

namespace Sm
open PySem L2 PySem.Spec PyProof.Rows
section
variable {X : Cx} {a b c e tg iter elt : Expr} {es : List Expr} {pos : Pos} {ma mb : EM} {mt : TM} {ms mu : SM} {m : AM} {g : GM} {gs : GMs}
theorem se_comp {N' : List Str} {caps : List (Option Nat)} {scope : Scope} {ifs : List Expr} {mi : IM} (C : CompScope X N' caps scope) (hc : X.calm = true) (hi : SI X tg iter mi) (hg : ∀ C s₃ H₃ fp pl, SG (blk X N' scope C s₃ H₃ fp pl) tg g)
    (hif : ∀ C s₃ H₃ fp pl, SIf (blk X N' scope C s₃ H₃ fp pl) ifs mt) (he : ∀ C s₃ H₃ fp pl, SE (blk X N' scope C s₃ H₃ fp pl) elt ma) (hs : ∀ x, foldedSetIterable iter X.env x = pure x := by intro _; rfl) :
    SE X (.ListComp elt [⟨tg, iter, ifs, 0⟩] scope pos) (eLv (aComp caps mi g mt ma)) := (pe_lcomp (g := tMG X.K g) (tc := tMT X.K mt) (te := tM X.K ma) C hc hi hg hif he hs).imp fun _ _ _ => rd_comp
theorem ss_comp {N' : List Str} {caps : List (Option Nat)} {scope : Scope} {ifs : List Expr} {mi : IM} {i : Nat} {y : Str} {py spos : Pos} (hN : X.N.Nodup) (hi' : X.N[i]? = some y) (hy : X.env.scope.names.lookup y = some .local) (C : CompScope X N' caps scope) (hc : X.calm = true)
    (hi : SI X tg iter mi) (hg : ∀ C s₃ H₃ fp pl, SG (blk X N' scope C s₃ H₃ fp pl) tg g) (hif : ∀ C s₃ H₃ fp pl, SIf (blk X N' scope C s₃ H₃ fp pl) ifs mt) (he : ∀ C s₃ H₃ fp pl, SE (blk X N' scope C s₃ H₃ fp pl) elt ma)
    (hsw : swapsWith (.ListComp elt [⟨tg, iter, ifs, 0⟩] scope pos) (some (.Name y py)) spos.line X.env = pure true := by rfl) (hs : ∀ x, foldedSetIterable iter X.env x = pure x := by intro _; rfl) :
    SS X (.Assign [.Name y py] (.ListComp elt [⟨tg, iter, ifs, 0⟩] scope pos) spos) (sSet i (eLv (aComp caps mi g mt ma))) :=
  (ps_lcomp (g := tMG X.K g) (tc := tMT X.K mt) (te := tM X.K ma) hN hi' hy C hc hi hg hif he hsw hs).imp fun E σ H hh => by
    have q := rd_set hh
    exact rd_comp q
end
/-! ### calls of defs -/
def spF (K : PySem.W.Frag) (n : Nat) (F : Fn) : Sp := fun vs H Q _ => ∃ ρ h ds d h', Sim K ρ h H ∧ RepL K ρ H vs ds ∧ ds.length = n ∧ F ds h = some (d, h') ∧ ∀ v H', Post K ρ H h' d v H' → Q v H'
section
variable {X : Cx} {e : Expr} {es : List Expr} {pos p : Pos} {m : AM} {k n : Nat} {f : Addr} {fd : FuncData} {ps : List Str} {F : Fn} {x : Str}
theorem se_call (G : FnOk X.prog X.w X.K X.mg X.base CX0 k f fd ps (spF X.K n F)) (hr : Room k X.A) (hg : Gl X x) (hm : X.mg x = some (.ref f)) (hk : PySem.W.keepIn X.K (.ref f) = true) (hb : Binds X.K fd ps [])
    (ha : SA X (e :: es) m) (hl : ALen m n) (hdb : (x == ("__debug__" : Str)) = false := by decide) (he : starEach (e :: es) X.env = (false, eval e X.env) :: starEach es X.env := by rfl) (hpl : (backTo pos (starEach es X.env)).any (·.1) = false := by rfl) :
    SE X (.Call (.Name x p) (e :: es) [] pos) (eFn F m) := (pe_call (E := E0) G hr hg hm hk hb .nil pass0 ha hdb he hpl).imp fun σ H Q ⟨ρ, δ, h, d, h', R, S, e, q⟩ => by
  obtain ⟨⟨ds, h1⟩, e1, e2⟩ := bnd e
  refine ⟨ρ, δ, h, ds, h1, R, S, e1, fun vs ρ1 H1 T1 S1 r1 => ?_⟩
  show spF X.K n F (vs ++ []) H1 Q E0
  rw [List.append_nil]
  exact ⟨ρ1, h1, ds, d, h', S1, r1, hl _ _ _ _ e1, e2, fun v H' P => q v H' (P.step T1)⟩
theorem se_call0 (G : FnOk X.prog X.w X.K X.mg X.base CX0 k f fd ps (spF X.K 0 F)) (hr : Room k X.A) (hg : Gl X x) (hm : X.mg x = some (.ref f)) (hk : PySem.W.keepIn X.K (.ref f) = true) (hb : Binds X.K fd ps [])
    (hdb : (x == ("__debug__" : Str)) = false := by decide) : SE X (.Call (.Name x p) [] [] pos) (eFn F aNil) := (pe_call0 (E := E0) G hr hg hm hk hb .nil pass0 hdb).imp fun σ H Q ⟨ρ, δ, h, d, h', R, S, e, q⟩ => by
  exact ⟨ρ, h, [], d, h', S, .nil, rfl, e, fun v H' P => q v H' P⟩
end
/-! ### a def -/
def retD (r : Fl × DS × MH) : Option (D × MH) := match r.1 with
  | .rt d => some (d, r.2.2)
  | .nx => some (.non, r.2.2)
  | _ => none
def entry (len : Nat) (ds : List D) : DS := ds.map some ++ List.replicate (len - ds.length) none
def mkF (len : Nat) (body : SM) : Fn := fun ds h => (body (entry len ds) h).bind retD
theorem RepS.entry {K : PySem.W.Frag} {ρ : Ad} {H : Hp} {vs : List V} {ds : List D} (N : List Str) (l : RepL K ρ H vs ds) : RepS K ρ H (L2.start N vs) (Sm.entry N.length ds) := by
  refine ⟨by simp [L2.start, Sm.entry, l.length], fun i d hd => ?_⟩
  unfold Sm.entry at hd
  unfold L2.start
  by_cases hi : i < ds.length
  · rw [List.getElem?_append_left (by simpa using hi), List.getElem?_map] at hd
    obtain ⟨d', e1, e2⟩ := mpd hd
    cases e2
    obtain ⟨v, ev, r⟩ := l.got e1
    refine ⟨v, ?_, r⟩
    rw [List.getElem?_append_left (by rw [List.length_map, l.length]; exact hi), List.getElem?_map, ev]; rfl
  · rw [List.getElem?_append_right (by simpa using hi), List.getElem?_replicate] at hd
    split at hd <;> cases hd
section
variable {P : Program} {w : World} {K : PySem.W.Frag} {mg : Str → Option Value} {base : Heap} {x qual : Str} {st : Stmt} {f : Addr} {fd : FuncData} {N ps : List Str} {k : Nat}
theorem fn_sim {body : SM} (F : Fun K x qual st f fd) (Sc : FnScope N ps (defScope st))
    (hb : ∀ (cdv : Value) (A : Around) (outer : List Env) (s : Shared) (H : Hp) (E : XK), Room k (A.deeper (envOfC qual (defScope st) s.heap.objs.size f cdv)) → SSs (cxOf CX0 P w K mg base N qual (defScope st) f cdv A outer s H E).nox (defBody st) body) :
    FnOk P w K mg base CX0 (k + 1) f fd ps (spF K ps.length (mkF N.length body)) := by
  refine F.ok Sc (fun vs H Q E h => ?_) (fun cdv A outer s H vs Q E hr h => ?_)
  · obtain ⟨ρ, h, ds, d, h', S, r, hl, _⟩ := h
    rw [r.length]; exact hl
  · obtain ⟨ρ, h, ds, d, h', S, r, hl, e, q⟩ := h
    refine ⟨_, hb cdv A outer s H E hr, ?_⟩
    obtain ⟨⟨fl, δ1, h1⟩, e1, e2⟩ := bnd e
    refine ⟨ρ, entry N.length ds, h, fl, δ1, h1, RepS.entry N r, S, e1, fun ρ1 H1 T1 S1 => ?_⟩
    cases fl with
    | nx => cases e2; exact fun σ' R' => q _ _ ⟨ρ1, T1, S1, .non⟩
    | rt d => cases e2; exact fun v r => q _ _ ⟨ρ1, T1, S1, r⟩
    | bk => cases e2
    | ct => cases e2
/-! ### a def whose own objects nobody asks for any more -/
end
mutual
def clD (n : Nat) : D → Bool
  | .tup xs => clL n xs
  | .lv xs => clL n xs
  | .ro xs => clL n xs
  | .dv kvs => clK n kvs
  | .ob m => decide (m < n)
  | _ => true
def clL (n : Nat) : List D → Bool
  | [] => true
  | x :: r => clD n x && clL n r
def clK (n : Nat) : List (Key × D) → Bool
  | [] => true
  | (_, x) :: r => clD n x && clK n r
end
def clO (n : Nat) : MO → Bool
  | .lst xs => clL n xs
  | .dct kvs => clK n kvs
abbrev Ad.cut (ρ : Ad) (n : Nat) : Ad := ⟨ρ.ob.take n, ρ.rs⟩
theorem Ad.cut_has {ρ : Ad} {n : Nat} {a : Addr} (h : (ρ.cut n).has a) : ρ.has a := h.elim (fun m => .inl (List.mem_of_mem_take m)) .inr
mutual
theorem Rep.cut {K : PySem.W.Frag} {ρ : Ad} {H : Hp} {n : Nat} : ∀ {v : V} {d : D}, Rep K ρ H v d → clD n d = true → Rep K (ρ.cut n) H v d
  | _, _, .non, _ => .non
  | _, _, .bl b, _ => .bl b
  | _, _, .int i, _ => .int i
  | _, _, .str x, _ => .str x
  | _, _, .ty n, _ => .ty n
  | _, _, .tup h l, c => .tup (h.elim (fun ⟨a, n⟩ => .inl ⟨a, fun m => n (Ad.cut_has m)⟩) .inr) (RepL.cut l (by simpa [clD] using c))
  | _, _, .lv h n l, c => .lv h (fun m => n (Ad.cut_has m)) (RepL.cut l (by simpa [clD] using c))
  | _, _, .ro h l, c => .ro (h.elim (fun ⟨a, n⟩ => .inl ⟨a, fun m => n (Ad.cut_has m)⟩) .inr) (RepL.cut l (by simpa [clD] using c))
  | _, _, .dv h n l, c => .dv h (fun m => n (Ad.cut_has m)) (RepK.cut l (by simpa [clD] using c))
  | _, _, .ob (n := m) e, c => .ob (by
      have hm : m < n := by simpa [clD] using c
      show (ρ.ob.take n)[m]? = _
      rw [List.getElem?_take_of_lt hm]; exact e)
theorem RepL.cut {K : PySem.W.Frag} {ρ : Ad} {H : Hp} {n : Nat} : ∀ {v : List V} {d : List D}, RepL K ρ H v d → clL n d = true → RepL K (ρ.cut n) H v d
  | _, _, .nil, _ => .nil
  | _, _, .cons r l, c => by
    simp only [clL, Bool.and_eq_true] at c
    exact .cons (Rep.cut r c.1) (RepL.cut l c.2)
theorem RepK.cut {K : PySem.W.Frag} {ρ : Ad} {H : Hp} {n : Nat} : ∀ {v : List (Key × V)} {d : List (Key × D)}, RepK K ρ H v d → clK n d = true → RepK K (ρ.cut n) H v d
  | _, _, .nil, _ => .nil
  | _, _, .cons r l, c => by
    simp only [clK, Bool.and_eq_true] at c
    exact .cons (Rep.cut r c.1) (RepK.cut l c.2)
end
mutual
theorem Rep.clean {K : PySem.W.Frag} {ρ : Ad} {H : Hp} : ∀ {v : V} {d : D}, Rep K ρ H v d → clD ρ.ob.length d = true
  | _, _, .non => rfl
  | _, _, .bl b => rfl
  | _, _, .int i => rfl
  | _, _, .str x => rfl
  | _, _, .ty n => rfl
  | _, _, .tup h l => by simp [clD]; exact RepL.clean l
  | _, _, .lv h n l => by simp [clD]; exact RepL.clean l
  | _, _, .ro h l => by simp [clD]; exact RepL.clean l
  | _, _, .dv h n l => by simp [clD]; exact RepK.clean l
  | _, _, .ob e => by simp [clD]; exact (List.getElem?_eq_some_iff.mp e).1
theorem RepL.clean {K : PySem.W.Frag} {ρ : Ad} {H : Hp} : ∀ {v : List V} {d : List D}, RepL K ρ H v d → clL ρ.ob.length d = true
  | _, _, .nil => rfl
  | _, _, .cons r l => by simp [clL]; exact ⟨Rep.clean r, RepL.clean l⟩
theorem RepK.clean {K : PySem.W.Frag} {ρ : Ad} {H : Hp} : ∀ {v : List (Key × V)} {d : List (Key × D)}, RepK K ρ H v d → clK ρ.ob.length d = true
  | _, _, .nil => rfl
  | _, _, .cons r l => by simp [clK]; exact ⟨Rep.clean r, RepK.clean l⟩
end
theorem ObR.cut {K : PySem.W.Frag} {ρ : Ad} {H : Hp} {n : Nat} {a : Addr} {o : MO} (x : ObR K ρ H a o) (c : clO n o = true) : ObR K (ρ.cut n) H a o := by
  cases o with
  | lst ds => obtain ⟨vs, e, l⟩ := x; exact ⟨vs, e, l.cut c⟩
  | dct ds => obtain ⟨vs, e, l⟩ := x; exact ⟨vs, e, l.cut c⟩
theorem ObR.clean {K : PySem.W.Frag} {ρ : Ad} {H : Hp} {a : Addr} {o : MO} (x : ObR K ρ H a o) : clO ρ.ob.length o = true := by
  cases o with
  | lst ds => obtain ⟨vs, e, l⟩ := x; exact l.clean
  | dct ds => obtain ⟨vs, e, l⟩ := x; exact l.clean
def thaw (n : Nat) (h : MH) (d : D) : D := match d with
  | .ob m => if m < n then .ob m else match h[m]? with
    | some (.lst xs) => .lv xs
    | some (.dct kvs) => .dv kvs
    | none => .ob m
  | d => d
def leave (h : MH) (d : D) (h' : MH) : Option (D × MH) :=
  if clD h.length (thaw h.length h' d) && (beqH (h'.take h.length) h || (h'.take h.length).all (clO h.length)) then some (thaw h.length h' d, h'.take h.length) else none
def mkL (len : Nat) (body : SM) : Fn := fun ds h => ((body (entry len ds) h).bind retD).bind fun p => leave h p.1 p.2
theorem Post.leave {K : PySem.W.Frag} {ρ : Ad} {H H' : Hp} {h h1 h' : MH} {d d' : D} {v : V} (S : Sim K ρ h H) (p : Post K ρ H h1 d v H') (e : Sm.leave h d h1 = some (d', h')) : Post K ρ H h' d' v H' := by
  obtain ⟨ρ1, T, S1, r⟩ := p
  unfold Sm.leave at e
  by_cases hc : (clD h.length (thaw h.length h1 d) && (beqH (h1.take h.length) h || (h1.take h.length).all (clO h.length))) = true
  · rw [if_pos hc] at e
    cases e
    rw [Bool.and_eq_true] at hc
    obtain ⟨c1, c2⟩ := hc
    have hle : h.length ≤ h1.length := by
      rw [← S.len, ← S1.len]
      refine Nat.le_of_not_lt fun hlt => ?_
      have e1 : ρ.ob[ρ1.ob.length]? = some ρ.ob[ρ1.ob.length] := List.getElem?_eq_getElem hlt
      have := (List.getElem?_eq_some_iff.mp (T.pre _ _ e1)).1
      omega
    have hall : ∀ (m : Nat) o, m < h.length → h1[m]? = some o → clO h.length o = true := by
      intro m o hm ho
      rw [Bool.or_eq_true] at c2
      rcases c2 with c2 | c2
      · have e1 := beqH_eq c2
        have e2 : h[m]? = some o := by rw [← e1, List.getElem?_take_of_lt hm]; exact ho
        have hm' : m < ρ.ob.length := by rw [S.len]; exact hm
        have := (S.at_ m _ o (List.getElem?_eq_getElem hm') e2).clean
        rw [S.len] at this
        exact this
      · rw [List.all_eq_true] at c2
        exact c2 o (List.mem_of_getElem? (show (h1.take h.length)[m]? = some o by rw [List.getElem?_take_of_lt hm]; exact ho))
    have Sc : Sim K (ρ1.cut h.length) (h1.take h.length) H' := by
      refine ⟨by simp [S1.len], S1.nd.sublist (List.take_sublist _ _), fun n a o e1 e2 => ?_, fun b hb => ⟨(S1.rsv b hb).1, fun m => (S1.rsv b hb).2 (List.mem_of_mem_take m)⟩⟩
      have hn : n < h.length := by
        have := (List.getElem?_eq_some_iff.mp e2).1
        rw [List.length_take] at this
        omega
      have e1 : (ρ1.ob.take h.length)[n]? = some a := e1
      rw [List.getElem?_take_of_lt hn] at e1 e2
      exact (S1.at_ n a o e1 e2).cut (hall n o hn e2)
    refine ⟨ρ1.cut h.length, ⟨⟨fun n a e => ?_, fun b o n e => ?_⟩, T.rs, T.res⟩, Sc, ?_⟩
    · have hn : n < h.length := by rw [← S.len]; exact (List.getElem?_eq_some_iff.mp e).1
      show (ρ1.ob.take h.length)[n]? = some a
      rw [List.getElem?_take_of_lt hn]
      exact T.pre n a e
    · obtain ⟨n1, e1⟩ := T.old b o n e
      exact ⟨fun m => n1 (Ad.cut_has m), e1⟩
    · cases d with
      | ob m =>
        unfold thaw at c1 ⊢
        dsimp only at c1 ⊢
        by_cases hm : m < h.length
        · rw [if_pos hm] at c1 ⊢
          exact r.cut c1
        · rw [if_neg hm] at c1 ⊢
          cases r with
          | ob hn =>
            rename_i a
            have na : ¬(ρ1.cut h.length).has a := by
              intro z
              rcases z with z | z
              · obtain ⟨j, hj⟩ := List.getElem?_of_mem z
                have hj1 : j < h.length := by
                  have := (List.getElem?_eq_some_iff.mp hj).1
                  rw [List.length_take] at this
                  omega
                rw [List.getElem?_take_of_lt hj1] at hj
                have := (List.getElem?_inj (List.getElem?_eq_some_iff.mp hj).1 S1.nd).mp (hj.trans hn.symm)
                omega
              · exact (S1.rsv a z).2 (List.mem_of_getElem? hn)
            cases q : h1[m]? with
            | none => rw [q] at c1; exact absurd c1 (by simp [clD]; omega)
            | some o =>
              have x := S1.at_ m a o hn q
              cases o with
              | lst xs =>
                rw [q] at c1
                obtain ⟨vs, e1, l⟩ := x
                exact .lv e1 na (l.cut (by simpa [clD] using c1))
              | dct xs =>
                rw [q] at c1
                obtain ⟨vs, e1, l⟩ := x
                exact .dv e1 na (l.cut (by simpa [clD] using c1))
      | _ => exact r.cut c1
  · rw [if_neg hc] at e; cases e
section
variable {P : Program} {w : World} {K : PySem.W.Frag} {mg : Str → Option Value} {base : Heap} {x qual : Str} {st : Stmt} {f : Addr} {fd : FuncData} {N ps : List Str} {k : Nat}
theorem fn_leave {body : SM} (G : FnOk P w K mg base CX0 k f fd ps (spF K ps.length (mkF N.length body))) : FnOk P w K mg base CX0 k f fd ps (spF K ps.length (mkL N.length body)) := by
  refine G.imp fun vs H Q E hh => ?_
  obtain ⟨ρ, h, ds, d, h', S, r, hl, e, q⟩ := hh
  obtain ⟨⟨d1, h1⟩, e1, e2⟩ := bnd e
  exact ⟨ρ, h, ds, d1, h1, S, r, hl, e1, fun v H' p => q v H' (p.leave S e2)⟩
end
/-! ### the law -/
def spT (K : PySem.W.Frag) : Sp := fun vs H Q _ => ∃ (a : Addr) (ns : List Int), vs = [.ref a] ∧ SqL K H a (ns.map V.int) ∧ ns.length ≤ 63 ∧ ∀ H', Q (.bl true) H'
theorem law_top {P : Program} {w : World} {K : PySem.W.Frag} {mg : Str → Option Value} {base : Heap} {k : Nat} {f : Addr} {fd : FuncData} {ps : List Str} {F : Fn} (G : FnOk P w K mg base CX0 k f fd ps (spF K 1 F))
    (hF : ∀ ns : List Int, ns.length ≤ 63 → ∃ h', F [.ro (ns.map D.int)] [] = some (.bl true, h')) : FnOk P w K mg base CX0 k f fd ps (spT K) := by
  refine G.imp fun vs H Q E hh => ?_
  obtain ⟨a, ns, rfl, ha, hl, q⟩ := hh
  obtain ⟨h', e⟩ := hF ns hl
  refine ⟨⟨[], []⟩, [], [.ro (ns.map D.int)], .bl true, h', ⟨rfl, List.nodup_nil, fun n a o e => by simp at e, fun b hb => absurd hb (by simp)⟩, .cons (.ro ?_ (repL_ints ns)) .nil, rfl, e, fun v H' ⟨ρ', T, S, r⟩ => ?_⟩
  · rcases ha with ha | ha
    · exact .inl ⟨ha, fun z => z.elim (fun z => absurd z (by simp)) fun z => absurd z (by simp)⟩
    · exact .inr (.inr ha)
  · cases r
    exact q H'
theorem walk {l : PySem.W.OpenLaw} {q : Program} {loose : List Str} {XP : (Str → Option Value) → Heap → Prop} {YP : World → Heap → Prop} {d : DefRec} {K : Params → PySem.W.Frag} {k : Nat} (hn : l.most = some 63) (hdf : d.params.defaults = [])
    (hr : Room k callerA) (hY : ∀ (w : World) (h : Heap), YP w h → (K w.params).In h)
    (F : ∀ (w : World) (mg : Str → Option Value) (fa : Addr) (h : Heap), (K w.params).In h → h.Ns mainGlobals mg → mg d.name = some (.ref fa) →
      ∃ fd : FuncData, (∀ (s : Shared) (u : Value), BindsTo s fd ⟨[u], []⟩ [("_law_script", u)]) ∧ ∀ base : Heap, (K w.params).In base → base.Ns mainGlobals mg → FnOk l.prog w (K w.params) mg base CX0 k fa fd ["_law_script"] (spT (K w.params))) :
    PySem.W.WalkO q loose XP YP l.row.toRowW d [] (fun f vs => PySem.call f vs) :=
  L2.walk_of (n := 63) (k := k) (x := "_law_script") (CX := fun _ => CX0) (sp := fun w => spT (K w.params)) hn (by decide) hdf hr hY F (fun _ _ a ns hl _ hS => ⟨a, ns, rfl, hS, hl, fun _ => rfl⟩) fun _ _ _ _ _ z => z
end Sm

namespace Sm
open PySem L2 PySem.Spec PyProof.Rows

/-! ### data as the library's data -/
mutual
def pyD : D → Option PyData
  | .non => some .none
  | .bl b => some (.bool b)
  | .int i => some (.int i)
  | .str x => some (.str x)
  | .tup xs => (pyL xs).map .tuple
  | .lv xs => (pyL xs).map .list
  | .ro xs => (pyL xs).map .list
  | _ => none
def pyL : List D → Option (List PyData)
  | [] => some []
  | x :: r => (pyD x).bind fun a => (pyL r).map fun b => a :: b
end
def rdD (h : MH) (d : D) : Option PyData := match d with
  | .ob n => match h[n]? with
    | some (.lst xs) => (pyL xs).map .list
    | _ => none
  | d => pyD d
mutual
theorem Rep.rds {K : PySem.W.Frag} {ρ : Ad} {H : Hp} : ∀ {v : V} {d : D} {p : PyData}, Rep K ρ H v d → pyD d = some p → Rds K H v p ∧ p.canLay0 = true
  | _, _, _, .non, e => by cases e; exact ⟨.non, rfl⟩
  | _, _, _, .bl b, e => by cases e; exact ⟨.bl b, rfl⟩
  | _, _, _, .int i, e => by cases e; exact ⟨.int i, rfl⟩
  | _, _, _, .str hs, e => by cases e; exact ⟨.str _, by simpa [PyData.canLay0] using hs⟩
  | _, _, _, .ty n, e => by cases e
  | _, _, _, .tup h l, e => by
    simp only [pyD] at e
    obtain ⟨q, e1, e2⟩ := mpd e
    subst e2
    obtain ⟨a, b⟩ := RepL.rds l e1
    exact ⟨.tup h.sq a, by simpa [PyData.canLay0] using b⟩
  | _, _, _, .lv h n l, e => by
    simp only [pyD] at e
    obtain ⟨q, e1, e2⟩ := mpd e
    subst e2
    obtain ⟨a, b⟩ := RepL.rds l e1
    exact ⟨.lst (SqL.of h) a, by simpa [PyData.canLay0] using b⟩
  | _, _, _, .ro h l, e => by
    simp only [pyD] at e
    obtain ⟨q, e1, e2⟩ := mpd e
    subst e2
    obtain ⟨a, b⟩ := RepL.rds l e1
    exact ⟨.lst h.sq a, by simpa [PyData.canLay0] using b⟩
  | _, _, _, .dv h n l, e => by simp [pyD] at e
  | _, _, _, .ob h, e => by simp [pyD] at e
theorem RepL.rds {K : PySem.W.Frag} {ρ : Ad} {H : Hp} : ∀ {v : List V} {d : List D} {p : List PyData}, RepL K ρ H v d → pyL d = some p → RdsL K H v p ∧ PyData.canLayAll0 p = true
  | _, _, _, .nil, e => by cases e; exact ⟨.nil, rfl⟩
  | _, _, _, .cons r l, e => by
    simp only [pyL] at e
    obtain ⟨a, e1, e2⟩ := bnd e
    obtain ⟨b, e3, e4⟩ := mpd e2
    subst e4
    obtain ⟨a1, a2⟩ := Rep.rds r e1
    obtain ⟨b1, b2⟩ := RepL.rds l e3
    exact ⟨.cons a1 b1, by simp [PyData.canLayAll0, a2, b2]⟩
end
section
variable {K : PySem.W.Frag} {ρ : Ad} {H : Hp} {h : MH} {v : V} {d : D}
theorem rdD_rds {p : PyData} (S : Sim K ρ h H) (r : Rep K ρ H v d) (e : rdD h d = some p) : Rds K H v p ∧ p.canLay0 = true := by
  cases r with
  | @ob a n hn =>
    unfold rdD at e
    dsimp only at e
    cases q : h[n]? with
    | none => rw [q] at e; cases e
    | some o =>
      rw [q] at e
      cases o with
      | dct _ => cases e
      | lst xs =>
        obtain ⟨vs, e1, l⟩ := S.at_ n a _ hn q
        obtain ⟨b, e3, e4⟩ := mpd e
        subst e4
        obtain ⟨b1, b2⟩ := l.rds e3
        exact ⟨.lst (SqL.of e1) b1, by simpa [PyData.canLay0] using b2⟩
  | non => exact Rep.rds (Rep.non (ρ := ρ)) e
  | bl b => exact Rep.rds (Rep.bl (ρ := ρ) b) e
  | int i => exact Rep.rds (Rep.int (ρ := ρ) i) e
  | str x => exact Rep.rds (Rep.str (ρ := ρ) x) e
  | ty n => exact Rep.rds (Rep.ty (ρ := ρ) n) e
  | tup h l => exact Rep.rds (.tup h l) e
  | lv h n l => exact Rep.rds (.lv h n l) e
  | ro h l => exact Rep.rds (.ro h l) e
  | dv h n l => exact Rep.rds (.dv h n l) e
/-- the lists that may be read as they stand -/
def lstO (d : D) (h : MH) : Option (List D) := match d with
  | .lv xs => some xs
  | .ob n => match h[n]? with
    | some (.lst xs) => some xs
    | _ => none
  | _ => none
theorem lstO_of {xs : List D} (S : Sim K ρ h H) (r : Rep K ρ H v d) (e : lstO d h = some xs) : ∃ a vs, v = .ref a ∧ H a = some (.lst vs) ∧ RepL K ρ H vs xs := by
  cases r with
  | @ob a n hn =>
    unfold lstO at e
    dsimp only at e
    cases q : h[n]? with
    | none => rw [q] at e; cases e
    | some o =>
      rw [q] at e
      cases o with
      | dct _ => cases e
      | lst ys =>
        cases e
        obtain ⟨vs, e1, l⟩ := S.at_ n a _ hn q
        exact ⟨a, vs, rfl, e1, l⟩
  | lv h n l => cases e; exact ⟨_, _, rfl, h, l⟩
  | _ => cases e
def dctO (d : D) (h : MH) : Option (List (Key × D)) := match d with
  | .dv kvs => some kvs
  | .ob n => match h[n]? with
    | some (.dct kvs) => some kvs
    | _ => none
  | _ => none
theorem dctO_of {xs : List (Key × D)} (S : Sim K ρ h H) (r : Rep K ρ H v d) (e : dctO d h = some xs) : ∃ a vs, v = .ref a ∧ H a = some (.dK vs) ∧ RepK K ρ H vs xs := by
  cases r with
  | @ob a n hn =>
    unfold dctO at e
    dsimp only at e
    cases q : h[n]? with
    | none => rw [q] at e; cases e
    | some o =>
      rw [q] at e
      cases o with
      | lst _ => cases e
      | dct ys =>
        cases e
        obtain ⟨vs, e1, l⟩ := S.at_ n a _ hn q
        exact ⟨a, vs, rfl, e1, l⟩
  | dv h n l => cases e; exact ⟨_, _, rfl, h, l⟩
  | _ => cases e
/-- lists and tuples, read -/
theorem seqD_of {xs : List D} {ws : W} (S : Sim K ρ h H) (r : Rep K ρ H v d) (e : seqD d h = some (xs, ws)) : ∃ a vs, v = .ref a ∧ (SqL K H a vs ∨ SqT K H a vs) ∧ RepL K ρ H vs xs := by
  obtain ⟨a, e1, ⟨vs, q, l⟩, _⟩ := seq_of S r e
  refine ⟨a, vs, e1, ?_, l⟩
  generalize isLs d = b at q
  cases q with
  | l q => exact .inl q
  | t q => exact .inr q
/-! ### dicts -/
def keyD : D → Option Key
  | .int i => some (.inl i)
  | .str x => some (.inr x)
  | _ => none
def valD (kvs : List (Key × D)) (k : Key) : Option D := (kvs.find? fun kv => decide (kv.1 = k)).map (·.2)
def putD (kvs : List (Key × D)) (k : Key) (v : D) : List (Key × D) :=
  if (kvs.any fun kv => decide (kv.1 = k)) = true then kvs.map (fun kv => if kv.1 = k then (kv.1, v) else kv) else kvs ++ [(k, v)]
theorem keyD_of {k : Key} (r : Rep K ρ H v d) (e : keyD d = some k) : v = kV k := by
  cases r with
  | int i => cases e; rfl
  | str x => cases e; rfl
  | _ => cases e
theorem RepK.val : ∀ {us : List (Key × V)} {kvs : List (Key × D)} (k : Key), RepK K ρ H us kvs → (valD kvs k = none ∧ valV us k = none) ∨ ∃ d v, valD kvs k = some d ∧ valV us k = some v ∧ Rep K ρ H v d
  | _, _, k, .nil => .inl ⟨rfl, rfl⟩
  | _, _, k, .cons (k := j) (v := v) (vs := vs) (d := d) (ds := ds) r l => by
    by_cases z : j = k
    · exact .inr ⟨d, v, by simp [valD, z], by simp [valV, z], r⟩
    · have h1 : valD ((j, d) :: ds) k = valD ds k := by simp only [valD, List.find?_cons, z, decide_false]
      have h2 : valV ((j, v) :: vs) k = valV vs k := valV_neg z
      rw [h1, h2]
      exact RepK.val k l
theorem RepK.length : ∀ {us : List (Key × V)} {kvs : List (Key × D)}, RepK K ρ H us kvs → us.length = kvs.length
  | _, _, .nil => rfl
  | _, _, .cons _ l => by rw [List.length_cons, List.length_cons, RepK.length l]
theorem RepK.any (k : Key) : ∀ {us : List (Key × V)} {kvs : List (Key × D)}, RepK K ρ H us kvs → (us.any fun kv => decide (kv.1 = k)) = (kvs.any fun kv => decide (kv.1 = k))
  | _, _, .nil => rfl
  | _, _, .cons _ l => by rw [List.any_cons, List.any_cons, RepK.any k l]
theorem RepK.map {k : Key} {v : V} {d : D} (r : Rep K ρ H v d) : ∀ {us : List (Key × V)} {kvs : List (Key × D)}, RepK K ρ H us kvs → RepK K ρ H (us.map fun kv => if kv.1 = k then (kv.1, v) else kv) (kvs.map fun kv => if kv.1 = k then (kv.1, d) else kv)
  | _, _, .nil => .nil
  | _, _, .cons (k := j) q l => by
    rw [List.map_cons, List.map_cons]
    by_cases z : j = k
    · rw [if_pos z, if_pos z]; exact .cons r (RepK.map r l)
    · rw [if_neg z, if_neg z]; exact .cons q (RepK.map r l)
theorem RepK.append : ∀ {us vs : List (Key × V)} {ks ls : List (Key × D)}, RepK K ρ H us ks → RepK K ρ H vs ls → RepK K ρ H (us ++ vs) (ks ++ ls)
  | _, _, _, _, .nil, t => t
  | _, _, _, _, .cons r l, t => .cons r (RepK.append l t)
theorem RepK.put {us : List (Key × V)} {kvs : List (Key × D)} {k : Key} (l : RepK K ρ H us kvs) {v : V} {d : D} (r : Rep K ρ H v d) : RepK K ρ H (putK us k v) (putD kvs k d) := by
  unfold putK putD
  rw [l.any k]
  by_cases z : (kvs.any fun kv => decide (kv.1 = k)) = true
  · rw [if_pos z, if_pos z]; exact l.map r
  · rw [if_neg z, if_neg z]; exact l.append (.cons r .nil)
end

/-! ### operations -/
def fAdd (d e : D) (h : MH) : Option (D × MH) := match d, e with
  | .int i, .int j => some (.int (i + j), h)
  | .str a, .str b => if a.length + b.length ≤ sizeLine then some (.str (a ++ b), h) else none
  | .tup [], .tup _ => none
  | .tup (x :: xs), .tup ys => if xs.length + 1 + ys.length ≤ sizeLine then some (.tup (x :: xs ++ ys), h) else none
  | d, e => (lstO d h).bind fun xs => (lstO e h).bind fun ys => if xs.length + ys.length ≤ sizeLine then some (.lv (xs ++ ys), h) else none
def fSub (d e : D) (h : MH) : Option (D × MH) := match d, e with
  | .int i, .int j => some (.int (i - j), h)
  | _, _ => none
def mulOk (i j : Int) : Bool := (decide (-(2 ^ 64) < i) && decide (i < 2 ^ 64)) || (decide (-(2 ^ 64) < j) && decide (j < 2 ^ 64))
def fMul (d e : D) (h : MH) : Option (D × MH) := match d, e with
  | .int i, .int j => if mulOk i j then some (.int (i * j), h) else none
  | _, _ => none
def fMod (d e : D) (h : MH) : Option (D × MH) := match d, e with
  | .int i, .int j => if 0 < j then some (.int (i % j), h) else none
  | _, _ => none
def fDiv (d e : D) (h : MH) : Option (D × MH) := match d, e with
  | .int i, .int j => if 0 < j ∧ j ≤ 10 ^ 40 then some (.int (i / j), h) else none
  | _, _ => none
def fPow (d e : D) (h : MH) : Option (D × MH) := match d, e with
  | .int i, .int j => if 0 ≤ j ∧ j ≤ 1000000 ∧ i.natAbs < 2 ^ 64 then some (.int (i ^ j.toNat), h) else none
  | _, _ => none
def cmpI (f : Int → Int → Bool) (d e : D) (h : MH) : Option (D × MH) := match d, e with
  | .int i, .int j => some (.bl (f i j), h)
  | _, _ => none
def fLt := cmpI fun i j => decide (i < j)
def fLe := cmpI fun i j => decide (i ≤ j)
def fGt := cmpI fun i j => decide (j < i)
def fGe := cmpI fun i j => decide (j ≤ i)
def eqD (d e : D) (h : MH) : Option Bool := (rdD h d).bind fun a => (rdD h e).bind fun b => if a.depth ≤ 64 ∧ b.depth ≤ 64 then some (PyData.eqv a b) else none
def fEq (d e : D) (h : MH) : Option (D × MH) := (eqD d e h).map fun c => (.bl c, h)
def fNe (d e : D) (h : MH) : Option (D × MH) := (eqD d e h).map fun c => (.bl (!c), h)
def isN : D → Bool
  | .non => true
  | _ => false
def fIsN (d e : D) (h : MH) : Option (D × MH) := match e with
  | .non => some (.bl (isN d), h)
  | _ => none
def fNotN (d e : D) (h : MH) : Option (D × MH) := match e with
  | .non => some (.bl (!isN d), h)
  | _ => none
def uNeg (d : D) (h : MH) : Option (D × MH) := match d with
  | .int i => some (.int (-i), h)
  | _ => none
def inD (d e : D) (h : MH) : Option Bool := match dctO e h with
  | some kvs => (keyD d).map fun k => (valD kvs k).isSome
  | none => match d, e with
    | .str x, .str y => some (!(Builtin.Str.occurrences y x 0 y.length 1).isEmpty)
    | d, e => (seqD e h).bind fun p => (rdD h d).bind fun a => (pyL p.1).bind fun bs => if a.depth ≤ 60 ∧ PyData.depthAll bs ≤ 60 then some (bs.any fun b => PyData.eqv b a) else none
def fIn (d e : D) (h : MH) : Option (D × MH) := (inD d e h).map fun c => (.bl c, h)
def fNotIn (d e : D) (h : MH) : Option (D × MH) := (inD d e h).map fun c => (.bl (!c), h)
def fIx (d e : D) (h : MH) : Option (D × MH) := match dctO d h with
  | some kvs => (keyD e).bind fun k => (valD kvs k).map fun z => (z, h)
  | none => match d, e with
    | .str z, .int i => if z.length ≤ sizeLine then (atI z.cps.toList i).map fun c => (.str ⟨#[c]⟩, h) else none
    | d, .int i => (seqD d h).bind fun p => (atI p.1 i).map fun z => (z, h)
    | _, _ => none
end Sm

namespace Sm
open PySem L2 PySem.Spec PyProof.Rows
section
variable {X : Cx}
theorem op_int {g : Value → Value → Sem Value} {C : Int → Int → Prop} {q : Int → Int → V} {f : D → D → MH → Option (D × MH)} (ho : OpR X g (rI C q))
    (hf : ∀ d e h z h', f d e h = some (z, h') → ∃ i j, d = .int i ∧ e = .int j ∧ C i j ∧ h' = h ∧ ∀ ρ H, Rep X.K ρ H (q i j) z) : OpS X g f := by
  intro pins s σ H x y v u Q I rx ry hh
  obtain ⟨ρ, h, d, e, z, h', S, rd, re, ee, k⟩ := hh
  obtain ⟨i, j, rfl, rfl, c, rfl, rz⟩ := hf _ _ _ _ _ ee
  cases rd; cases re
  exact ho pins s σ H _ _ v u Q I rx ry ⟨i, j, rfl, rfl, c, k _ _ (.here S (rz _ _))⟩
theorem op_int0 {g : Value → Value → Sem Value} {q : Int → Int → V} {f : D → D → MH → Option (D × MH)} (ho : OpR X g (rI0 q))
    (hf : ∀ d e h z h', f d e h = some (z, h') → ∃ i j, d = .int i ∧ e = .int j ∧ h' = h ∧ ∀ ρ H, Rep X.K ρ H (q i j) z) : OpS X g f := by
  intro pins s σ H x y v u Q I rx ry hh
  obtain ⟨ρ, h, d, e, z, h', S, rd, re, ee, k⟩ := hh
  obtain ⟨i, j, rfl, rfl, rfl, rz⟩ := hf _ _ _ _ _ ee
  cases rd; cases re
  exact ho pins s σ H _ _ v u Q I rx ry ⟨i, j, rfl, rfl, k _ _ (.here S (rz _ _))⟩
theorem os_sub : OpS X (binaryOp .Sub) fSub := op_int0 op_sub fun d e h z h' ee => by
  cases d <;> first | (cases ee; done) | skip
  cases e <;> first | (cases ee; done) | skip
  cases ee; exact ⟨_, _, rfl, rfl, rfl, fun _ _ => .int _⟩
theorem os_mul : OpS X (binaryOp .Mult) fMul := op_int op_mul fun d e h z h' ee => by
  cases d <;> first | (cases ee; done) | skip
  cases e <;> first | (cases ee; done) | skip
  rename_i i j
  unfold fMul at ee
  dsimp only at ee
  by_cases c : mulOk i j = true
  · rw [if_pos c] at ee; cases ee
    refine ⟨i, j, rfl, rfl, ?_, rfl, fun _ _ => .int _⟩
    unfold mulOk at c
    simp only [Bool.or_eq_true, Bool.and_eq_true, decide_eq_true_eq] at c
    exact c
  · rw [if_neg c] at ee; cases ee
theorem os_mod : OpS X (binaryOp .Mod) fMod := op_int op_mod fun d e h z h' ee => by
  cases d <;> first | (cases ee; done) | skip
  cases e <;> first | (cases ee; done) | skip
  rename_i i j
  unfold fMod at ee
  dsimp only at ee
  by_cases c : 0 < j
  · rw [if_pos c] at ee; cases ee; exact ⟨i, j, rfl, rfl, c, rfl, fun _ _ => .int _⟩
  · rw [if_neg c] at ee; cases ee
theorem os_div : OpS X (binaryOp .FloorDiv) fDiv := op_int op_fdivP fun d e h z h' ee => by
  cases d <;> first | (cases ee; done) | skip
  cases e <;> first | (cases ee; done) | skip
  rename_i i j
  unfold fDiv at ee
  dsimp only at ee
  by_cases c : 0 < j ∧ j ≤ 10 ^ 40
  · rw [if_pos c] at ee; cases ee; exact ⟨i, j, rfl, rfl, c, rfl, fun _ _ => .int _⟩
  · rw [if_neg c] at ee; cases ee
theorem os_pow : OpS X (binaryOp .Pow) fPow := op_int op_pow fun d e h z h' ee => by
  cases d <;> first | (cases ee; done) | skip
  cases e <;> first | (cases ee; done) | skip
  rename_i i j
  unfold fPow at ee
  dsimp only at ee
  by_cases c : 0 ≤ j ∧ j ≤ 1000000 ∧ i.natAbs < 2 ^ 64
  · rw [if_pos c] at ee; cases ee; exact ⟨i, j, rfl, rfl, c, rfl, fun _ _ => .int _⟩
  · rw [if_neg c] at ee; cases ee
theorem cmp_i {f : Int → Int → Bool} {d e z : D} {h h' : MH} (ee : cmpI f d e h = some (z, h')) : ∃ i j, d = .int i ∧ e = .int j ∧ h' = h ∧ z = .bl (f i j) := by
  cases d <;> first | (cases ee; done) | skip
  cases e <;> first | (cases ee; done) | skip
  cases ee; exact ⟨_, _, rfl, rfl, rfl, rfl⟩
theorem os_lt : OpS X (compareOp .Lt) fLt := op_int0 op_lt fun d e h z h' ee => by
  obtain ⟨i, j, rfl, rfl, rfl, rfl⟩ := cmp_i ee; exact ⟨i, j, rfl, rfl, rfl, fun _ _ => .bl _⟩
theorem os_le : OpS X (compareOp .LtE) fLe := op_int0 op_le fun d e h z h' ee => by
  obtain ⟨i, j, rfl, rfl, rfl, rfl⟩ := cmp_i ee; exact ⟨i, j, rfl, rfl, rfl, fun _ _ => .bl _⟩
theorem os_gt : OpS X (compareOp .Gt) fGt := op_int0 op_gt fun d e h z h' ee => by
  obtain ⟨i, j, rfl, rfl, rfl, rfl⟩ := cmp_i ee; exact ⟨i, j, rfl, rfl, rfl, fun _ _ => .bl _⟩
theorem os_ge : OpS X (compareOp .GtE) fGe := op_int0 op_ge fun d e h z h' ee => by
  obtain ⟨i, j, rfl, rfl, rfl, rfl⟩ := cmp_i ee; exact ⟨i, j, rfl, rfl, rfl, fun _ _ => .bl _⟩
theorem us_neg : UnR X (unaryOp .USub) (rU X.K uNeg) := by
  intro pins s σ H x v Q I rx hh
  obtain ⟨ρ, h, d, z, h', S, rd, ee, k⟩ := hh
  cases rd <;> first | (cases ee; done) | skip
  cases ee
  exact un_neg pins s σ H _ v Q I rx ⟨_, rfl, k _ _ (.here S (.int _))⟩
theorem os_add : OpS X (binaryOp .Add) fAdd := by
  intro pins s σ H x y v u Q I rx ry hh
  obtain ⟨ρ, h, d, e, z, h', S, rd, re, ee, k⟩ := hh
  have lists : ((lstO d h).bind fun xs => (lstO e h).bind fun ys => if xs.length + ys.length ≤ sizeLine then some (D.lv (xs ++ ys), h) else none) = some (z, h') → wpAny (model X.prog X.w) X.A (binaryOp .Add v u) (EP X pins σ Q) X.xe s := by
    intro ee
    obtain ⟨xs, e1, e4⟩ := bnd ee
    obtain ⟨ys, e2, e3⟩ := bnd e4
    by_cases c : xs.length + ys.length ≤ sizeLine
    · rw [if_pos c] at e3; cases e3
      obtain ⟨a, vs, rfl, ha, la⟩ := lstO_of S rd e1
      obtain ⟨b, us, rfl, hb, lb⟩ := lstO_of S re e2
      exact op_cat pins s σ H _ _ v u Q I rx ry ⟨a, b, vs, us, rfl, rfl, ha, hb, by rw [la.length, lb.length]; exact c, fun p hp => k _ _ (.lv S (la.append lb) hp)⟩
    · rw [if_neg c] at e3; cases e3
  cases d with
  | int i =>
    cases e <;> first | (cases ee; done) | skip
    cases ee; cases rd; cases re
    exact op_add pins s σ H _ _ v u Q I rx ry ⟨_, _, rfl, rfl, k _ _ (.here S (.int _))⟩
  | str a =>
    cases e <;> first | (cases ee; done) | skip
    rename_i b
    unfold fAdd at ee
    dsimp only at ee
    by_cases c : a.length + b.length ≤ sizeLine
    · rw [if_pos c] at ee; cases ee
      cases rd with | str h1 => cases re with | str h2 =>
      exact op_add_str pins s σ H _ _ v u Q I rx ry ⟨a, b, rfl, rfl, c, k _ _ (.here S (.str (strOk_app h1 h2)))⟩
    · rw [if_neg c] at ee; cases ee
  | tup xs =>
    cases xs with
    | nil => cases e <;> cases ee
    | cons x0 xs =>
      cases e <;> first | (cases ee; done) | skip
      rename_i ys
      unfold fAdd at ee
      dsimp only at ee
      by_cases c : xs.length + 1 + ys.length ≤ sizeLine
      · rw [if_pos c] at ee; cases ee
        cases rd with | tup h1 l1 => cases re with | tup h2 l2 =>
        rename_i a vs b us
        refine op_catT pins s σ H _ _ v u Q I rx ry ⟨a, b, vs, us, rfl, rfl, h1.sq, h2.sq, ?_, ?_, fun z => ?_, fun _ p hp => k _ _ (.tup S (l1.append l2) hp)⟩
        · intro z; rw [z] at l1; cases l1
        · rw [l1.length, l2.length]; exact c
        · rw [z] at l2
          cases l2
          rw [List.append_nil] at k
          exact k _ _ (.here S (.tup h1 l1))
      · rw [if_neg c] at ee; cases ee
  | lv xs => exact lists (by cases e <;> exact ee)
  | ob n => exact lists (by cases e <;> exact ee)
  | non => exact lists (by cases e <;> exact ee)
  | bl b => exact lists (by cases e <;> exact ee)
  | ty b => exact lists (by cases e <;> exact ee)
  | ro b => exact lists (by cases e <;> exact ee)
  | dv b => exact lists (by cases e <;> exact ee)
theorem eq_shaped {p : PyData} (h1 : p.canLay0 = true) (h2 : p.depth ≤ 64) : SeqAt.shaped p = true := by
  unfold PySem.SeqAt.shaped; rw [h1, decide_eq_true h2]; rfl
theorem os_eq (hu : X.A.units + 64 < cLine) : OpS X (compareOp .Eq) fEq := by
  intro pins s σ H x y v u Q I rx ry hh
  obtain ⟨ρ, h, d, e, z, h', S, rd, re, ee, k⟩ := hh
  obtain ⟨c, e1, e2⟩ := mpd ee
  cases e2
  obtain ⟨a, e3, e4⟩ := bnd e1
  obtain ⟨b, e5, e6⟩ := bnd e4
  by_cases w : a.depth ≤ 64 ∧ b.depth ≤ 64
  · rw [if_pos w] at e6; cases e6
    obtain ⟨r1, c1⟩ := rdD_rds S rd e3
    obtain ⟨r2, c2⟩ := rdD_rds S re e5
    exact op_eqD hu pins s σ H _ _ v u Q I rx ry ⟨a, b, r1, r2, eq_shaped c1 w.1, eq_shaped c2 w.2, k _ _ (.here S (.bl _))⟩
  · rw [if_neg w] at e6; cases e6
theorem os_ne (hu : X.A.units + 64 < cLine) : OpS X (compareOp .NotEq) fNe := by
  intro pins s σ H x y v u Q I rx ry hh
  obtain ⟨ρ, h, d, e, z, h', S, rd, re, ee, k⟩ := hh
  obtain ⟨c, e1, e2⟩ := mpd ee
  cases e2
  obtain ⟨a, e3, e4⟩ := bnd e1
  obtain ⟨b, e5, e6⟩ := bnd e4
  by_cases w : a.depth ≤ 64 ∧ b.depth ≤ 64
  · rw [if_pos w] at e6; cases e6
    obtain ⟨r1, c1⟩ := rdD_rds S rd e3
    obtain ⟨r2, c2⟩ := rdD_rds S re e5
    exact op_neD hu pins s σ H _ _ v u Q I rx ry ⟨a, b, r1, r2, eq_shaped c1 w.1, eq_shaped c2 w.2, k _ _ (.here S (.bl _))⟩
  · rw [if_neg w] at e6; cases e6
theorem rep_non {K : PySem.W.Frag} {ρ : Ad} {H : Hp} {v : V} {d : D} (r : Rep K ρ H v d) : decide (v = V.non) = isN d := by
  cases r <;> rfl
theorem os_isN : OpS X (compareOp .Is) fIsN := by
  intro pins s σ H x y v u Q I rx ry hh
  obtain ⟨ρ, h, d, e, z, h', S, rd, re, ee, k⟩ := hh
  cases e <;> first | (cases ee; done) | skip
  cases ee; cases re
  refine op_isN pins s σ H _ _ v u Q I rx ry ⟨rfl, ?_⟩
  rw [rep_non rd]
  exact k _ _ (.here S (.bl _))
theorem os_notN : OpS X (compareOp .IsNot) fNotN := by
  intro pins s σ H x y v u Q I rx ry hh
  obtain ⟨ρ, h, d, e, z, h', S, rd, re, ee, k⟩ := hh
  cases e <;> first | (cases ee; done) | skip
  cases ee; cases re
  refine op_notN pins s σ H _ _ v u Q I rx ry ⟨rfl, ?_⟩
  rw [rep_non rd]
  exact k _ _ (.here S (.bl _))
/-! ### in -/
theorem any_reads {h : Heap} {p : PyData} {f : Value → Bool} : ∀ {us : List Value} {ds : List PyData} {as : List Addr}, ReadsAll h us ds as → (∀ u d as, u ∈ us → Reads h u d as → d ∈ ds → f u = PyData.eqv d p) → us.any f = ds.any fun b => PyData.eqv b p
  | _, _, _, .nil, _ => rfl
  | _, _, _, .cons r l, hf => by
    rw [List.any_cons, List.any_cons, hf _ _ _ List.mem_cons_self r List.mem_cons_self, any_reads l fun u d as hu hr hd => hf u d as (List.mem_cons_of_mem _ hu) hr (List.mem_cons_of_mem _ hd)]
open Classical in
noncomputable def eqF (h : Heap) (p : PyData) (u : Value) : Bool := if q : ∃ d as, Reads h u d as ∧ d.canLay0 = true then PyData.eqv q.choose p else false
theorem eqF_of {h : Heap} {p d : PyData} {u : Value} {as : List Addr} (r : Reads h u d as) (c : d.canLay0 = true) : eqF h p u = PyData.eqv d p := by
  have q : ∃ d as, Reads h u d as ∧ d.canLay0 = true := ⟨d, as, r, c⟩
  unfold eqF
  rw [dif_pos q]
  obtain ⟨as', r', c'⟩ := q.choose_spec
  rw [PySem.SeqAt.Reads.unique _ _ _ _ _ c' r' r]
theorem canLay_mem : ∀ {ds : List PyData} {d : PyData}, PyData.canLayAll0 ds = true → d ∈ ds → d.canLay0 = true
  | x :: r, d, c, m => by
    simp only [PyData.canLayAll0, Bool.and_eq_true] at c
    rcases List.mem_cons.mp m with rfl | m
    · exact c.1
    · exact canLay_mem c.2 m
theorem depth_mem : ∀ {ds : List PyData} {d : PyData}, d ∈ ds → d.depth ≤ PyData.depthAll ds
  | x :: r, d, m => by
    simp only [PyData.depthAll]
    rcases List.mem_cons.mp m with rfl | m
    · omega
    · have := depth_mem m; omega
end
end Sm

namespace Sm
open PySem L2 PySem.Spec PyProof.Rows
theorem reads_mem {h : Heap} : ∀ {us : List Value} {ds : List PyData} {as : List Addr}, ReadsAll h us ds as → ∀ y ∈ us, ∃ d as, Reads h y d as ∧ d ∈ ds
  | _, _, _, .nil, y, hy => by cases hy
  | _, _, _, .cons r l, y, hy => by
    rcases List.mem_cons.mp hy with rfl | hy
    · exact ⟨_, _, r, List.mem_cons_self⟩
    · obtain ⟨d, as, a1, a2⟩ := reads_mem l y hy
      exact ⟨d, as, a1, List.mem_cons_of_mem _ a2⟩
section
variable {X : Cx} {pins : List (Addr × Obj)} {σ : L2.St} {H : Hp} {s : Shared} {ρ : Ad} {h : MH} {x y : V} {v u : Value} {d e : D}
/-- in, by data -/
theorem in_of (hu : X.A.units + 64 < cLine) (I : L2.Inv X pins σ H s) (rx : L2.RelV x v) (ry : L2.RelV y u) (S : Sim X.K ρ h H) (rd : Rep X.K ρ H x d) (re : Rep X.K ρ H y e) {c : Bool} (ee : inD d e h = some c) {Q : Bool → Shared → Prop} (hq : ∀ s', L2.Inv X pins σ H s' → Q c s') :
    wpAny (model X.prog X.w) X.A (compareOp .In v u) (fun r s' => ∃ c, r = .bool c ∧ Q c s') X.xe s ∧ wpAny (model X.prog X.w) X.A (compareOp .NotIn v u) (fun r s' => ∃ c, r = .bool (!c) ∧ Q c s') X.xe s := by
  unfold inD at ee
  cases qd : dctO e h with
  | some kvs =>
    rw [qd] at ee
    obtain ⟨k, e1, e2⟩ := mpd ee
    obtain ⟨a, us, rfl, ha, l⟩ := dctO_of S re qd
    obtain rfl : u = Value.ref a := ry
    have ek := keyD_of rd e1
    subst ek
    have g : DGet H a (kV k) (valV us k) := DGet.k ha
    have ec : (valV us k).isSome = c := by
      rw [← e2]
      rcases l.val k with ⟨h1, h2⟩ | ⟨d, v, h1, h2, _⟩
      · rw [h1, h2]; rfl
      · rw [h1, h2]; rfl
    refine ⟨d_in (by omega) I g rx fun s' I' => ⟨c, by rw [ec], hq s' I'⟩, d_notIn (by omega) I g rx fun s' I' => ⟨c, by rw [ec], hq s' I'⟩⟩
  | none =>
    rw [qd] at ee
    dsimp only at ee
    have seqs : ((seqD e h).bind fun p => (rdD h d).bind fun a => (pyL p.1).bind fun bs => if a.depth ≤ 60 ∧ PyData.depthAll bs ≤ 60 then some (bs.any fun b => PyData.eqv b a) else none) = some c →
        wpAny (model X.prog X.w) X.A (compareOp .In v u) (fun r s' => ∃ c, r = .bool c ∧ Q c s') X.xe s ∧ wpAny (model X.prog X.w) X.A (compareOp .NotIn v u) (fun r s' => ∃ c, r = .bool (!c) ∧ Q c s') X.xe s := by
      intro ee
      obtain ⟨⟨xs, ws⟩, e1, e2⟩ := bnd ee
      obtain ⟨p, e3, e4⟩ := bnd e2
      obtain ⟨bs, e5, e6⟩ := bnd e4
      by_cases w : p.depth ≤ 60 ∧ PyData.depthAll bs ≤ 60
      · rw [if_pos w] at e6; cases e6
        obtain ⟨a, vs, rfl, hq', l⟩ := seqD_of S re e1
        obtain rfl : u = Value.ref a := ry
        obtain ⟨r1, c1⟩ := rdD_rds S rd e3
        obtain ⟨r2, c2⟩ := l.rds e5
        obtain ⟨as, ra⟩ := r1.reads I rx
        have key : ∀ its : List Value, Vals vs its → (∀ y, y ∈ its → PySem.SeqAt.EqAt X.A.in1 s y v (eqF s.heap p y)) ∧ its.any (eqF s.heap p) = bs.any fun b => PyData.eqv b p := by
          intro its rv
          obtain ⟨bs', rb⟩ := r2.reads I rv
          refine ⟨fun y hy => ?_, any_reads rb fun u d as _ hr hd => eqF_of hr (canLay_mem c2 hd)⟩
          obtain ⟨d, as', hr, hd⟩ := reads_mem rb y hy
          rw [eqF_of hr (canLay_mem c2 hd)]
          refine PySem.SeqAt.eqAt_reads d p _ s y v as' as hr ra (canLay_mem c2 hd) c1 ?_
          have h1 := depth_mem hd
          have h2 : min d.depth p.depth ≤ d.depth := Nat.min_le_left _ _
          show X.A.units + 1 + min d.depth p.depth < cLine
          have h3 := w.2
          omega
        rcases hq' with hq' | hq'
        · obtain ⟨its, rv, pl, _⟩ := I.list hq'
          obtain ⟨k1, k2⟩ := key its rv
          have k1' : ∀ y, y ∈ its.toArray → PySem.SeqAt.EqAt X.A.in1 s y v (eqF s.heap p y) := fun y hy => k1 y (by simpa using hy)
          have k2' : its.toArray.any (eqF s.heap p) = bs.any fun b => PyData.eqv b p := by rw [← k2]; simp
          exact ⟨PySem.SeqAt.in_listAt _ pl.isList k1' ⟨_, rfl, by rw [k2']; exact hq s I⟩, PySem.SeqAt.notIn_listAt _ pl.isList k1' ⟨_, rfl, by rw [k2']; exact hq s I⟩⟩
        · obtain ⟨its, rv, pl, _⟩ := I.tuple hq'
          obtain ⟨k1, k2⟩ := key its rv
          have k1' : ∀ y, y ∈ its.toArray → PySem.SeqAt.EqAt X.A.in1 s y v (eqF s.heap p y) := fun y hy => k1 y (by simpa using hy)
          have k2' : its.toArray.any (eqF s.heap p) = bs.any fun b => PyData.eqv b p := by rw [← k2]; simp
          exact ⟨PySem.SeqAt.in_tupleAt _ pl k1' ⟨_, rfl, by rw [k2']; exact hq s I⟩, PySem.SeqAt.notIn_tupleAt _ pl k1' ⟨_, rfl, by rw [k2']; exact hq s I⟩⟩
      · rw [if_neg w] at e6; cases e6
    by_cases hs : (∃ a, d = .str a) ∧ ∃ b, e = .str b
    · obtain ⟨⟨a, rfl⟩, b, rfl⟩ := hs
      cases ee
      cases rd; cases re
      obtain ⟨t, rfl⟩ := rx
      obtain ⟨t', rfl⟩ := ry
      exact ⟨in_str ⟨_, rfl, hq s I⟩, notIn_str ⟨_, rfl, hq s I⟩⟩
    · refine seqs ?_
      cases d <;> first | exact ee | skip
      cases e <;> first | exact ee | skip
      exact absurd ⟨⟨_, rfl⟩, _, rfl⟩ hs
theorem os_in (hu : X.A.units + 64 < cLine) : OpS X (compareOp .In) fIn := by
  intro pins s σ H x y v u Q I rx ry hh
  obtain ⟨ρ, h, d, e, z, h', S, rd, re, ee, k⟩ := hh
  obtain ⟨c, e1, e2⟩ := mpd ee
  cases e2
  refine thn (in_of hu I rx ry S rd re e1 (Q := fun c' s' => c' = c ∧ L2.Inv X pins σ H s') fun s' I' => ⟨rfl, I'⟩).1 fun r s' ⟨c', hr, hc, I'⟩ => ?_
  subst hr; subst hc
  exact ⟨.bl _, H, I', rfl, k _ _ (.here S (.bl _))⟩
theorem os_notIn (hu : X.A.units + 64 < cLine) : OpS X (compareOp .NotIn) fNotIn := by
  intro pins s σ H x y v u Q I rx ry hh
  obtain ⟨ρ, h, d, e, z, h', S, rd, re, ee, k⟩ := hh
  obtain ⟨c, e1, e2⟩ := mpd ee
  cases e2
  refine thn (in_of hu I rx ry S rd re e1 (Q := fun c' s' => c' = c ∧ L2.Inv X pins σ H s') fun s' I' => ⟨rfl, I'⟩).2 fun r s' ⟨c', hr, hc, I'⟩ => ?_
  subst hr; subst hc
  exact ⟨.bl _, H, I', rfl, k _ _ (.here S (.bl _))⟩
end
end Sm

namespace Sm
open PySem L2 PySem.Spec PyProof.Rows
theorem atI_rep {K : PySem.W.Frag} {ρ : Ad} {H : Hp} {vs : List V} {ds : List D} {i : Int} {d : D} (l : RepL K ρ H vs ds) (e : atI ds i = some d) : ∃ v, atI vs i = some v ∧ Rep K ρ H v d := by
  unfold atI at e
  obtain ⟨j, e1, e2⟩ := bnd e
  obtain ⟨v, e3, r⟩ := l.got e2
  exact ⟨v, by unfold atI; rw [l.length, e1]; exact e3, r⟩
section
variable {X : Cx}
/-! ### x[i] -/
theorem is_ix (hu : X.A.units + 64 < cLine) : IxR X (rS X.K fIx) := by
  intro value slice pins s σ H x y v u Q I rx ry hh hs
  obtain ⟨ρ, h, d, e, z, h', S, rd, re, ee, k⟩ := hh
  unfold fIx at ee
  cases qd : dctO d h with
  | some kvs =>
    rw [qd] at ee
    obtain ⟨ky, e1, e2⟩ := bnd ee
    obtain ⟨z', e3, e4⟩ := mpd e2
    cases e4
    obtain ⟨a, us, rfl, ha, l⟩ := dctO_of S rd qd
    obtain rfl : v = Value.ref a := rx
    have ek := keyD_of re e1
    subst ek
    rcases l.val ky with ⟨h1, h2⟩ | ⟨d', w, h1, h2, r⟩
    · rw [h1] at e3; cases e3
    · rw [h1] at e3; cases e3
      have g : DGet H a (kV ky) (some w) := by rw [← h2]; exact DGet.k ha
      exact tail_any (dict_typeIs I g) PySem.F.slot_dict_getitem.lookup (d_getItem (by omega) I g ry fun w' s3 I3 rw' => ⟨w, H, I3, rw', k _ _ (.here S r)⟩) hs
  | none =>
    rw [qd] at ee
    dsimp only at ee
    cases e <;> first | (cases d <;> (cases ee; done)) | skip
    rename_i i
    have seqs : ((seqD d h).bind fun p => (atI p.1 i).map fun z => (z, h)) = some (z, h') → wpAny (model X.prog X.w) X.A (subscriptTail value slice v u) (EP X pins σ Q) X.xe s := by
      intro ee
      obtain ⟨⟨xs, ws⟩, e1, e2⟩ := bnd ee
      obtain ⟨z', e3, e4⟩ := mpd e2
      cases e4
      obtain ⟨a, vs, rfl, hq', l⟩ := seqD_of S rd e1
      obtain ⟨w, e5, r⟩ := atI_rep l e3
      cases re
      rcases hq' with hq' | hq'
      · exact ix_list value slice pins s σ H _ _ v u Q I rx ry ⟨a, vs, i, w, rfl, rfl, hq', e5, k _ _ (.here S r)⟩ hs
      · exact ix_tup value slice pins s σ H _ _ v u Q I rx ry ⟨a, vs, i, w, rfl, rfl, hq', e5, k _ _ (.here S r)⟩ hs
    cases d with
    | str x0 =>
      dsimp only at ee
      by_cases c : x0.length ≤ sizeLine
      · rw [if_pos c] at ee
        obtain ⟨ch, e3, e4⟩ := mpd ee
        cases e4
        cases rd with | str hs0 =>
        cases re
        exact ix_str value slice pins s σ H _ _ v u Q I rx ry ⟨x0, i, ch, rfl, rfl, c, e3, k _ _ (.here S (.str (strOk_one hs0 e3)))⟩ hs
      · rw [if_neg c] at ee; cases ee
    | _ => exact seqs ee
theorem se_ix {a b : Expr} {pos : Pos} {ma mb : EM} (hu : X.A.units + 64 < cLine) (ha : SE X a ma) (hb : SE X b mb) (hs : PlainIx b := by exact fun _ _ => rfl) : SE X (.Subscript a b pos) (eOp fIx ma mb) := (pe_ix (is_ix hu) ha hb hs).imp fun _ _ _ => rd_op
/-! ### x[i:j] -/
abbrev PM := DS → MH → Option (Option Int × MH)
def pNo : PM := fun _ h => some (none, h)
def pAt (e : EM) : PM := fun δ h => (e δ h).bind fun p => match p.1 with
  | .int i => some (some i, p.2)
  | _ => none
def tMO (K : PySem.W.Frag) (m : PM) : TO := fun σ H Q => ∃ ρ δ h b h', RepS K ρ H σ δ ∧ Sim K ρ h H ∧ m δ h = some (b, h') ∧ ∀ ρ' H', Stp ρ H ρ' H' → Sim K ρ' h' H' → Q b H'
def SP' (X : Cx) (e : Option Expr) (m : PM) : Prop := PO X e (tMO X.K m)
theorem so_none : SP' X none pNo := fun pins s σ H Q I hh => by
  obtain ⟨ρ, δ, h, b, h', R, S, e, k⟩ := hh
  cases e
  exact po_none pins s σ H Q I (k ρ H (.refl _ _) S)
theorem so_some {e : Expr} {ma : EM} (he : SE X e ma) : SP' X (some e) (pAt ma) := fun pins s σ H Q I hh => by
  obtain ⟨ρ, δ, h, b, h', R, S, e, k⟩ := hh
  obtain ⟨⟨x, h1⟩, e1, e2⟩ := bnd e
  cases x <;> first | (cases e2; done) | skip
  cases e2
  refine po_some he pins s σ H Q I ⟨ρ, δ, h, _, _, R, S, e1, fun v H' ⟨ρ', T, S', r⟩ => ?_⟩
  cases r
  exact ⟨_, rfl, k ρ' H' T S'⟩
def cutD (xs : List D) (lo hi : Option Int) : List D := (xs.drop (HT.sIx xs.length 0 lo)).take (HT.sIx xs.length xs.length hi - HT.sIx xs.length 0 lo)
def fSl (d : D) (lo hi : Option Int) (h : MH) : Option (D × MH) := match d with
  | .str z => if z.length ≤ sizeLine then some (.str (Txt.slice z lo hi), h) else none
  | .tup xs => if HT.sIx xs.length 0 lo = 0 ∧ HT.sIx xs.length xs.length hi = xs.length then none else some (.tup (cutD xs lo hi), h)
  | d => (seqD d h).map fun p => (.lv (cutD p.1 lo hi), h)
def eSl (a : EM) (l u : PM) : EM := fun δ h => (a δ h).bind fun p => (l δ p.2).bind fun q => (u δ q.2).bind fun r => fSl p.1 q.1 r.1 r.2
def rSl (K : PySem.W.Frag) : V → Option Int → Option Int → Hp → VK → Prop := fun x lo hi H Q => ∃ ρ h d z h', Sim K ρ h H ∧ Rep K ρ H x d ∧ fSl d lo hi h = some (z, h') ∧ ∀ v H', Post K ρ H h' z v H' → Q v H'
theorem RepL.cutV {K : PySem.W.Frag} {ρ : Ad} {H : Hp} {vs : List V} {ds : List D} (l : RepL K ρ H vs ds) (lo hi : Option Int) : RepL K ρ H (L2.cutV vs lo hi) (cutD ds lo hi) := by
  unfold L2.cutV cutD
  rw [l.length]
  exact (l.drop _).take _
theorem ss_sl : SlR X (rSl X.K) := by
  intro pins s σ H x v vl vu lo hi sl Q I rx hs pl pu hh
  obtain ⟨ρ, h, d, z, h', S, rd, ee, k⟩ := hh
  have lists : isLs d = true → ((seqD d h).map fun p => (D.lv (cutD p.1 lo hi), h)) = some (z, h') → ∃ T id, typeLookup (.type T) "__getitem__" = pure (some (.builtin id)) ∧ s.TypeIs v T ∧ wpAny (model X.prog X.w) X.A (getItem v (.ref sl)) (EP X pins σ Q) X.xe s := by
    intro nt e2
    obtain ⟨⟨xs, ws⟩, e1, e2⟩ := mpd e2
    cases e2
    obtain ⟨a, rfl, ⟨vs, q, l⟩, _⟩ := seq_of S rd e1
    rw [nt] at q
    cases q with
    | l q => exact sl_list pins s σ H _ v vl vu lo hi sl Q I rx hs pl pu ⟨a, vs, rfl, q, fun p hp => k _ _ (.lv S (l.cutV lo hi) hp)⟩
  cases d with
  | str x0 =>
    unfold fSl at ee
    dsimp only at ee
    by_cases c : x0.length ≤ sizeLine
    · rw [if_pos c] at ee; cases ee
      cases rd with | str hs0 =>
      exact sl_str pins s σ H _ v vl vu lo hi sl Q I rx hs pl pu ⟨x0, rfl, c, k _ _ (.here S (.str (strOk_slice _ _ hs0)))⟩
    · rw [if_neg c] at ee; cases ee
  | tup xs =>
    unfold fSl at ee
    dsimp only at ee
    by_cases c : HT.sIx xs.length 0 lo = 0 ∧ HT.sIx xs.length xs.length hi = xs.length
    · rw [if_pos c] at ee; cases ee
    · rw [if_neg c] at ee; cases ee
      cases rd with | tup h0 l0 =>
      exact sl_tup pins s σ H _ v vl vu lo hi sl Q I rx hs pl pu ⟨_, _, rfl, h0.sq, by rw [l0.length]; exact c, fun p hp => k _ _ (.tup S (l0.cutV lo hi) hp)⟩
  | _ => exact lists rfl ee
theorem se_sl {a : Expr} {lo hi : Option Expr} {pos p2 : Pos} {ma : EM} {ml mu : PM} (ha : SE X a ma) (hl : SP' X lo ml) (hu : SP' X hi mu) : SE X (.Subscript a (.Slice lo hi none p2) pos) (eSl ma ml mu) :=
  (pe_slice ss_sl ha hl hu).imp fun σ H Q ⟨ρ, δ, h, d, h', R, S, e, k⟩ => by
    obtain ⟨⟨x, h1⟩, e1, e2⟩ := bnd e
    obtain ⟨⟨l, h2⟩, e3, e4⟩ := bnd e2
    obtain ⟨⟨u, h3⟩, e5, e6⟩ := bnd e4
    exact ⟨ρ, δ, h, x, h1, R, S, e1, fun v H1 ⟨ρ1, T1, S1, r1⟩ => ⟨ρ1, δ, h1, l, h2, R.mono T1, S1, e3, fun ρ2 H2 T2 S2 => ⟨ρ2, δ, h2, u, h3, (R.mono T1.toCh).mono T2.toCh, S2, e5, fun ρ3 H3 T3 S3 =>
      ⟨ρ3, h3, x, d, h', S3, r1.mono (T2.trans T3).toCh, e6, fun w H4 p => k w H4 (p.step (T1.trans (T2.trans T3)))⟩⟩⟩⟩
/-! ### calls of built-ins -/
theorem se_callB {x : Str} {id : String} {p pos : Pos} {e : Expr} {es : List Expr} {f : Fn} {m : AM} (hc : CallS X (.builtin id) f) (hg : Gl X x) (hm : X.mg x = none) (hv : bootBuiltins x = some (.builtin id)) (ha : SA X (e :: es) m) (hn : x ≠ "__name__" := by decide) (hdb : (x == ("__debug__" : Str)) = false := by decide)
    (he : starEach (e :: es) X.env = (false, eval e X.env) :: starEach es X.env := by rfl) (hpl : (backTo pos (starEach es X.env)).any (·.1) = false := by rfl) : SE X (.Call (.Name x p) (e :: es) [] pos) (eFn f m) :=
  (pe_callB hc hg hm hv ha hn hdb he hpl).imp fun σ H Q ⟨ρ, δ, h, d, h', R, S, e, k⟩ => by
    obtain ⟨⟨ds, h1⟩, e1, e2⟩ := bnd e
    exact ⟨ρ, δ, h, ds, h1, R, S, e1, fun vs ρ1 H1 T1 S1 r1 => ⟨ρ1, h1, ds, d, h', S1, r1, e2, fun v H' P => k v H' (P.step T1)⟩⟩
theorem se_callT {x : Str} {id : String} {p pos : Pos} {e : Expr} {es : List Expr} {f : Fn} {m : AM} (hc : CallS X (.type id) f) (hg : Gl X x) (hm : X.mg x = none) (hv : bootBuiltins x = some (.type id)) (ha : SA X (e :: es) m) (hn : x ≠ "__name__" := by decide) (hdb : (x == ("__debug__" : Str)) = false := by decide)
    (he : starEach (e :: es) X.env = (false, eval e X.env) :: starEach es X.env := by rfl) (hpl : (backTo pos (starEach es X.env)).any (·.1) = false := by rfl) : SE X (.Call (.Name x p) (e :: es) [] pos) (eFn f m) :=
  (pe_callTy hc hg hm hv ha hn hdb he hpl).imp fun σ H Q ⟨ρ, δ, h, d, h', R, S, e, k⟩ => by
    obtain ⟨⟨ds, h1⟩, e1, e2⟩ := bnd e
    exact ⟨ρ, δ, h, ds, h1, R, S, e1, fun vs ρ1 H1 T1 S1 r1 => ⟨ρ1, h1, ds, d, h', S1, r1, e2, fun v H' P => k v H' (P.step T1)⟩⟩
def fLen : Fn := fun ds h => match ds with
  | [.str z] => if z.length ≤ sizeLine then some (.int z.length, h) else none
  | [d] => match dctO d h with
    | some kvs => some (.int kvs.length, h)
    | none => (seqD d h).map fun p => (.int p.1.length, h)
  | _ => none
def fAbs : Fn := fun ds h => match ds with
  | [.int i] => some (.int (if i < 0 then -i else i), h)
  | _ => none
def tyD (d : D) (h : MH) : Option String := match d with
  | .non => some "NoneType"
  | .bl _ => some "bool"
  | .int _ => some "int"
  | .str _ => some "str"
  | .tup _ => some "tuple"
  | .lv _ => some "list"
  | .dv _ => some "dict"
  | .ob n => match h[n]? with
    | some (.lst _) => some "list"
    | some (.dct _) => some "dict"
    | none => none
  | _ => none
def subTy (t n : String) : Bool := t == n || (t == "bool" && n == "int")
def fIsi : Fn := fun ds h => match ds with
  | [d, .ty n] => if n ∈ ["int", "str", "bool", "tuple", "list", "dict"] then (tyD d h).map fun t => (.bl (subTy t n), h) else none
  | _ => none
def fTuple : Fn := fun ds h => match ds with
  | [d] => (seqD d h).map fun p => (.tup p.1, h)
  | _ => none
def fDict : Fn := fun ds h => match ds with
  | [d] => (dctO d h).map fun kvs => (.dv kvs, h)
  | _ => none
def blsD : List D → Option (List Bool)
  | [] => some []
  | .bl b :: r => (blsD r).map fun bs => b :: bs
  | _ => none
def fAll : Fn := fun ds h => match ds with
  | [d] => (lstO d h).bind fun xs => (blsD xs).map fun bs => (.bl (bs.all id), h)
  | _ => none
def fAny : Fn := fun ds h => match ds with
  | [d] => (lstO d h).bind fun xs => (blsD xs).map fun bs => (.bl (bs.any id), h)
  | _ => none
theorem rep1 {K : PySem.W.Frag} {ρ : Ad} {H : Hp} {vs : List V} {d : D} (l : RepL K ρ H vs [d]) : ∃ v, vs = [v] ∧ Rep K ρ H v d := by
  cases l with
  | cons r l => cases l; exact ⟨_, rfl, r⟩
theorem rep2 {K : PySem.W.Frag} {ρ : Ad} {H : Hp} {vs : List V} {d e : D} (l : RepL K ρ H vs [d, e]) : ∃ v u, vs = [v, u] ∧ Rep K ρ H v d ∧ Rep K ρ H u e := by
  cases l with
  | cons r l => cases l with
    | cons r' l => cases l; exact ⟨_, _, rfl, r, r'⟩
theorem cs_len : CallS X (.builtin "len") fLen := by
  intro pins s σ H xs us Q I r hh
  obtain ⟨ρ, h, ds, z, h', S, l, ee, k⟩ := hh
  match ds, l, ee with
  | [], _, ee => cases ee
  | _ :: _ :: _, _, ee => exact absurd ee (by unfold fLen; split <;> simp_all)
  | [d], l, ee =>
    obtain ⟨v, rfl, rd⟩ := rep1 l
    have oth : (match dctO d h with | some kvs => some (D.int kvs.length, h) | none => (seqD d h).map fun p => (D.int p.1.length, h)) = some (z, h') → wpAny (model X.prog X.w) X.A (call (.builtin "len") us) (EP X pins σ Q) X.xe s := by
      intro ee
      cases q : dctO d h with
      | some kvs =>
        rw [q] at ee; cases ee
        obtain ⟨a, ws, rfl, ha, lk⟩ := dctO_of S rd q
        refine call_lenD pins s σ H _ us Q I r ⟨a, ws, rfl, ha, k _ _ ?_⟩
        rw [lk.length]
        exact .here S (.int _)
      | none =>
        rw [q] at ee
        obtain ⟨⟨ys, w⟩, e1, e2⟩ := mpd ee
        cases e2
        obtain ⟨a, vs, rfl, hq, l2⟩ := seqD_of S rd e1
        refine call_len_seq pins s σ H _ us Q I r ⟨a, vs, rfl, hq, k _ _ ?_⟩
        rw [l2.length]
        exact .here S (.int _)
    cases d with
    | str x0 =>
      unfold fLen at ee
      dsimp only at ee
      by_cases c : x0.length ≤ sizeLine
      · rw [if_pos c] at ee; cases ee
        cases rd
        exact call_len_str pins s σ H _ us Q I r ⟨x0, rfl, c, k _ _ (.here S (.int _))⟩
      · rw [if_neg c] at ee; cases ee
    | _ => exact oth ee
theorem cs_abs : CallS X (.builtin "abs") fAbs := by
  intro pins s σ H xs us Q I r hh
  obtain ⟨ρ, h, ds, z, h', S, l, ee, k⟩ := hh
  match ds, l, ee with
  | [], _, ee => cases ee
  | d :: _ :: _, _, ee => cases d <;> cases ee
  | [d], l, ee =>
    obtain ⟨v, rfl, rd⟩ := rep1 l
    cases rd <;> first | (cases ee; done) | skip
    cases ee
    exact call_abs pins s σ H _ us Q I r ⟨_, rfl, k _ _ (.here S (.int _))⟩
theorem cs_tuple : CallS X (.type "tuple") fTuple := by
  intro pins s σ H xs us Q I r hh
  obtain ⟨ρ, h, ds, z, h', S, l, ee, k⟩ := hh
  match ds, l, ee with
  | [], _, ee => cases ee
  | _ :: _ :: _, _, ee => cases ee
  | [d], l, ee =>
    obtain ⟨v, rfl, rd⟩ := rep1 l
    obtain ⟨⟨ys, w⟩, e1, e2⟩ := mpd ee
    cases e2
    obtain ⟨a, rfl, ⟨vs, q, l2⟩, _⟩ := seq_of S rd e1
    refine call_tuple_of pins s σ H _ us Q I r ⟨a, vs, rfl, ?_⟩
    generalize hb : isLs d = b at q
    cases q with
    | l q => exact .inl ⟨q, fun p hp => k _ _ (.tup S l2 hp)⟩
    | t q =>
      refine .inr ⟨q, k _ _ ?_⟩
      cases rd <;> first | (cases hb; done) | skip
      cases e1
      exact .here S (.tup ‹_› ‹_›)
theorem cs_dict : CallS X (.type "dict") fDict := by
  intro pins s σ H xs us Q I r hh
  obtain ⟨ρ, h, ds, z, h', S, l, ee, k⟩ := hh
  match ds, l, ee with
  | [], _, ee => cases ee
  | _ :: _ :: _, _, ee => cases ee
  | [d], l, ee =>
    obtain ⟨v, rfl, rd⟩ := rep1 l
    obtain ⟨ys, e1, e2⟩ := mpd ee
    cases e2
    obtain ⟨a, ws, rfl, ha, lk⟩ := dctO_of S rd e1
    obtain ⟨u, rfl, ru⟩ := Vals.one r
    obtain rfl : u = Value.ref a := ru
    exact d_copyOf I (.inl ha) fun p s' hp I' => ⟨.ref p, _, I', rfl, k _ _ (.dv S lk hp)⟩
theorem bls_of {K : PySem.W.Frag} {ρ : Ad} {H : Hp} : ∀ {vs : List V} {xs : List D} {bs : List Bool}, RepL K ρ H vs xs → blsD xs = some bs → vs = bs.map V.bl
  | _, _, _, .nil, e => by cases e; rfl
  | _, _, _, .cons r l, e => by
    cases r <;> first | (cases e; done) | skip
    obtain ⟨bs', e1, e2⟩ := mpd e
    cases e2
    rw [bls_of l e1]; rfl
theorem cs_all (hc : X.calm = true) : CallS X (.builtin "all") fAll := by
  intro pins s σ H xs us Q I r hh
  obtain ⟨ρ, h, ds, z, h', S, l, ee, k⟩ := hh
  match ds, l, ee with
  | [], _, ee => cases ee
  | _ :: _ :: _, _, ee => cases ee
  | [d], l, ee =>
    obtain ⟨v, rfl, rd⟩ := rep1 l
    obtain ⟨ys, e1, e2⟩ := bnd ee
    obtain ⟨bs, e3, e4⟩ := mpd e2
    cases e4
    obtain ⟨a, vs, rfl, ha, l2⟩ := lstO_of S rd e1
    rw [bls_of l2 e3] at ha
    exact call_all hc pins s σ H _ us Q I r ⟨a, bs, rfl, SqL.of ha, k _ _ (.here S (.bl _))⟩
theorem cs_any (hc : X.calm = true) : CallS X (.builtin "any") fAny := by
  intro pins s σ H xs us Q I r hh
  obtain ⟨ρ, h, ds, z, h', S, l, ee, k⟩ := hh
  match ds, l, ee with
  | [], _, ee => cases ee
  | _ :: _ :: _, _, ee => cases ee
  | [d], l, ee =>
    obtain ⟨v, rfl, rd⟩ := rep1 l
    obtain ⟨ys, e1, e2⟩ := bnd ee
    obtain ⟨bs, e3, e4⟩ := mpd e2
    cases e4
    obtain ⟨a, vs, rfl, ha, l2⟩ := lstO_of S rd e1
    rw [bls_of l2 e3] at ha
    exact call_any hc pins s σ H _ us Q I r ⟨a, bs, rfl, SqL.of ha, k _ _ (.here S (.bl _))⟩
end
end Sm

namespace Sm
open PySem L2 PySem.Spec PyProof.Rows
section
variable {X : Cx}
theorem kit_sub {K : PySem.W.Frag} {t n : String} (ht : t ∈ ["NoneType", "bool", "int", "str", "tuple", "list", "dict"]) (hn : n ∈ ["int", "str", "bool", "tuple", "list", "dict"]) : PySem.W.kitOne K (.type t) (.type n) = some (subTy t n) := by
  simp only [List.mem_cons, List.mem_nil_iff, or_false] at ht hn
  rcases ht with rfl | rfl | rfl | rfl | rfl | rfl | rfl <;> rcases hn with rfl | rfl | rfl | rfl | rfl | rfl <;> rfl
theorem cs_isi : CallS X (.builtin "isinstance") fIsi := by
  intro pins s σ H xs us Q I r hh
  obtain ⟨ρ, h, ds, z, h', S, l, ee, k⟩ := hh
  match ds, l, ee with
  | [], _, ee => cases ee
  | [_], _, ee => cases ee
  | _ :: d :: _ :: _, _, ee => cases d <;> cases ee
  | [d, c], l, ee =>
    cases c <;> first | (cases ee; done) | skip
    rename_i n
    unfold fIsi at ee
    dsimp only at ee
    by_cases hn : n ∈ ["int", "str", "bool", "tuple", "list", "dict"]
    · rw [if_pos hn] at ee
      obtain ⟨t, e1, e2⟩ := mpd ee
      cases e2
      obtain ⟨v, u, rfl, rd, ru⟩ := rep2 l
      cases ru
      have fin := k (.bl (subTy t n)) H (.here S (.bl _))
      have go : ∀ ty, TyOf X.K H v (.type ty) → t = ty → ty ∈ ["NoneType", "bool", "int", "str", "tuple", "list", "dict"] → wpAny (model X.prog X.w) X.A (call (.builtin "isinstance") us) (EP X pins σ Q) X.xe s := fun ty hty e hm => by
        subst e
        exact call_isi pins s σ H _ us Q I r ⟨v, n, _, _, rfl, hty, kit_sub hm hn, fin⟩
      cases rd with
      | non => cases e1; exact go _ .non rfl (by decide)
      | bl b => cases e1; exact go _ (.bl b) rfl (by decide)
      | int i => cases e1; exact go _ (.int i) rfl (by decide)
      | str h0 => cases e1; exact go _ (.str _) rfl (by decide)
      | ty _ => cases e1
      | ro _ _ => cases e1
      | lv h0 _ _ => cases e1; exact go _ (.lst h0) rfl (by decide)
      | dv h0 _ _ => cases e1; exact go _ (.dK h0) rfl (by decide)
      | @ob a m hm =>
        unfold tyD at e1
        dsimp only at e1
        cases q : h[m]? with
        | none => rw [q] at e1; cases e1
        | some o =>
          rw [q] at e1
          have x := S.at_ m a o hm q
          cases o with
          | lst _ => cases e1; obtain ⟨vs, e3, _⟩ := x; exact go _ (.lst e3) rfl (by decide)
          | dct _ => cases e1; obtain ⟨vs, e3, _⟩ := x; exact go _ (.dK e3) rfl (by decide)
      | @tup a vs ds h0 l0 =>
        cases e1
        obtain ⟨u1, u2, rfl, r1, r2⟩ := Vals.two r
        obtain rfl : u1 = Value.ref a := r1
        obtain rfl : u2 = Value.type n := r2
        obtain ⟨its, _, ⟨o, h1, h2, _⟩, _⟩ := I.tuple h0.sq
        exact PySem.W.kia_one PySem.W.kitx_tuple I.kIn ⟨o, h1, h2⟩ (kit_sub (t := "tuple") (by decide) hn) (fun z => nomatch z) fun tk => ⟨.bl _, H, I.tok tk, rfl, fin⟩
    · rw [if_neg hn] at ee; cases ee
/-! ### list(x): a new list -/
def aList (m : AM) : AM := fun δ h => (m δ h).bind fun p => match p.1 with
  | [d] => (seqD d p.2).map fun q => (q.1, p.2)
  | _ => none
theorem sf_list {x : Str} {p pos : Pos} {e : Expr} {m : AM} (hg : Gl X x) (hm : X.mg x = none) (hv : bootBuiltins x = some (.type "list")) (ha : SA X [e] m) (hl : ALen m 1) (hn : x ≠ "__name__" := by decide) (hdb : (x == ("__debug__" : Str)) = false := by decide)
    (he : starEach [e] X.env = (false, eval e X.env) :: starEach [] X.env := by rfl) (hpl : (backTo pos (starEach [] X.env)).any (·.1) = false := by rfl) : SFL X (.Call (.Name x p) [e] [] pos) (aList m) :=
  (pe_callTy call_list_of hg hm hv ha hn hdb he hpl).imp fun σ H Q ⟨ρ, δ, h, d, h', R, S, e, k⟩ => by
    obtain ⟨⟨ds, h1⟩, e1, e2⟩ := bnd e
    refine ⟨ρ, δ, h, ds, h1, R, S, e1, fun vs ρ1 H1 T1 S1 r1 => ?_⟩
    match ds, hl _ _ _ _ e1, e2, r1 with
    | [d], _, e2, r1 =>
      obtain ⟨⟨ys, w⟩, e3, e4⟩ := mpd e2
      cases e4
      obtain ⟨v, rfl, rd⟩ := rep1 r1
      obtain ⟨a, ws, rfl, hq, l2⟩ := seqD_of S1 rd e3
      exact ⟨a, ws, rfl, hq, fun l hl => k ρ1 H1 l ws T1 S1 hl l2⟩
/-! ### o[i] = v -/
def fSet (o i v : D) (h : MH) : Option MH := match o with
  | .ob n => match h[n]? with
    | some (.lst xs) => match i with
      | .int j => (ixN xs.length j).map fun p => h.set n (.lst (xs.set p v))
      | _ => none
    | some (.dct kvs) => (keyD i).bind fun k => if kvs.length < sizeLine then some (h.set n (.dct (putD kvs k v))) else none
    | none => none
  | _ => none
def gSub (o i : EM) : GM := fun v δ h => (o δ h).bind fun p => (i δ p.2).bind fun q => (fSet p.1 q.1 v q.2).map fun h' => (δ, h')
def rSet (K : PySem.W.Frag) : V → V → V → Hp → (Hp → Prop) → Prop := fun o i v H Q => ∃ ρ h a b c h', Sim K ρ h H ∧ Rep K ρ H o a ∧ Rep K ρ H i b ∧ Rep K ρ H v c ∧ fSet a b c h = some h' ∧ ∀ ρ' H', Stp ρ H ρ' H' → Sim K ρ' h' H' → Q H'
theorem ps_setS (hu : X.A.units + 64 < cLine) : PSet X (rSet X.K) := by
  intro pins s σ H o i v ov iv u Q I ro ri rv hh
  obtain ⟨ρ, h, a, b, c, h', S, ra, rb, rc, ee, k⟩ := hh
  cases ra <;> first | (cases ee; done) | skip
  rename_i a n hn
  unfold fSet at ee
  dsimp only at ee
  cases q : h[n]? with
  | none => rw [q] at ee; cases ee
  | some w =>
    rw [q] at ee
    have x := S.at_ n a w hn q
    have ma := List.mem_of_getElem? hn
    cases w with
    | lst xs =>
      dsimp only at ee
      cases rb <;> first | (cases ee; done) | skip
      rename_i j
      obtain ⟨p, e1, e2⟩ := mpd ee
      cases e2
      obtain ⟨vs, e3, l⟩ := x
      have T : Stp ρ H ρ (upd H a (.lst (vs.set p v))) := Stp.wrote S ma
      exact set_list pins s σ H _ _ v ov iv u Q I ro ri rv ⟨a, vs, j, p, rfl, rfl, e3, by rw [l.length]; exact e1, k ρ _ T (S.wrote hn ⟨_, upd_same, (l.set rc p).mono T.toCh⟩)⟩
    | dct kvs =>
      dsimp only at ee
      obtain ⟨ky, e1, e2⟩ := bnd ee
      by_cases z : kvs.length < sizeLine
      · rw [if_pos z] at e2; cases e2
        obtain ⟨us, e3, l⟩ := x
        have ek := keyD_of rb e1
        subst ek
        obtain rfl : ov = Value.ref a := ro
        have T : Stp ρ H ρ (upd H a (.dK (putK us ky v))) := Stp.wrote S ma
        exact d_setItem (by omega) I (DPut.k e3 (by rw [l.length]; exact z)) ri rv fun s' I' => ⟨_, I', k ρ _ T (S.wrote hn ⟨_, upd_same, (l.put rc).mono T.toCh⟩)⟩
      · rw [if_neg z] at e2; cases e2
theorem sg_sub {o i : Expr} {pos : Pos} {mo mi : EM} (hu : X.A.units + 64 < cLine) (ho : SE X o mo) (hi : SE X i mi)
    (ha : ∀ v, assign (.Subscript o i pos) X.env v = (do
      let ov ← holding [v] (eval o X.env)
      let iv ← holding [v, ov] (eval i X.env)
      standAt pos
      holding [v, ov, iv] (setItem ov iv v)
      release [v, ov, iv] []) := by intro _; rfl) : SG X (.Subscript o i pos) (gSub mo mi) :=
  (pg_sub ho hi (ps_setS hu) ha).imp fun v σ H Q ⟨ρ, δ, h, d, δ', h', R, S, r, e, k⟩ => by
    obtain ⟨⟨x, h1⟩, e1, e2⟩ := bnd e
    obtain ⟨⟨y, h2⟩, e3, e4⟩ := bnd e2
    obtain ⟨h3, e5, e6⟩ := mpd e4
    cases e6
    exact ⟨ρ, δ, h, x, h1, R, S, e1, fun ov H1 ⟨ρ1, T1, S1, r1⟩ => ⟨ρ1, δ, h1, y, h2, R.mono T1, S1, e3, fun iv H2 ⟨ρ2, T2, S2, r2⟩ =>
      ⟨ρ2, h2, x, y, d, _, S2, r1.mono T2, r2, r.mono (T1.trans T2).toCh, e5, fun ρ3 H3 T3 S3 => k ρ3 H3 σ (T1.trans (T2.trans T3)) S3 (R.mono (T1.trans (T2.trans T3)).toCh)⟩⟩⟩
/-! ### methods -/
abbrev MFn := D → List D → MH → Option (D × MH)
def rM (K : PySem.W.Frag) (f : MFn) : V → List V → Hp → VK → Prop := fun x vs H Q => ∃ ρ h d ds z h', Sim K ρ h H ∧ Rep K ρ H x d ∧ RepL K ρ H vs ds ∧ f d ds h = some (z, h') ∧ ∀ v H', Post K ρ H h' z v H' → Q v H'
def eM (isT : D → MH → Bool) (f : MFn) (o : EM) (m : AM) : EM := fun δ h => (o δ h).bind fun p => if isT p.1 p.2 then (m δ p.2).bind fun q => f p.1 q.1 q.2 else none
def isLst (d : D) (h : MH) : Bool := (lstO d h).isSome
def isDct (d : D) (h : MH) : Bool := (dctO d h).isSome
def mAppend : MFn := fun d ds h => match d, ds with
  | .ob n, [y] => match h[n]? with
    | some (.lst xs) => if xs.length < sizeLine then some (.non, h.set n (.lst (xs ++ [y]))) else none
    | _ => none
  | _, _ => none
def mExtend : MFn := fun d ds h => match d, ds with
  | .ob n, [y] => match h[n]? with
    | some (.lst xs) => (lstO y h).bind fun zs => if xs.length + zs.length ≤ sizeLine then some (.non, h.set n (.lst (xs ++ zs))) else none
    | _ => none
  | _, _ => none
def mPop : MFn := fun d ds h => match d, ds with
  | .ob n, [] => match h[n]? with
    | some (.lst xs) => (xs[xs.length - 1]?).map fun y => (y, h.set n (.lst xs.dropLast))
    | _ => none
  | _, _ => none
theorem ty_lst {K : PySem.W.Frag} {ρ : Ad} {H : Hp} {h : MH} {v : V} {d : D} (S : Sim K ρ h H) (r : Rep K ρ H v d) (e : isLst d h = true) : tyV K "list" v H := by
  obtain ⟨xs, e1⟩ := Option.isSome_iff_exists.mp e
  obtain ⟨a, vs, rfl, ha, _⟩ := lstO_of S r e1
  exact .inl ⟨rfl, vs, SqL.of ha⟩
theorem ty_dct {K : PySem.W.Frag} {ρ : Ad} {H : Hp} {h : MH} {v : V} {d : D} (S : Sim K ρ h H) (r : Rep K ρ H v d) (e : isDct d h = true) : tyV K "dict" v H := by
  obtain ⟨xs, e1⟩ := Option.isSome_iff_exists.mp e
  obtain ⟨a, vs, rfl, ha, _⟩ := dctO_of S r e1
  exact .inr (.inr (.inl ⟨rfl, .inl ⟨vs, ha⟩⟩))
theorem se_m {T id : String} {name : Str} {o e : Expr} {es : List Expr} {apos cpos : Pos} {f : MFn} {mo : EM} {m : AM} {isT : D → MH → Bool} (hT : ∀ {K : PySem.W.Frag} {ρ : Ad} {H : Hp} {h : MH} {v : V} {d : D}, Sim K ρ h H → Rep K ρ H v d → isT d h = true → tyV K T v H)
    (pa : PlainAttrs T) (slot : Slot T name id) (hty : typeOf (.builtin id) = pure (.type "method_descriptor")) (hm : MtR X id (rM X.K f)) (ho : SE X o mo) (ha : SA X (e :: es) m)
    (hbase : attributeBase o name X.env (eval o X.env) = eval o X.env := by rfl)
    (hfew : ((backTo cpos (starEach (e :: es) X.env)).all (fun x => !x.1) && (backToKw cpos (keywordEach [] X.env)).all (fun x => x.1.isSome)
      && decide ((e :: es).length + ([] : List Keyword).length + (if ([] : List Keyword).isEmpty then 0 else 1) < 30)) = true := by rfl)
    (hline : (apos.endLine == cpos.line) = true := by rfl) (hs : starEach (e :: es) X.env = (false, eval e X.env) :: starEach es X.env := by rfl) (hplain : (backTo cpos (starEach es X.env)).any (·.1) = false := by rfl) :
    SE X (.Call (.Attribute o name apos) (e :: es) [] cpos) (eM isT f mo m) := (pe_bm pa slot hty hm ho ha hbase hfew hline hs hplain).imp fun σ H Q ⟨ρ, δ, h, d, h', R, S, e, k⟩ => by
  obtain ⟨⟨x, h1⟩, e1, e2⟩ := bnd e
  dsimp only at e2
  by_cases c : isT x h1 = true
  · rw [if_pos c] at e2
    obtain ⟨⟨ds, h2⟩, e3, e4⟩ := bnd e2
    exact ⟨ρ, δ, h, x, h1, R, S, e1, fun v H1 ⟨ρ1, T1, S1, r1⟩ => ⟨hT S1 r1 c, ρ1, δ, h1, ds, h2, R.mono T1, S1, e3, fun vs ρ2 H2 T2 S2 r2 => ⟨ρ2, h2, x, ds, d, h', S2, r1.mono T2, r2, e4, fun w H3 p => k w H3 (p.step (T1.trans T2))⟩⟩⟩
  · rw [if_neg c] at e2; cases e2
theorem se_m0 {T id : String} {name : Str} {o : Expr} {apos cpos : Pos} {f : MFn} {mo : EM} {isT : D → MH → Bool} (hT : ∀ {K : PySem.W.Frag} {ρ : Ad} {H : Hp} {h : MH} {v : V} {d : D}, Sim K ρ h H → Rep K ρ H v d → isT d h = true → tyV K T v H)
    (pa : PlainAttrs T) (slot : Slot T name id) (hty : typeOf (.builtin id) = pure (.type "method_descriptor")) (hm : MtR X id (rM X.K f)) (ho : SE X o mo)
    (hbase : attributeBase o name X.env (eval o X.env) = eval o X.env := by rfl) (hline : (apos.endLine == cpos.line) = true := by rfl) :
    SE X (.Call (.Attribute o name apos) [] [] cpos) (eM isT f mo aNil) := (pe_bm0 pa slot hty hm ho hbase hline).imp fun σ H Q ⟨ρ, δ, h, d, h', R, S, e, k⟩ => by
  obtain ⟨⟨x, h1⟩, e1, e2⟩ := bnd e
  dsimp only at e2
  by_cases c : isT x h1 = true
  · rw [if_pos c] at e2
    exact ⟨ρ, δ, h, x, h1, R, S, e1, fun v H1 ⟨ρ1, T1, S1, r1⟩ => ⟨hT S1 r1 c, ρ1, h1, x, [], d, h', S1, r1, .nil, e2, fun w H3 p => k w H3 (p.step T1)⟩⟩
  · rw [if_neg c] at e2; cases e2
theorem ob_lst {K : PySem.W.Frag} {ρ : Ad} {H : Hp} {h : MH} {n : Nat} {xs : List D} {v : V} (S : Sim K ρ h H) (r : Rep K ρ H v (.ob n)) (q : h[n]? = some (.lst xs)) : ∃ a vs, v = .ref a ∧ ρ.ob[n]? = some a ∧ H a = some (.lst vs) ∧ RepL K ρ H vs xs := by
  cases r with
  | ob hn => obtain ⟨vs, e, l⟩ := S.at_ n _ _ hn q; exact ⟨_, vs, rfl, hn, e, l⟩
theorem mS_append : MtR X "list.append" (rM X.K mAppend) := by
  intro pins s σ H x xs v us Q I rx rs hh
  obtain ⟨ρ, h, d, ds, z, h', S, rd, l, ee, k⟩ := hh
  cases d <;> first | (cases ee; done) | skip
  rename_i n
  match ds, l, ee with
  | [], _, ee => cases ee
  | _ :: _ :: _, _, ee => cases ee
  | [y], l, ee =>
    unfold mAppend at ee
    dsimp only at ee
    cases q : h[n]? with
    | none => rw [q] at ee; cases ee
    | some w =>
      rw [q] at ee
      cases w with
      | dct _ => cases ee
      | lst ys =>
        dsimp only at ee
        by_cases c : ys.length < sizeLine
        · rw [if_pos c] at ee; cases ee
          obtain ⟨a, vs, rfl, hn, e1, l1⟩ := ob_lst S rd q
          obtain ⟨u, rfl, ru⟩ := rep1 l
          have T : Stp ρ H ρ (upd H a (.lst (vs ++ [u]))) := Stp.wrote S (List.mem_of_getElem? hn)
          exact mt_append pins s σ H _ _ v us Q I rx rs ⟨a, vs, u, rfl, rfl, e1, by rw [l1.length]; exact c, k _ _ ⟨ρ, T, S.wrote hn ⟨_, upd_same, (l1.snoc ru).mono T.toCh⟩, .non⟩⟩
        · rw [if_neg c] at ee; cases ee
theorem mS_extend : MtR X "list.extend" (rM X.K mExtend) := by
  intro pins s σ H x xs v us Q I rx rs hh
  obtain ⟨ρ, h, d, ds, z, h', S, rd, l, ee, k⟩ := hh
  cases d <;> first | (cases ee; done) | skip
  rename_i n
  match ds, l, ee with
  | [], _, ee => cases ee
  | _ :: _ :: _, _, ee => cases ee
  | [y], l, ee =>
    unfold mExtend at ee
    dsimp only at ee
    cases q : h[n]? with
    | none => rw [q] at ee; cases ee
    | some w =>
      rw [q] at ee
      cases w with
      | dct _ => cases ee
      | lst ys =>
        dsimp only at ee
        obtain ⟨zs, e2, e3⟩ := bnd ee
        by_cases c : ys.length + zs.length ≤ sizeLine
        · rw [if_pos c] at e3; cases e3
          obtain ⟨a, vs, rfl, hn, e1, l1⟩ := ob_lst S rd q
          obtain ⟨u, rfl, ru⟩ := rep1 l
          obtain ⟨b, ws, rfl, eb, l2⟩ := lstO_of S ru e2
          have T : Stp ρ H ρ (upd H a (.lst (vs ++ ws))) := Stp.wrote S (List.mem_of_getElem? hn)
          exact mt_extend pins s σ H _ _ v us Q I rx rs ⟨a, b, vs, ws, rfl, rfl, e1, eb, by rw [l1.length, l2.length]; exact c, k _ _ ⟨ρ, T, S.wrote hn ⟨_, upd_same, (l1.append l2).mono T.toCh⟩, .non⟩⟩
        · rw [if_neg c] at e3; cases e3
theorem mS_pop : MtR X "list.pop" (rM X.K mPop) := by
  intro pins s σ H x xs v us Q I rx rs hh
  obtain ⟨ρ, h, d, ds, z, h', S, rd, l, ee, k⟩ := hh
  cases d <;> first | (cases ee; done) | skip
  rename_i n
  match ds, l, ee with
  | _ :: _, _, ee => cases ee
  | [], l, ee =>
    unfold mPop at ee
    dsimp only at ee
    cases q : h[n]? with
    | none => rw [q] at ee; cases ee
    | some w =>
      rw [q] at ee
      cases w with
      | dct _ => cases ee
      | lst ys =>
        dsimp only at ee
        obtain ⟨y, e2, e3⟩ := mpd ee
        cases e3
        obtain ⟨a, vs, rfl, hn, e1, l1⟩ := ob_lst S rd q
        cases l
        obtain ⟨u, e4, r4⟩ := l1.got e2
        have T : Stp ρ H ρ (upd H a (.lst vs.dropLast)) := Stp.wrote S (List.mem_of_getElem? hn)
        exact mt_pop pins s σ H _ _ v us Q I rx rs ⟨a, vs, u, rfl, rfl, e1, by rw [l1.length]; exact e4, k _ _ ⟨ρ, T, S.wrote hn ⟨_, upd_same, l1.dropLast.mono T.toCh⟩, r4.mono T.toCh⟩⟩
end
end Sm

namespace Sb
open PySem L2 PySem.Spec PyProof.Rows
open Builtin.SmallTypes (nextOf ownedTupleIsFree ownedTupleHandOut)
/-! ### an iterator of a list (true) or of a tuple (false), as enumerate and zip ask it -/
def kn : Bool → String
  | true => "list_iterator"
  | false => "tuple_iterator"
def At (b : Bool) (h : Heap) (j l : Addr) (i : Nat) : Prop := ∃ o, h.get? j = some o ∧ o.cls = .type (kn b) ∧ o.data = .fields #[.ref l, .int i 0]
def Of (b : Bool) (h : Heap) (l : Addr) (items : Array Value) : Prop := match b with
  | true => h.IsList l items
  | false => h.IsTuple l items
variable {P : Program} {w : World} {A : Around} {E : Value → Shared → Prop} {s : Shared} {b c : Bool}
theorem At.up {h h' : Heap} {j l : Addr} {i : Nat} (x : At b h j l i) (k : ∀ o, h.get? j = some o → h'.get? j = some o) : At b h' j l i := let ⟨o, e, r⟩ := x; ⟨o, k o e, r⟩
theorem At.lt {h : Heap} {j l : Addr} {i : Nat} (x : At b h j l i) : j < h.objs.size := let ⟨_, e, _⟩ := x; Heap.lt_size e
theorem Of.data {h : Heap} {l : Addr} {items : Array Value} (x : Of b h l items) : ∃ o n, h.get? l = some o ∧ o.data = .seq items n := by
  cases b with
  | true => obtain ⟨o, e, _, n, d⟩ := (show h.IsList l items from x); exact ⟨o, n, e, d⟩
  | false => obtain ⟨o, e, _, n, d⟩ := (show h.IsTuple l items from x); exact ⟨o, n, e, d⟩
theorem Of.up {h h' : Heap} {l : Addr} {items : Array Value} (x : Of b h l items) (k : ∀ o, h.get? l = some o → h'.get? l = some o) : Of b h' l items := by
  cases b with
  | true => obtain ⟨o, e, r⟩ := (show h.IsList l items from x); exact ⟨o, k o e, r⟩
  | false => obtain ⟨o, e, r⟩ := (show h.IsTuple l items from x); exact ⟨o, k o e, r⟩
/-- one more item -/
theorem next1 {j l : Addr} {i : Nat} {items : Array Value} {x : Value} {Q : Value → Shared → Prop} (hj : At b s.heap j l i) (hl : Of b s.heap l items) (hx : items[i]? = some x)
    (k : ∀ h', At b h' j l (i + 1) → Heap.SameBut j s.heap h' → Q x { s with heap := h' }) : wpAny (model P w) A (nextOf (.ref j)) Q E s := by
  cases b with
  | true => exact wpAny_nextOf_list_item (show s.heap.IsListIter j l i from hj) (show s.heap.IsList l items from hl) hx k
  | false =>
    have hj' : s.heap.IsTupleIter j l i := hj
    obtain ⟨o, eo, ec, ed⟩ := hj'
    obtain ⟨ol, el, _, nl, edl⟩ := (show s.heap.IsTuple l items from hl)
    unfold nextOf
    refine wpAny_bind (wpAny_callSpecial?_slot (name := Str.ofString "__next__") (show s.TypeIs (.ref j) "tuple_iterator" from ⟨o, eo, ec⟩) F.slot_tuple_iterator_next
      (wpAny_call_entry F.slot_tuple_iterator_next (show s.TypeIs (.ref j) "tuple_iterator" from ⟨o, eo, ec⟩) F.entry_tuple_iterator_next ?_ (F.args_tuple_iterator_next_1 _)))
    show wpAny _ _ (field (.ref j) 0 >>= _) _ _ s
    refine wpAny_bind (wpAny_field eo ed (x := .ref l) rfl ?_)
    show wpAny _ _ (if (Value.ref l == Value.none) = true then _ else _) _ _ s
    rw [if_neg (show ¬ ((Value.ref l == Value.none) = true) by exact Bool.false_ne_true)]
    show wpAny _ _ (field (.ref j) 1 >>= _) _ _ s
    refine wpAny_bind (wpAny_field eo ed (x := .int i 0) rfl ?_)
    show wpAny _ _ (seqItems? (.ref l) >>= _) _ _ s
    refine wpAny_bind (wpAny_seqItems el edl ?_)
    simp only [Int.toNat_natCast, hx]
    refine wpAny_bind (wpAny_setField eo ed (by simp) (wpAny_pure ⟨x, rfl, wpAny_pure (k _ ?_ (Heap.SameBut.update ..))⟩))
    exact ⟨_, Heap.get?_update_self _ eo (Obj.isFreed_of_fields (Obj.data_mapFields ed _)), (Obj.cls_mapFields ..).trans ec, by rw [Obj.data_mapFields ed]; simp [rawInt]⟩
/-- no more items -/
theorem next0 {j l : Addr} {i : Nat} {items : Array Value} {Q : Value → Shared → Prop} (hh : A.handled = none) (hj : At b s.heap j l i) (hl : Of b s.heap l items) (hx : items[i]? = none)
    (k : ∀ h' e, Heap.ExtBut j s.heap h' → (∃ o, h'.get? e = some o ∧ o.cls = .type "StopIteration") → E (.ref e) { s with heap := h' }) : wpAny (model P w) A (nextOf (.ref j)) Q E s := by
  cases b with
  | true => exact wpAny_nextOf_list_end hh (show s.heap.IsListIter j l i from hj) (show s.heap.IsList l items from hl) hx k
  | false =>
    have hj' : s.heap.IsTupleIter j l i := hj
    obtain ⟨o, eo, ec, ed⟩ := hj'
    obtain ⟨ol, el, _, nl, edl⟩ := (show s.heap.IsTuple l items from hl)
    unfold nextOf
    refine wpAny_bind (wpAny_callSpecial?_slot (name := Str.ofString "__next__") (show s.TypeIs (.ref j) "tuple_iterator" from ⟨o, eo, ec⟩) F.slot_tuple_iterator_next
      (wpAny_call_entry F.slot_tuple_iterator_next (show s.TypeIs (.ref j) "tuple_iterator" from ⟨o, eo, ec⟩) F.entry_tuple_iterator_next ?_ (F.args_tuple_iterator_next_1 _)))
    show wpAny _ _ (field (.ref j) 0 >>= _) _ _ s
    refine wpAny_bind (wpAny_field eo ed (x := .ref l) rfl ?_)
    show wpAny _ _ (if (Value.ref l == Value.none) = true then _ else _) _ _ s
    rw [if_neg (show ¬ ((Value.ref l == Value.none) = true) by exact Bool.false_ne_true)]
    show wpAny _ _ (field (.ref j) 1 >>= _) _ _ s
    refine wpAny_bind (wpAny_field eo ed (x := .int i 0) rfl ?_)
    show wpAny _ _ (seqItems? (.ref l) >>= _) _ _ s
    refine wpAny_bind (wpAny_seqItems el edl ?_)
    simp only [Int.toNat_natCast, hx]
    refine wpAny_bind (wpAny_rule (wpAny_bind (wpAny_setField eo ed (by simp) ?_)))
    show wpAny _ _ (newExc (.type "StopIteration") [] >>= _) _ _ _
    refine wpAny_bind ?_
    simp only [newExc, newTuple]; refine wpAny_bind (wpAny_newObj_type ?_ (by size_fits))
    refine wpAny_bind (m := firstArgMember _ _) (wpAny_of_eq (a := Value.none) (by first | (simp only [firstArgMember]; rfl) | rfl) ?_)
    refine wpAny_newObj_type ?_ (by size_fits)
    simp only [raiseNew]
    refine wpAny_bind (wpAny_handled ?_)
    first | rw [hh] | rw [show A.in1.handled = none from hh]
    refine wpAny_bind (wpAny_pure (wpAny_throw (k _ _ (((Heap.SameBut.update ..).extBut.push _).push _) ⟨_, Heap.get?_push_size _ rfl, rfl⟩)))
end Sb

namespace Sb
open PySem L2 PySem.Spec PyProof.Rows
open Builtin.SmallTypes (nextOf ownedTupleIsFree ownedTupleHandOut)
variable {P : Program} {w : World} {A : Around} {E : Value → Shared → Prop} {s : Shared} {b c : Bool}
theorem Of.typeIs {l : Addr} {items : Array Value} (x : Of b s.heap l items) : ∃ T, s.TypeIs (.ref l) T := by
  cases b with
  | true => exact ⟨_, (show s.heap.IsList l items from x).typeIs⟩
  | false => exact ⟨_, (show s.heap.IsTuple l items from x).typeIs⟩
theorem iterOf {l : Addr} {items : Array Value} {Q : Value → Shared → Prop} (x : Of b s.heap l items) (k : Q (.ref s.heap.objs.size) { s with heap := s.heap.push { cls := .type (kn b), data := .fields #[.ref l, .int 0 0] } }) : wpAny (model P w) A (pyIter (.ref l)) Q E s := by
  cases b with
  | true => exact wpAny_pyIter_list (show s.heap.IsList l items from x) k
  | false => exact wpAny_pyIter_tuple (show s.heap.IsTuple l items from x) k
/-! ### enumerate -/
theorem enum_item {e j l : Addr} {i : Nat} {items : Array Value} {x old : Value} {Q : Option Value → Shared → Prop} (hE : IsEnum s.heap e j i old) (hj : At b s.heap j l i) (hl : Of b s.heap l items) (hx : items[i]? = some x) (ne : e ≠ j)
    (k : ∀ h', IsEnumOut h' e j ((i : Int) + 1) x s.heap.objs.size → At b h' j l (i + 1) → h'.get? s.heap.objs.size = some { cls := .type "tuple", data := .seq #[.int i s.toks, x] } → h'.objs.size = s.heap.objs.size + 1 →
      (∀ a o, a ≠ e → a ≠ j → s.heap.get? a = some o → h'.get? a = some o) → Q (some (.ref s.heap.objs.size)) { s with heap := h', toks := s.toks + 1 }) : wpAny (model P w) A (pyNext (.ref e)) Q E s := by
  have hT : s.TypeIs (.ref e) "enumerate" := ⟨_, hE, rfl⟩
  unfold pyNext
  refine wpAny_bind (wpAny_attempt (wpAny_callSpecial?_slot (name := Str.ofString "__next__") hT F.slot_enumerate_next (wpAny_call_entry F.slot_enumerate_next hT F.entry_enumerate_next ?_ (F.args_enumerate_next_1 _))))
  obtain ⟨hp, g, d, tk, os⟩ := s
  show wpAny _ _ (field (.ref e) 2 >>= _) _ _ _
  refine wpAny_bind (wpAny_field hE rfl (x := .ref j) rfl (wpAny_bind (next1 hj hl hx fun k₁ j₁ t₁ => ?_)))
  replace t₁ : Heap.SameBut j hp k₁ := t₁
  have E₁ : IsEnum k₁ e j i old := (t₁.2 e ne).trans hE
  show wpAny _ _ (field (.ref e) 3 >>= _) _ _ ⟨k₁, g, d, tk, os⟩
  refine wpAny_bind (wpAny_field E₁ rfl (x := rawInt i) rfl ?_)
  show wpAny _ _ (field (.ref e) 4 >>= _) _ _ ⟨k₁, g, d, tk, os⟩
  refine wpAny_bind (wpAny_field E₁ rfl (x := .none) rfl ?_)
  show wpAny _ _ (mkInt i >>= _) _ _ ⟨k₁, g, d, tk, os⟩
  refine wpAny_bind (wpAny_mkInt ?_)
  show wpAny _ _ (setField (.ref e) 3 (rawInt ((i : Int) + 1)) >>= _) _ _ ⟨k₁, g, d, tk + 1, os⟩
  refine wpAny_bind (wpAny_setField_rec E₁ (by simp) fun k₂ E₂ t₂ => ?_)
  replace t₂ : Heap.SameBut e k₁ k₂ := t₂
  replace E₂ : IsEnum k₂ e j ((i : Int) + 1) old := E₂
  show wpAny _ _ (setField (.ref e) 4 .none >>= _) _ _ ⟨k₂, g, d, tk + 1, os⟩
  refine wpAny_bind (wpAny_setField_rec E₂ (by simp) fun k₃ E₃ t₃ => ?_)
  replace t₃ : Heap.SameBut e k₂ k₃ := t₃
  replace E₃ : IsEnum k₃ e j ((i : Int) + 1) old := E₃
  show wpAny _ _ (newTuple [.int i tk, x] >>= _) _ _ ⟨k₃, g, d, tk + 1, os⟩
  refine wpAny_bind (wpAny_newTuple ?_)
  have E₄ : IsEnum (k₃.push { cls := .type "tuple", data := .seq #[.int i tk, x] }) e j ((i : Int) + 1) old := Heap.get?_push_of_some _ E₃
  generalize eq₄ : k₃.push { cls := .type "tuple", data := .seq #[.int i tk, x] } = k₄ at E₄
  have sz : k₃.objs.size = hp.objs.size := by rw [t₃.1, t₂.1, t₁.1]
  have lte : e < hp.objs.size := Heap.lt_size hE
  have tp : k₄.get? hp.objs.size = some { cls := .type "tuple", data := .seq #[.int i tk, x] } := by rw [← eq₄, ← sz]; exact Heap.get?_push_size _ rfl
  have sz₄ : k₄.objs.size = hp.objs.size + 1 := by rw [← eq₄, Heap.size_push, sz]
  have up₄ : ∀ a o, a ≠ e → a ≠ j → hp.get? a = some o → k₄.get? a = some o := fun a o z1 z2 q => by
    rw [← eq₄]; exact Heap.get?_push_of_some _ (t₃.extBut a o z1 (t₂.extBut a o z1 (t₁.extBut a o z2 q)))
  have j₄ : At b k₄ j l (i + 1) := j₁.up fun o q => by rw [← eq₄]; exact Heap.get?_push_of_some _ (t₃.extBut j o (Ne.symm ne) (t₂.extBut j o (Ne.symm ne) q))
  show wpAny _ _ (ownedTupleIsFree (.ref e) >>= _) _ _ ⟨k₄, g, d, tk + 1, os⟩
  rw [sz]
  clear eq₄ E₃ t₃ E₂ t₂ E₁ t₁ j₁ sz k₃ k₂ k₁
  refine wpAny_bind ?_
  unfold ownedTupleIsFree
  refine wpAny_bind (wpAny_field E₄ rfl (x := .none) rfl (wpAny_pure ?_))
  simp only [if_true]
  refine wpAny_bind (wpAny_rule (wpAny_bind (wpAny_field E₄ rfl (x := old) rfl (wpAny_bind (wpAny_setField_rec E₄ (by simp) fun k₅ E₅ t₅ => ?_)))))
  replace t₅ : Heap.SameBut e k₄ k₅ := t₅
  replace E₅ : IsEnum k₅ e j ((i : Int) + 1) x := E₅
  show wpAny _ _ (ownedTupleHandOut (.ref e) (.ref hp.objs.size) >>= _) _ _ ⟨k₅, g, d, tk + 1, os⟩
  refine wpAny_bind ?_
  unfold ownedTupleHandOut
  refine wpAny_bind (wpAny_setField_rec E₅ (by simp) fun k₆ E₆ t₆ => ?_)
  replace t₆ : Heap.SameBut e k₅ k₆ := t₆
  replace E₆ : IsEnumOut k₆ e j ((i : Int) + 1) x hp.objs.size := E₆
  refine wpAny_setField_rec E₆ (by simp) fun k₇ E₇ t₇ => ?_
  replace t₇ : Heap.SameBut e k₆ k₇ := t₇
  replace E₇ : IsEnumOut k₇ e j ((i : Int) + 1) x hp.objs.size := E₇
  have up : ∀ a o, a ≠ e → k₄.get? a = some o → k₇.get? a = some o := fun a o z q => t₇.extBut a o z (t₆.extBut a o z (t₅.extBut a o z q))
  refine wpAny_bind (wpAny_letGo (wpAny_pure ⟨_, rfl, wpAny_pure (k k₇ E₇ (j₄.up fun o q => up j o (Ne.symm ne) q) (up _ _ (Nat.ne_of_gt lte) tp) ?_ fun a o z1 z2 q => up a o z1 (up₄ a o z1 z2 q))⟩))
  rw [t₇.1, t₆.1, t₅.1, sz₄]
theorem enum_end {e j l : Addr} {i : Nat} {items : Array Value} {old : Value} {Q : Option Value → Shared → Prop} (hh : A.handled = none) (hE : IsEnum s.heap e j i old) (hj : At b s.heap j l i) (hl : Of b s.heap l items) (hx : items[i]? = none)
    (k : ∀ h', Heap.ExtBut j s.heap h' → Q none { s with heap := h' }) : wpAny (model P w) A (pyNext (.ref e)) Q E s := by
  have hT : s.TypeIs (.ref e) "enumerate" := ⟨_, hE, rfl⟩
  unfold pyNext
  refine wpAny_bind (wpAny_attempt (wpAny_callSpecial?_slot (name := Str.ofString "__next__") hT F.slot_enumerate_next (wpAny_call_entry F.slot_enumerate_next hT F.entry_enumerate_next ?_ (F.args_enumerate_next_1 _))))
  show wpAny _ _ (field (.ref e) 2 >>= _) _ _ _
  refine wpAny_bind (wpAny_field hE rfl (x := .ref j) rfl (wpAny_bind (next0 hh hj hl hx fun h' y he' ⟨o, ho, hc⟩ => ?_)))
  exact wpAny_bind (wpAny_isInstance (T := "StopIteration") (b := true) ⟨o, ho, hc⟩ isSubtype_stop (wpAny_pure (k _ he')))
theorem enum_make {l : Addr} {items : Array Value} {Q : Value → Shared → Prop} (x : Of b s.heap l items)
    (k : ∀ h', IsEnum h' (s.heap.objs.size + 1) s.heap.objs.size 0 .none → At b h' s.heap.objs.size l 0 → h'.objs.size = s.heap.objs.size + 2 → (∀ a o, s.heap.get? a = some o → h'.get? a = some o) → Q (.ref (s.heap.objs.size + 1)) { s with heap := h' }) :
    wpAny (model P w) A (call (.type "enumerate") [.ref l]) Q E s := by
  cases b with
  | true => exact call_enumerate_list (show s.heap.IsList l items from x) k
  | false =>
    have mt : PySem.Meets (Builtin.«enumerate.__new__» ⟨[.type "enumerate", .ref l], []⟩) (fun _ R s => s.heap.IsTuple l items ∧
        R (.ok (.ret (.ref (s.heap.push { cls := .type "tuple_iterator", data := .fields #[.ref l, .int 0 0] }).objs.size)))
          { s with heap := (s.heap.push { cls := .type "tuple_iterator", data := .fields #[.ref l, .int 0 0] }).push { cls := .type "enumerate", data := .fields #[.none, .bool false, .ref s.heap.objs.size, rawInt 0, .none, .none] } }) :=
      .of_wp fun prog w A R s h => by
        obtain ⟨hp, g, d, tk, os⟩ := s; obtain ⟨hl, h⟩ := h
        have sub := sub_enumerate
        have hL : Heap.IsTuple (Shared.heap ⟨hp, g, d, tk, os⟩) l items := hl
        obtain ⟨o0, e0, c0, n0, d0⟩ := id hL
        wp_walk
        refine wpAny_stack_any fun st => wpAny_pure ?_
        split
        · rename_i c _ _ _ _ _
          cases (c == Value.type "enumerate")
          · wp_walk using wpAny_pyIter_tuple hL
            exact ⟨_, rfl, h⟩
          · wp_walk using wpAny_pyIter_tuple hL
            exact ⟨_, rfl, h⟩
        · wp_walk using wpAny_pyIter_tuple hL
          exact ⟨_, rfl, h⟩
    refine callType_new F.called_enumerate (by decide) (F.typeCall_enumerate_1 _) (F.newCall_enumerate_1 _) (fun obj => F.args_object_init_2 obj _) F.entry_enumerate_new mt ⟨x, ?_⟩
    have z1 : (s.heap.push { cls := .type "tuple_iterator", data := .fields #[.ref l, .int 0 0] }).objs.size = s.heap.objs.size + 1 := Heap.size_push ..
    show _ ∧ _
    rw [z1]
    have eE : IsEnum ((s.heap.push { cls := .type "tuple_iterator", data := .fields #[.ref l, .int 0 0] }).push
        { cls := .type "enumerate", data := .fields #[.none, .bool false, .ref s.heap.objs.size, rawInt 0, .none, .none] }) (s.heap.objs.size + 1) s.heap.objs.size 0 .none := by
      have q := Heap.get?_push_size (s.heap.push { cls := .type "tuple_iterator", data := .fields #[.ref l, .int 0 0] }) (o := { cls := .type "enumerate", data := .fields #[.none, .bool false, .ref s.heap.objs.size, rawInt 0, .none, .none] }) rfl
      rw [z1] at q; exact q
    refine ⟨⟨_, eE, rfl⟩, k _ eE ⟨_, Heap.get?_push_of_some _ (Heap.get?_push_size _ rfl), rfl, rfl⟩ (by rw [Heap.size_push, z1]) fun a o q => Heap.get?_push_of_some _ (Heap.get?_push_of_some _ q)⟩
end Sb

namespace Sb
open PySem L2 PySem.Spec PyProof.Rows
open Builtin.SmallTypes (nextOf ownedTupleIsFree ownedTupleHandOut)
variable {P : Program} {w : World} {A : Around} {E : Value → Shared → Prop} {s : Shared} {b c : Bool}
/-- the records of a zip stand apart: z itself, its tuple of iterators T, its own pair U, the iterators p, q -/
structure Zp (z T U p q l m : Addr) : Prop where
  Tz : T ≠ z
  Uz : U ≠ z
  pz : p ≠ z
  qz : q ≠ z
  TU : T ≠ U
  Tp : T ≠ p
  Tq : T ≠ q
  Up : U ≠ p
  Uq : U ≠ q
  pq : p ≠ q
  lz : l ≠ z
  lU : l ≠ U
  lp : l ≠ p
  lq : l ≠ q
  mz : m ≠ z
  mU : m ≠ U
  mp : m ≠ p
  mq : m ≠ q
theorem zip_item {z T U p q l m : Addr} {i : Nat} {xs ys : Array Value} {x y u v : Value} {Q : Option Value → Shared → Prop} (D : Zp z T U p q l m) (hz : IsZip s.heap z T U .none) (hT : IsPair s.heap T (.ref p) (.ref q)) (hU : IsPair s.heap U u v)
    (h1 : At b s.heap p l i) (h2 : At c s.heap q m i) (hl : Of b s.heap l xs) (hm : Of c s.heap m ys) (hx : xs[i]? = some x) (hy : ys[i]? = some y)
    (k : ∀ h', IsZip h' z T U (rawInt s.heap.objs.size) → IsPair h' U x y → At b h' p l (i + 1) → At c h' q m (i + 1) → IsPair h' s.heap.objs.size x y → h'.objs.size = s.heap.objs.size + 1 →
      (∀ a o, a ≠ z → a ≠ U → a ≠ p → a ≠ q → s.heap.get? a = some o → h'.get? a = some o) → Q (some (.ref s.heap.objs.size)) { s with heap := h' }) : wpAny (model P w) A (pyNext (.ref z)) Q E s := by
  have ty : s.TypeIs (.ref z) "zip" := ⟨_, hz, rfl⟩
  unfold pyNext
  refine wpAny_bind (wpAny_attempt (wpAny_callSpecial?_slot (name := Str.ofString "__next__") ty F.slot_zip_next (wpAny_call_entry F.slot_zip_next ty F.entry_zip_next ?_ (F.args_zip_next_1 _))))
  show wpAny _ _ (field (.ref z) 2 >>= _) _ _ _
  refine wpAny_bind (wpAny_field hz rfl (x := .bool false) rfl ?_)
  show wpAny _ _ (field (.ref z) 3 >>= _) _ _ _
  refine wpAny_bind (wpAny_field hz rfl (x := .ref T) rfl (wpAny_bind (wpAny_seqItems hT rfl ?_)))
  show wpAny _ _ (ownedTupleIsFree (.ref z) >>= _) _ _ _
  refine wpAny_bind ?_
  unfold ownedTupleIsFree
  refine wpAny_bind (wpAny_field hz rfl (x := .none) rfl (wpAny_pure ?_))
  simp only [if_true]
  refine wpAny_bind (wpAny_rule (wpAny_bind (wpAny_field hz rfl (x := .ref U) rfl (wpAny_bind (wpAny_setField_rec hz (by simp) fun k₁ z₁ t₁ => ?_)))))
  replace z₁ : IsZip k₁ z T U .ellipsis := z₁
  refine wpAny_bind ?_
  simp only [List.zipIdx_cons, List.zipIdx_nil, List.forIn_cons, List.forIn_nil]
  refine wpAny_bind (wpAny_bind (wpAny_onRaise ?_))
  show wpAny _ _ (nextOf (.ref p) >>= _) _ _ _
  refine wpAny_bind (next1 (h1.up fun o e => t₁.extBut _ o D.pz e) (hl.up fun o e => t₁.extBut _ o D.lz e) hx fun k₂ p₂ t₂ => wpAny_pure ?_)
  have U₂ : IsPair k₂ U u v := t₂.extBut _ _ D.Up (t₁.extBut _ _ D.Uz hU)
  refine wpAny_bind (wpAny_seqItems U₂ rfl (wpAny_bind (wpAny_updateSeq_pair U₂ fun k₃ U₃ t₃ => wpAny_bind (wpAny_letGo (wpAny_pure ?_)))))
  replace U₃ : IsPair k₃ U x v := U₃
  refine wpAny_bind (wpAny_bind (wpAny_onRaise ?_))
  show wpAny _ _ (nextOf (.ref q) >>= _) _ _ _
  refine wpAny_bind (next1 (h2.up fun o e => t₃.extBut _ o D.Uq.symm (t₂.extBut _ o D.pq.symm (t₁.extBut _ o D.qz e))) (hm.up fun o e => t₃.extBut _ o D.mU (t₂.extBut _ o D.mp (t₁.extBut _ o D.mz e))) hy fun k₄ q₄ t₄ => wpAny_pure ?_)
  have U₄ : IsPair k₄ U x v := t₄.extBut _ _ D.Uq U₃
  refine wpAny_bind (wpAny_seqItems U₄ rfl (wpAny_bind (wpAny_updateSeq_pair U₄ fun k₅ U₅ t₅ => wpAny_bind (wpAny_letGo (wpAny_pure (wpAny_pure ?_))))))
  replace U₅ : IsPair k₅ U x y := U₅
  refine wpAny_bind (wpAny_seqItems U₅ rfl (wpAny_bind (wpAny_newTuple ?_)))
  have sz : k₅.objs.size = s.heap.objs.size := by rw [t₅.1, t₄.1, t₃.1, t₂.1, t₁.1]
  have z₅ : IsZip k₅ z T U .ellipsis := t₅.extBut _ _ D.Uz.symm (t₄.extBut _ _ D.qz.symm (t₃.extBut _ _ D.Uz.symm (t₂.extBut _ _ D.pz.symm z₁)))
  have up₅ : ∀ a o, a ≠ z → a ≠ U → a ≠ p → a ≠ q → s.heap.get? a = some o → k₅.get? a = some o := fun a o a1 a2 a3 a4 e => t₅.extBut _ _ a2 (t₄.extBut _ _ a4 (t₃.extBut _ _ a2 (t₂.extBut _ _ a3 (t₁.extBut _ _ a1 e))))
  have p₅ : At b k₅ p l (i + 1) := p₂.up fun o e => t₅.extBut _ o D.Up.symm (t₄.extBut _ o D.pq (t₃.extBut _ o D.Up.symm e))
  have q₅ : At c k₅ q m (i + 1) := q₄.up fun o e => t₅.extBut _ o D.Uq.symm e
  have zlt : z < k₅.objs.size := Heap.lt_size z₅
  show wpAny _ _ (ownedTupleHandOut (.ref z) (.ref k₅.objs.size) >>= _) _ _ _
  refine wpAny_bind ?_
  unfold ownedTupleHandOut
  have z₆ : IsZip (k₅.push { cls := .type "tuple", data := .seq #[x, y] }) z T U .ellipsis := Heap.get?_push_of_some _ z₅
  refine wpAny_bind (wpAny_setField_rec z₆ (by simp) fun k₇ z₇ t₇ => ?_)
  replace z₇ : IsZip k₇ z T U (rawInt k₅.objs.size) := z₇
  refine wpAny_setField_rec z₇ (by simp) fun k₈ z₈ t₈ => ?_
  replace z₈ : IsZip k₈ z T U (rawInt k₅.objs.size) := z₈
  have up : ∀ a o, a ≠ z → k₅.get? a = some o → k₈.get? a = some o := fun a o a1 e => t₈.extBut _ _ a1 (t₇.extBut _ _ a1 (Heap.get?_push_of_some _ e))
  have T₈ : IsPair k₈ k₅.objs.size x y := t₈.extBut _ _ (Nat.ne_of_gt zlt) (t₇.extBut _ _ (Nat.ne_of_gt zlt) (Heap.get?_push_size _ rfl))
  have s8 : k₈.objs.size = k₅.objs.size + 1 := by rw [t₈.1, t₇.1, Heap.size_push]
  rw [sz] at z₈ T₈ s8
  refine wpAny_pure ⟨_, rfl, wpAny_pure ?_⟩
  show Q (some (.ref k₅.objs.size)) _
  rw [sz]
  exact k k₈ z₈ (up _ _ D.Uz U₅) (p₅.up fun o e => up _ o D.pz e) (q₅.up fun o e => up _ o D.qz e) T₈ s8 fun a o a1 a2 a3 a4 e => up a o a1 (up₅ a o a1 a2 a3 a4 e)
theorem zip_end {z T U p q l m : Addr} {i : Nat} {xs ys : Array Value} {u v : Value} {Q : Option Value → Shared → Prop} (hh : A.handled = none) (D : Zp z T U p q l m) (hz : IsZip s.heap z T U .none) (hT : IsPair s.heap T (.ref p) (.ref q)) (hU : IsPair s.heap U u v)
    (h1 : At b s.heap p l i) (h2 : At c s.heap q m i) (hl : Of b s.heap l xs) (hm : Of c s.heap m ys) (he : xs[i]? = none ∨ ys[i]? = none)
    (k : ∀ h', (∀ a o, a ≠ z → a ≠ U → a ≠ p → a ≠ q → s.heap.get? a = some o → h'.get? a = some o) → Q none { s with heap := h' }) : wpAny (model P w) A (pyNext (.ref z)) Q E s := by
  have ty : s.TypeIs (.ref z) "zip" := ⟨_, hz, rfl⟩
  unfold pyNext
  refine wpAny_bind (wpAny_attempt (wpAny_callSpecial?_slot (name := Str.ofString "__next__") ty F.slot_zip_next (wpAny_call_entry F.slot_zip_next ty F.entry_zip_next ?_ (F.args_zip_next_1 _))))
  have fin : ∀ h' e, (∀ a o, a ≠ z → a ≠ U → a ≠ p → a ≠ q → s.heap.get? a = some o → h'.get? a = some o) → (∃ o, h'.get? e = some o ∧ o.cls = .type "StopIteration") →
      (fun e s' => wpAny (model P w) A (isInstance e (.type "StopIteration")) (fun r s'' => (if r = true then Q none s'' else E e s'')) E s') (.ref e) { s with heap := h' } := fun h' e up ⟨o, ho, hc⟩ =>
    wpAny_isInstance (T := "StopIteration") (b := true) ⟨o, ho, hc⟩ isSubtype_stop (by rw [if_pos rfl]; exact k h' up)
  show wpAny _ _ (field (.ref z) 2 >>= _) _ _ _
  refine wpAny_bind (wpAny_field hz rfl (x := .bool false) rfl ?_)
  show wpAny _ _ (field (.ref z) 3 >>= _) _ _ _
  refine wpAny_bind (wpAny_field hz rfl (x := .ref T) rfl (wpAny_bind (wpAny_seqItems hT rfl ?_)))
  show wpAny _ _ (ownedTupleIsFree (.ref z) >>= _) _ _ _
  refine wpAny_bind ?_
  unfold ownedTupleIsFree
  refine wpAny_bind (wpAny_field hz rfl (x := .none) rfl (wpAny_pure ?_))
  simp only [if_true]
  refine wpAny_bind (wpAny_rule (wpAny_bind (wpAny_field hz rfl (x := .ref U) rfl (wpAny_bind (wpAny_setField_rec hz (by simp) fun k₁ z₁ t₁ => ?_)))))
  replace z₁ : IsZip k₁ z T U .ellipsis := z₁
  refine wpAny_bind ?_
  simp only [List.zipIdx_cons, List.zipIdx_nil, List.forIn_cons, List.forIn_nil]
  refine wpAny_bind (wpAny_bind (wpAny_onRaise ?_))
  show wpAny _ _ (nextOf (.ref p) >>= _) _ _ _
  cases ex : xs[i]? with
  | none =>
    refine wpAny_bind (next0 hh (h1.up fun o e => t₁.extBut _ o D.pz e) (hl.up fun o e => t₁.extBut _ o D.lz e) ex fun k₂ e t₂ ⟨oe, hoe, hce⟩ => ?_)
    have z₂ : IsZip k₂ z T U .ellipsis := t₂ _ _ D.pz.symm z₁
    have ez : e ≠ z := fun r => by subst r; rw [z₂] at hoe; cases hoe; simp at hce
    refine wpAny_setField_rec z₂ (by simp) fun k₃ _ t₃ => ?_
    refine wpAny_bind (wpAny_isInstance (T := "StopIteration") (b := true) ⟨oe, t₃.extBut _ _ ez hoe, hce⟩ isSubtype_stop (wpAny_pure (k _ fun a o a1 _ a3 _ r => t₃.extBut _ _ a1 (t₂ _ _ a3 (t₁.extBut _ _ a1 r)))))
  | some x =>
    have ey : ys[i]? = none := by rcases he with r | r; rw [ex] at r; cases r; exact r
    refine wpAny_bind (next1 (h1.up fun o e => t₁.extBut _ o D.pz e) (hl.up fun o e => t₁.extBut _ o D.lz e) ex fun k₂ p₂ t₂ => wpAny_pure ?_)
    have U₂ : IsPair k₂ U u v := t₂.extBut _ _ D.Up (t₁.extBut _ _ D.Uz hU)
    refine wpAny_bind (wpAny_seqItems U₂ rfl (wpAny_bind (wpAny_updateSeq_pair U₂ fun k₃ U₃ t₃ => wpAny_bind (wpAny_letGo (wpAny_pure ?_)))))
    refine wpAny_bind (wpAny_bind (wpAny_onRaise ?_))
    show wpAny _ _ (nextOf (.ref q) >>= _) _ _ _
    refine wpAny_bind (next0 hh (h2.up fun o e => t₃.extBut _ o D.Uq.symm (t₂.extBut _ o D.pq.symm (t₁.extBut _ o D.qz e))) (hm.up fun o e => t₃.extBut _ o D.mU (t₂.extBut _ o D.mp (t₁.extBut _ o D.mz e))) ey fun k₄ e t₄ ⟨oe, hoe, hce⟩ => ?_)
    have z₄ : IsZip k₄ z T U .ellipsis := t₄ _ _ D.qz.symm (t₃.extBut _ _ D.Uz.symm (t₂.extBut _ _ D.pz.symm z₁))
    have ez : e ≠ z := fun r => by subst r; rw [z₄] at hoe; cases hoe; simp at hce
    refine wpAny_setField_rec z₄ (by simp) fun k₅ _ t₅ => ?_
    refine wpAny_bind (wpAny_isInstance (T := "StopIteration") (b := true) ⟨oe, t₅.extBut _ _ ez hoe, hce⟩ isSubtype_stop (wpAny_pure (k _ fun a o a1 a2 a3 a4 r => t₅.extBut _ _ a1 (t₄ _ _ a4 (t₃.extBut _ _ a2 (t₂.extBut _ _ a3 (t₁.extBut _ _ a1 r)))))))
/-! ### zip made -/
abbrev g1 (b : Bool) (h : Heap) (l : Addr) : Heap := h.push { cls := .type (kn b), data := .fields #[.ref l, .int 0 0] }
abbrev g2 (b c : Bool) (h : Heap) (l m : Addr) : Heap := (g1 b h l).push { cls := .type (kn c), data := .fields #[.ref m, .int 0 0] }
abbrev g3 (b c : Bool) (h : Heap) (l m : Addr) : Heap := (g2 b c h l m).push { cls := .type "tuple", data := .seq #[.ref h.objs.size, .ref (g1 b h l).objs.size] }
abbrev g4 (b c : Bool) (h : Heap) (l m : Addr) : Heap := (g3 b c h l m).push { cls := .type "tuple", data := .seq #[.none, .none] }
abbrev g5 (b c : Bool) (h : Heap) (l m : Addr) : Heap := (g4 b c h l m).push { cls := .type "zip", data := .fields #[.none, .bool false, .bool false, .ref (g2 b c h l m).objs.size, .ref (g3 b c h l m).objs.size] }
theorem zip_new (b c : Bool) (l m : Addr) (xs ys : Array Value) : PySem.Meets (Builtin.«zip.__new__» ⟨[.type "zip", .ref l, .ref m], []⟩) (fun _ R s => Of b s.heap l xs ∧ Of c s.heap m ys ∧ R (.ok (.ret (.ref (g4 b c s.heap l m).objs.size))) { s with heap := g5 b c s.heap l m }) :=
  .of_wp fun prog w A R s h => by
    obtain ⟨hp, g, d, tk, os⟩ := s; obtain ⟨hl, hm, h⟩ := h
    have sub := sub_zip
    have L1 : Of b (Shared.heap ⟨hp, g, d, tk, os⟩) l xs := hl
    have L2 : Of c (Shared.heap ⟨hp.push { cls := .type (kn b), data := .fields #[.ref l, .int 0 0] }, g, d, tk, os⟩) m ys := hm.up fun o e => Heap.get?_push_of_some _ e
    wp_walk using iterOf L1, iterOf L2
    exact ⟨_, rfl, h⟩
theorem zip_make {l m : Addr} {xs ys : Array Value} {Q : Value → Shared → Prop} (hl : Of b s.heap l xs) (hm : Of c s.heap m ys)
    (k : ∀ h', IsZip h' (s.heap.objs.size + 4) (s.heap.objs.size + 2) (s.heap.objs.size + 3) .none → IsPair h' (s.heap.objs.size + 2) (.ref s.heap.objs.size) (.ref (s.heap.objs.size + 1)) → IsPair h' (s.heap.objs.size + 3) .none .none →
      At b h' s.heap.objs.size l 0 → At c h' (s.heap.objs.size + 1) m 0 → h'.objs.size = s.heap.objs.size + 5 → (∀ a o, s.heap.get? a = some o → h'.get? a = some o) → Q (.ref (s.heap.objs.size + 4)) { s with heap := h' }) :
    wpAny (model P w) A (call (.type "zip") [.ref l, .ref m]) Q E s := by
  refine callType_new F.called_zip (by decide) (F.typeCall_zip_2 _ _) (F.newCall_zip_2 _ _) (fun obj => F.args_object_init_3 obj _ _) F.entry_zip_new (zip_new b c l m xs ys) ⟨hl, hm, ?_⟩
  have z1 : (g1 b s.heap l).objs.size = s.heap.objs.size + 1 := Heap.size_push ..
  have z2 : (g2 b c s.heap l m).objs.size = s.heap.objs.size + 2 := by rw [Heap.size_push, z1]
  have z3 : (g3 b c s.heap l m).objs.size = s.heap.objs.size + 3 := by rw [Heap.size_push, z2]
  have z4 : (g4 b c s.heap l m).objs.size = s.heap.objs.size + 4 := by rw [Heap.size_push, z3]
  have z5 : (g5 b c s.heap l m).objs.size = s.heap.objs.size + 5 := by rw [Heap.size_push, z4]
  have e5 : (g5 b c s.heap l m).get? (g4 b c s.heap l m).objs.size = some _ := Heap.get?_push_size _ rfl
  have e4 : (g5 b c s.heap l m).get? (g3 b c s.heap l m).objs.size = some _ := Heap.get?_push_of_some _ (Heap.get?_push_size _ rfl)
  have e3 : (g5 b c s.heap l m).get? (g2 b c s.heap l m).objs.size = some _ := Heap.get?_push_of_some _ (Heap.get?_push_of_some _ (Heap.get?_push_size _ rfl))
  have e2 : (g5 b c s.heap l m).get? (g1 b s.heap l).objs.size = some _ := Heap.get?_push_of_some _ (Heap.get?_push_of_some _ (Heap.get?_push_of_some _ (Heap.get?_push_size _ rfl)))
  have e1 : (g5 b c s.heap l m).get? s.heap.objs.size = some _ := Heap.get?_push_of_some _ (Heap.get?_push_of_some _ (Heap.get?_push_of_some _ (Heap.get?_push_of_some _ (Heap.get?_push_size _ rfl))))
  show _ ∧ _
  rw [z2, z3, z4] at e5
  rw [z1, z2] at e3
  rw [z3] at e4
  rw [z1] at e2
  rw [z4]
  exact ⟨⟨_, e5, rfl⟩, k _ e5 e3 e4 ⟨_, e1, rfl, rfl⟩ ⟨_, e2, rfl, rfl⟩ z5 fun a o x => Heap.get?_push_of_some _ (Heap.get?_push_of_some _ (Heap.get?_push_of_some _ (Heap.get?_push_of_some _ (Heap.get?_push_of_some _ x))))⟩
end Sb

namespace Sb
open PySem L2 PySem.Spec PyProof.Rows
section
variable {X : Cx} {pins : List (Addr × Obj)} {σ : L2.St} {H : Hp} {s : Shared} {h' : Heap} {fp : List Addr}
theorem turnedL {t' : Nat} (I : L2.Inv X pins σ H s) (k : ∀ b o, b ∉ fp → s.heap.get? b = some o → h'.get? b = some o) (hf : ∀ b ∈ fp, FpOk X pins H b) : L2.Inv X pins σ H { s with heap := h', toks := t' } := by
  have nit : ∀ b u, H b = some u → b ∉ fp := fun b u e z => by rw [(hf b z).1] at e; cases e
  have nL : X.env.locals ∉ fp := fun z => (hf _ z).2.1 rfl
  refine I.step (g' := s.gens) (d' := s.drawn) (ch := fp) (fun b hb => ?_) (fun b o _ _ hc e _ => k b o hc e) (fun b o _ _ hc e _ => ⟨o.slots, k b o hc e⟩) (fun _ _ _ _ n => n)
    (fun b o hc e => ⟨o, k b o hc e⟩) (fun _ _ e => e) (fun _ _ _ e => e) (fun b ps e => ⟨#[], by rw [e]; simp⟩) (fun m hm => ?_) (fun b u e => ?_) I.bare
  · obtain ⟨f0, f1, f2, f3, f4, f5⟩ := hf b hb
    exact ⟨f3, f1, f4, f5⟩
  · obtain ⟨o, es, ep, ho, r⟩ := hm
    exact ⟨o, es, ep, k _ o nL ho, r⟩
  · refine (I.hok b u e).stay (fun c v hc q => k c v ?_ q) (fun _ q => q) fun _ _ q => q
    rcases hc with z | z
    · rw [z]; exact nit b u e
    · exact nit c _ z
theorem turnNew {t' : Nat} {vs : List V} {us : List Value} {n : Nat} (I : L2.Inv X pins σ H s) (k : ∀ b o, b ∉ fp → s.heap.get? b = some o → h'.get? b = some o) (hf : ∀ b ∈ fp, FpOk X pins H b) (hlt : ∀ b ∈ fp, b < s.heap.objs.size)
    (ht : h'.get? s.heap.objs.size = some { cls := .type "tuple", data := .seq us.toArray n }) (r : Vals vs us) (hz : vs.length ≤ sizeLine) : L2.Inv X pins σ (upd H s.heap.objs.size (.tup vs)) { s with heap := h', toks := t' } := by
  have nit : ∀ b u, H b = some u → b ∉ fp := fun b u e z => by rw [(hf b z).1] at e; cases e
  have nL : X.env.locals ∉ fp := fun z => (hf _ z).2.1 rfl
  have hp : H s.heap.objs.size = none := I.hok.fresh (Nat.le_refl _)
  have np : ∀ b o, s.heap.get? b = some o → b ≠ s.heap.objs.size := fun b o e => Nat.ne_of_lt (Heap.lt_size e)
  have nH : ∀ b u, H b = some u → b ≠ s.heap.objs.size := fun b u e => ne_of_none e hp
  refine I.step (g' := s.gens) (d' := s.drawn) (ch := fp) (fun b hb => ?_) (fun b o _ _ hc e _ => k b o hc e) (fun b o _ _ hc e _ => ⟨o.slots, k b o hc e⟩) (fun b o _ e n => by rw [upd_ne (np b o e)]; exact n)
    (fun b o hc e => ⟨o, k b o hc e⟩) (fun b _ e => by rw [upd_ne (nH b _ e)]; exact e) (fun b _ _ e => by rw [upd_ne (nH b _ e)]; exact e) (fun b ps e => ⟨#[], by rw [upd_ne (nH b _ e), e]; simp⟩) (fun m hm => ?_) (fun b u e => ?_) I.bare
  · obtain ⟨f0, f1, f2, f3, f4, f5⟩ := hf b hb
    exact ⟨f3, f1, f4, f5⟩
  · obtain ⟨o, es, ep, ho, q⟩ := hm
    exact ⟨o, es, ep, k _ o nL ho, q⟩
  · by_cases z : b = s.heap.objs.size
    · subst z
      rw [upd_same] at e
      cases e
      exact ⟨hz, us, r, ⟨_, ht, rfl, n, rfl⟩⟩
    · rw [upd_ne z] at e
      refine (I.hok b u e).stay (fun c v hc q => k c v ?_ q) (fun c q => ?_) fun c u q => ?_
      · rcases hc with y | y
        · rw [y]; exact nit b u e
        · exact nit c _ y
      · rw [upd_ne (nH _ _ q)]; exact q
      · rw [upd_ne (nH _ _ q)]; exact q
end
/-! ### what enumerate and zip walk -/
def SqB (b : Bool) (K : PySem.W.Frag) (H : Hp) (l : Addr) (xs : List V) : Prop := match b with
  | true => SqL K H l xs
  | false => SqT K H l xs
theorem SqB.of {X : Cx} {pins : List (Addr × Obj)} {σ : L2.St} {H : Hp} {s : Shared} {b : Bool} {l : Addr} {xs : List V} (I : L2.Inv X pins σ H s) (q : SqB b X.K H l xs) : ∃ its : List Value, Vals xs its ∧ Of b s.heap l its.toArray := by
  cases b with
  | true => obtain ⟨its, r, p, _⟩ := I.list (show SqL X.K H l xs from q); exact ⟨its, r, p.isList⟩
  | false => obtain ⟨its, r, p, _⟩ := I.tuple (show SqT X.K H l xs from q); exact ⟨its, r, p⟩
theorem SqB.inj {X : Cx} {pins : List (Addr × Obj)} {σ : L2.St} {H : Hp} {s : Shared} {b : Bool} {l : Addr} {xs ys : List V} (I : L2.Inv X pins σ H s) (q : SqB b X.K H l xs) (q' : SqB b X.K H l ys) : xs = ys := by
  cases b with
  | true => exact I.list_inj q q'
  | false => exact I.tuple_inj q q'
def Ite (b : Bool) (K : PySem.W.Frag) (l : Addr) : It :=
  ⟨fun i H => ∃ xs x, SqB b K H l xs ∧ xs[i]? = some x, fun i H x H' => ∃ p y, H p = none ∧ x = .ref p ∧ H' = upd H p (.tup [.int (i : Int), y]) ∧ ∀ xs, SqB b K H l xs → xs[i]? = some y, fun i H => ∃ xs, SqB b K H l xs ∧ xs.length ≤ i⟩
def Itz (b c : Bool) (K : PySem.W.Frag) (l m : Addr) : It :=
  ⟨fun i H => ∃ xs ys x y, SqB b K H l xs ∧ SqB c K H m ys ∧ xs[i]? = some x ∧ ys[i]? = some y,
   fun i H x H' => ∃ p u v, H p = none ∧ x = .ref p ∧ H' = upd H p (.tup [u, v]) ∧ (∀ xs, SqB b K H l xs → xs[i]? = some u) ∧ ∀ xs, SqB c K H m xs → xs[i]? = some v,
   fun i H => ∃ xs ys, SqB b K H l xs ∧ SqB c K H m ys ∧ (xs.length ≤ i ∨ ys.length ≤ i)⟩
theorem turn_enum {P : Program} {w : World} {K : PySem.W.Frag} {es : List Expr} {k0 : Nat} {pos : Pos} (b : Bool) (l e j : Addr) (ne : e ≠ j) : Turn P w K (.Tuple es k0 pos) (Ite b K l) [e, j] e (fun i h => (∃ old, IsEnum h e j i old) ∧ At b h j l i) where
  mem := by simp
  obj := fun i h st a ha => by
    obtain ⟨⟨old, h1⟩, o, h2, _, d2⟩ := st
    simp at ha
    rcases ha with rfl | rfl
    · exact ⟨_, h1, fun v z => by cases z⟩
    · exact ⟨o, h2, fun v z => by rw [d2] at z; cases z⟩
  keep := fun i h h' ⟨⟨old, h1⟩, h2⟩ k => ⟨⟨old, k e (by simp) _ h1⟩, h2.up fun o q => k j (by simp) o q⟩
  item := by
    intro X hP hw hK hc i pins s σ H E I hf st hg
    subst hP hw hK
    obtain ⟨xs, x, hq, hx⟩ := hg
    obtain ⟨⟨old, h1⟩, h2⟩ := st
    obtain ⟨its, rv, hO⟩ := hq.of I
    obtain ⟨u, hu, ru⟩ := rv.get hx
    have hlt : ∀ a ∈ [e, j], a < s.heap.objs.size := fun a ha => by
      simp at ha
      rcases ha with rfl | rfl
      · exact Heap.lt_size h1
      · exact h2.lt
    refine enum_item h1 h2 hO (x := u) (by simpa using hu) ne fun h' a1 a2 a3 a4 a5 => ⟨_, rfl, wpAny_letOwnedTupleGo_enum a1 fun h'' b1 b2 => ?_⟩
    have hp : H s.heap.objs.size = none := I.hok.fresh (Nat.le_refl _)
    have I1 := turnNew (t' := s.toks + 1) (vs := [.int (i : Int), x]) (us := [.int i s.toks, u]) (n := 0) I (fun a o ha q => a5 a o (fun z => ha (by simp [z])) (fun z => ha (by simp [z])) q) hf hlt a3 (.cons ⟨_, rfl⟩ (.cons ru .nil)) (show 2 ≤ sizeLine by decide)
    have hf1 : ∀ a ∈ [e, j], FpOk X pins (upd H s.heap.objs.size (.tup [.int (i : Int), x])) a := fun a ha => by
      obtain ⟨f0, f⟩ := hf a ha
      exact ⟨by rw [upd_ne (Nat.ne_of_lt (hlt a ha))]; exact f0, f⟩
    have I2 := turnedL (t' := s.toks + 1) I1 (h' := h'') (fun a o ha q => b2.extBut a o (fun z => ha (by simp [z])) q) hf1
    exact ⟨.ref s.heap.objs.size, _, I2, rfl, ⟨_, x, hp, rfl, rfl, fun ys hy => by rw [hy.inj I hq]; exact hx⟩, ⟨⟨_, by simpa using b1⟩, a2.up fun o q => b2.extBut j o (Ne.symm ne) q⟩, fun a ha => (hf1 a ha).1⟩
  done := by
    intro X hP hw hK hc i pins s σ H E I hf st hg
    subst hP hw hK
    obtain ⟨xs, hq, hx⟩ := hg
    obtain ⟨⟨old, h1⟩, h2⟩ := st
    obtain ⟨its, rv, hO⟩ := hq.of I
    have hl := rv.length
    exact enum_end (I.ok.hd hc) h1 h2 hO (by simp; omega) fun h' eb => ⟨rfl, turnedL (t' := s.toks) I (fun a o ha q => eb a o (fun z => ha (by simp [z])) q) hf⟩
  self := fun A i s Q E ⟨⟨old, h1⟩, _⟩ q => by
    have hT : s.TypeIs (.ref e) "enumerate" := ⟨_, h1, rfl⟩
    refine wpAny_pyIter_slot hT F.slot_enumerate_iter (wpAny_call_entry F.slot_enumerate_iter hT F.entry_enumerate_iter ?_ (F.args_enumerate_iter_1 _))
    show wpAny _ _ (ret (.ref e)) _ _ s
    exact wpAny_pure ⟨_, rfl, "enumerate", _, hT, F.slot_enumerate_next.lookup, q⟩
theorem turn_zip {P : Program} {w : World} {K : PySem.W.Frag} {es : List Expr} {k0 : Nat} {pos : Pos} (b c : Bool) (z T U p q l m : Addr) (D : Zp z T U p q l m) :
    Turn P w K (.Tuple es k0 pos) (Itz b c K l m) [z, T, U, p, q] z (fun i h => IsZip h z T U .none ∧ IsPair h T (.ref p) (.ref q) ∧ (∃ u v, IsPair h U u v) ∧ At b h p l i ∧ At c h q m i) where
  mem := by simp
  obj := fun i h st a ha => by
    obtain ⟨h1, h2, ⟨u, v, h3⟩, ⟨o4, h4, _, d4⟩, ⟨o5, h5, _, d5⟩⟩ := st
    simp at ha
    rcases ha with rfl | rfl | rfl | rfl | rfl
    · exact ⟨_, h1, fun v z => by cases z⟩
    · exact ⟨_, h2, fun v z => by cases z⟩
    · exact ⟨_, h3, fun v z => by cases z⟩
    · exact ⟨o4, h4, fun v z => by rw [d4] at z; cases z⟩
    · exact ⟨o5, h5, fun v z => by rw [d5] at z; cases z⟩
  keep := fun i h h' ⟨h1, h2, ⟨u, v, h3⟩, h4, h5⟩ k => ⟨k z (by simp) _ h1, k T (by simp) _ h2, ⟨u, v, k U (by simp) _ h3⟩, h4.up fun o e => k p (by simp) o e, h5.up fun o e => k q (by simp) o e⟩
  item := by
    intro X hP hw hK hc i pins s σ H E I hf st hg
    subst hP hw hK
    obtain ⟨xs, ys, x, y, hq1, hq2, hx, hy⟩ := hg
    obtain ⟨h1, h2, ⟨u, v, h3⟩, h4, h5⟩ := st
    obtain ⟨is1, rv1, hO1⟩ := hq1.of I
    obtain ⟨is2, rv2, hO2⟩ := hq2.of I
    obtain ⟨u1, hu1, ru1⟩ := rv1.get hx
    obtain ⟨u2, hu2, ru2⟩ := rv2.get hy
    have hlt : ∀ a ∈ [z, T, U, p, q], a < s.heap.objs.size := fun a ha => by
      simp at ha
      rcases ha with rfl | rfl | rfl | rfl | rfl
      · exact Heap.lt_size h1
      · exact Heap.lt_size h2
      · exact Heap.lt_size h3
      · exact h4.lt
      · exact h5.lt
    refine zip_item D h1 h2 h3 h4 h5 hO1 hO2 (x := u1) (y := u2) (by simpa using hu1) (by simpa using hu2) fun h' a1 a2 a3 a4 a5 a6 a7 => ⟨_, rfl, wpAny_letOwnedTupleGo_zip a1 fun h'' b1 b2 => ?_⟩
    have hp : H s.heap.objs.size = none := I.hok.fresh (Nat.le_refl _)
    have I1 := turnNew (t' := s.toks) (vs := [x, y]) (us := [u1, u2]) (n := 0) I (h' := h') (fp := [z, T, U, p, q]) (fun a o ha e => a7 a o (fun r => ha (by simp [r])) (fun r => ha (by simp [r])) (fun r => ha (by simp [r])) (fun r => ha (by simp [r])) e) hf hlt a5 (.cons ru1 (.cons ru2 .nil)) (show 2 ≤ sizeLine by decide)
    have hf1 : ∀ a ∈ [z, T, U, p, q], FpOk X pins (upd H s.heap.objs.size (.tup [x, y])) a := fun a ha => by
      obtain ⟨f0, f⟩ := hf a ha
      exact ⟨by rw [upd_ne (Nat.ne_of_lt (hlt a ha))]; exact f0, f⟩
    have I2 := turnedL (t' := s.toks) I1 (h' := h'') (fp := [z, T, U, p, q]) (fun a o ha e => b2.extBut a o (fun r => ha (by simp [r])) e) hf1
    have hT' := a7 T _ D.Tz D.TU D.Tp D.Tq h2
    exact ⟨.ref s.heap.objs.size, _, I2, rfl, ⟨_, x, y, hp, rfl, rfl, fun zs hz => by rw [hz.inj I hq1]; exact hx, fun zs hz => by rw [hz.inj I hq2]; exact hy⟩,
      ⟨b1, b2.extBut T _ D.Tz hT', ⟨_, _, b2.extBut U _ D.Uz a2⟩, a3.up fun o e => b2.extBut p o D.pz e, a4.up fun o e => b2.extBut q o D.qz e⟩, fun a ha => (hf1 a ha).1⟩
  done := by
    intro X hP hw hK hc i pins s σ H E I hf st hg
    subst hP hw hK
    obtain ⟨xs, ys, hq1, hq2, hx⟩ := hg
    obtain ⟨h1, h2, ⟨u, v, h3⟩, h4, h5⟩ := st
    obtain ⟨is1, rv1, hO1⟩ := hq1.of I
    obtain ⟨is2, rv2, hO2⟩ := hq2.of I
    have hl1 := rv1.length
    have hl2 := rv2.length
    exact zip_end (I.ok.hd hc) D h1 h2 h3 h4 h5 hO1 hO2 (by simp; omega) fun h' eb => ⟨rfl, turnedL (t' := s.toks) I (fp := [z, T, U, p, q]) (fun a o ha e => eb a o (fun r => ha (by simp [r])) (fun r => ha (by simp [r])) (fun r => ha (by simp [r])) (fun r => ha (by simp [r])) e) hf⟩
  self := fun A i s Q E st h => wpAny_pyIter_zip st.1 h
end Sb

namespace Sb
open PySem L2 PySem.Spec PyProof.Rows
theorem boot_zip : bootBuiltins "zip" = some (.type "zip") := by decide +kernel
theorem boot_enum : bootBuiltins "enumerate" = some (.type "enumerate") := by decide +kernel
theorem zp_of (n l m : Nat) (hl : l < n) (hm : m < n) : Zp (n + 4) (n + 2) (n + 3) n (n + 1) l m := by
  constructor <;> (intro h; have h : (_ : Nat) = _ := h; omega)
section
variable {X : Cx} {es : List Expr} {k0 : Nat} {tpos : Pos}
theorem pi_enum {a : Expr} {ta : TA} {p pos : Pos} (hg : Gl X "enumerate") (hm : X.mg "enumerate" = none) (ha : PA X [a] ta) (hs : starEach [a] X.env = [(false, eval a X.env)] := by rfl) :
    PI X (.Tuple es k0 tpos) (.Call (.Name "enumerate" p) [a] [] pos) (fun σ H R => ta σ H fun vs H1 => ∃ l b, vs = [.ref l] ∧ (∃ xs, SqB b X.K H1 l xs) ∧ R (Ite b X.K l) H1) := by
  intro pins s σ H R I h
  refine Call_ (ld_blt I hg hm boot_enum (PyProof.Rows.callWith_type1 (thn (ha pos pins s σ H _ I h) fun us s1 ⟨vs, H1, I1, r1, q1⟩ => ?_) hs rfl))
  obtain ⟨l, b, e, ⟨xs, hq⟩, q⟩ := q1
  subst e
  obtain ⟨u, rfl, ru⟩ := Vals.one r1
  obtain rfl : u = Value.ref l := ru
  obtain ⟨its, rv, hO⟩ := hq.of I1
  refine enum_make hO fun h' a1 a2 a3 a4 => ?_
  have I2 : L2.Inv X pins σ H1 { s1 with heap := h' } := I1.kept (t' := s1.toks) a4
  have hf : ∀ c ∈ [s1.heap.objs.size + 1, s1.heap.objs.size], FpOk X pins H1 c := fun c hc => by
    simp at hc
    rcases hc with rfl | rfl
    · exact I1.fpOk (Nat.le_succ _) (I1.hok.fresh (Nat.le_succ _))
    · exact I1.fpOk (Nat.le_refl _) (I1.hok.fresh (Nat.le_refl _))
  have T := turn_enum (P := X.prog) (w := X.w) (K := X.K) (es := es) (k0 := k0) (pos := tpos) b l (s1.heap.objs.size + 1) s1.heap.objs.size (Nat.succ_ne_self _)
  refine T.self X.A 0 { s1 with heap := h' } _ X.xe ⟨⟨_, a1⟩, a2⟩ ?_
  exact ⟨_, [s1.heap.objs.size + 1, s1.heap.objs.size], _, _, H1, rfl, I2, T, ⟨⟨_, a1⟩, a2⟩, hf, q⟩
theorem pi_zip {a a' : Expr} {ta : TA} {p pos : Pos} (hg : Gl X "zip") (hm : X.mg "zip" = none) (ha : PA X [a, a'] ta) (hs : starEach [a, a'] X.env = [(false, eval a X.env), (false, eval a' X.env)] := by rfl) (hs2 : starEach [a'] X.env = [(false, eval a' X.env)] := by rfl) :
    PI X (.Tuple es k0 tpos) (.Call (.Name "zip" p) [a, a'] [] pos) (fun σ H R => ta σ H fun vs H1 => ∃ l m b c, vs = [.ref l, .ref m] ∧ (∃ xs, SqB b X.K H1 l xs) ∧ (∃ xs, SqB c X.K H1 m xs) ∧ R (Itz b c X.K l m) H1) := by
  intro pins s σ H R I h
  refine Call_ (ld_blt I hg hm boot_zip (PyProof.Rows.callWith_type1 (thn (ha pos pins s σ H _ I h) fun us s1 ⟨vs, H1, I1, r1, q1⟩ => ?_) (by rw [hs, hs2]) (by rw [hs2]; rfl)))
  obtain ⟨l, m, b, c, e, ⟨xs, hq⟩, ⟨ys, hq'⟩, q⟩ := q1
  subst e
  obtain ⟨u, v, rfl, ru, rv'⟩ := Vals.two r1
  obtain rfl : u = Value.ref l := ru
  obtain rfl : v = Value.ref m := rv'
  obtain ⟨its, rv, hO⟩ := hq.of I1
  obtain ⟨its', rv', hO'⟩ := hq'.of I1
  refine zip_make hO hO' fun h' a1 a2 a3 a4 a5 a6 a7 => ?_
  have I2 : L2.Inv X pins σ H1 { s1 with heap := h' } := I1.kept (t' := s1.toks) a7
  have hf : ∀ d ∈ [s1.heap.objs.size + 4, s1.heap.objs.size + 2, s1.heap.objs.size + 3, s1.heap.objs.size, s1.heap.objs.size + 1], FpOk X pins H1 d := fun d hd => by
    simp at hd
    have : s1.heap.objs.size ≤ d := by omega
    exact I1.fpOk this (I1.hok.fresh this)
  have ll : l < s1.heap.objs.size := by obtain ⟨o, n, e, _⟩ := hO.data; exact Heap.lt_size e
  have lm : m < s1.heap.objs.size := by obtain ⟨o, n, e, _⟩ := hO'.data; exact Heap.lt_size e
  have D : Zp (s1.heap.objs.size + 4) (s1.heap.objs.size + 2) (s1.heap.objs.size + 3) s1.heap.objs.size (s1.heap.objs.size + 1) l m := zp_of _ _ _ ll lm
  have T := turn_zip (P := X.prog) (w := X.w) (K := X.K) (es := es) (k0 := k0) (pos := tpos) b c _ _ _ _ _ l m D
  refine T.self X.A 0 { s1 with heap := h' } _ X.xe ⟨a1, a2, ⟨_, _, a3⟩, a4, a5⟩ ?_
  exact ⟨_, [s1.heap.objs.size + 4, s1.heap.objs.size + 2, s1.heap.objs.size + 3, s1.heap.objs.size, s1.heap.objs.size + 1], _, _, H1, rfl, I2, T, ⟨a1, a2, ⟨_, _, a3⟩, a4, a5⟩, hf, q⟩
end
end Sb
namespace Sm
open PySem L2 PySem.Spec PyProof.Rows
def enumL : Nat → List D → List D
  | _, [] => []
  | k, x :: r => .tup [.int (k : Int), x] :: enumL (k + 1) r
def zipL : List D → List D → List D
  | x :: r, y :: s => .tup [x, y] :: zipL r s
  | _, _ => []
theorem enumL_get : ∀ (xs : List D) (k i : Nat), (enumL k xs)[i]? = (xs[i]?).map fun x => .tup [.int ((k + i : Nat) : Int), x]
  | [], k, i => by simp [enumL]
  | x :: r, k, 0 => by simp [enumL]
  | x :: r, k, i + 1 => by
    show (enumL (k + 1) r)[i]? = _
    rw [enumL_get r (k + 1) i]
    simp only [List.getElem?_cons_succ]
    congr 1
    funext y
    rw [show k + 1 + i = k + (i + 1) by omega]
theorem enumL_length : ∀ (xs : List D) (k : Nat), (enumL k xs).length = xs.length
  | [], _ => rfl
  | _ :: r, k => by simp [enumL, enumL_length r (k + 1)]
theorem zipL_get : ∀ (xs ys : List D) (i : Nat), (zipL xs ys)[i]? = (xs[i]?).bind fun x => (ys[i]?).map fun y => .tup [x, y]
  | [], _, i => by simp [zipL]
  | _ :: _, [], i => by simp [zipL]
  | x :: r, y :: s, 0 => by simp [zipL]
  | x :: r, y :: s, i + 1 => by
    show (zipL r s)[i]? = _
    rw [zipL_get r s i]
    simp
theorem zipL_length : ∀ (xs ys : List D), (zipL xs ys).length = min xs.length ys.length
  | [], _ => by simp [zipL]
  | _ :: _, [] => by simp [zipL]
  | x :: r, y :: s => by simp [zipL, zipL_length r s]
theorem SeqAt.sqB {K : PySem.W.Frag} {H : Hp} {a : Addr} {vs : List V} {b : Bool} (q : SeqAt K H a vs b) : Sb.SqB b K H a vs := by
  cases q with
  | l q => exact q
  | t q => exact q
theorem chk_append {ws ws' : W} {h : MH} (hc : chk (ws ++ ws') h = true) : chk ws h = true ∧ chk ws' h = true := by
  induction ws with
  | nil => exact ⟨rfl, hc⟩
  | cons x r ih =>
    obtain ⟨n, o⟩ := x
    simp only [List.cons_append, chk, Bool.and_eq_true] at hc ⊢
    obtain ⟨h1, h2⟩ := ih hc.2
    exact ⟨⟨hc.1, h1⟩, h2⟩
def iEnum (m : AM) : IM := fun δ h => (m δ h).bind fun p => match p.1 with
  | [d] => (seqD d p.2).map fun q => (enumL 0 q.1, q.2, p.2)
  | _ => none
def iZip (m : AM) : IM := fun δ h => (m δ h).bind fun p => match p.1 with
  | [d, e] => (seqD d p.2).bind fun q => (seqD e p.2).map fun r => (zipL q.1 r.1, q.2 ++ r.2, p.2)
  | _ => none
section
variable {X : Cx} {es : List Expr} {k0 : Nat} {tpos : Pos} {a b : Expr} {p pos : Pos} {m : AM}
theorem si_enum (hg : Gl X "enumerate") (hm : X.mg "enumerate" = none) (ha : SA X [a] m) (hl : ALen m 1) (hs : starEach [a] X.env = [(false, eval a X.env)] := by rfl) : SI X (.Tuple es k0 tpos) (.Call (.Name "enumerate" p) [a] [] pos) (iEnum m) :=
  (Sb.pi_enum hg hm ha hs).imp fun σ H Q ⟨ρ, δ, h, xs, ws, h', R, S, e, k⟩ => by
    obtain ⟨⟨ds, h1⟩, e1, e2⟩ := bnd e
    refine ⟨ρ, δ, h, ds, h1, R, S, e1, fun vs ρ1 H1 T1 S1 r1 => ?_⟩
    match ds, hl _ _ _ _ e1, e2, r1 with
    | [d], _, e2, r1 =>
      obtain ⟨⟨ys, w⟩, e3, e4⟩ := mpd e2
      cases e4
      obtain ⟨v, rfl, rd⟩ := rep1 r1
      obtain ⟨a, rfl, ⟨us, q, l⟩, st⟩ := seq_of S1 rd e3
      refine ⟨a, isLs d, rfl, ⟨us, q.sqB⟩, k _ ρ1 H1 T1 S1 ⟨fun ρ2 H2 h2 T2 S2 hc i => ?_⟩⟩
      obtain ⟨ws, l2, q2⟩ := st ρ2 H2 h2 T2 S2 hc
      refine ⟨fun hi => ⟨ws, q2.sqB, by rw [l2.length]; rw [enumL_length] at hi; exact hi⟩, fun x hx => ?_⟩
      rw [enumL_get] at hx
      obtain ⟨y, ey, hx⟩ := mpd hx
      subst hx
      obtain ⟨v, ev, rv⟩ := l2.got ey
      refine ⟨⟨ws, v, q2.sqB, ev⟩, fun u H3 ⟨p, y', hp, hu, hH, hy⟩ => ?_⟩
      subst hu; subst hH
      have hy' : y' = v := by have := hy ws q2.sqB; rw [ev] at this; exact (Option.some.inj this).symm
      subst hy'
      refine ⟨Stp.laid S2 hp, S2.laid hp, .tup (.inl ⟨.inl upd_same, S2.fresh hp⟩) (.cons ?_ (.cons (rv.mono (Stp.laid S2 hp).toCh) .nil))⟩
      rw [Nat.zero_add]
      exact .int _
theorem si_zip (hg : Gl X "zip") (hm : X.mg "zip" = none) (ha : SA X [a, b] m) (hl : ALen m 2) (hs : starEach [a, b] X.env = [(false, eval a X.env), (false, eval b X.env)] := by rfl) (hs2 : starEach [b] X.env = [(false, eval b X.env)] := by rfl) :
    SI X (.Tuple es k0 tpos) (.Call (.Name "zip" p) [a, b] [] pos) (iZip m) :=
  (Sb.pi_zip hg hm ha hs hs2).imp fun σ H Q ⟨ρ, δ, h, xs, ws, h', R, S, e, k⟩ => by
    obtain ⟨⟨ds, h1⟩, e1, e2⟩ := bnd e
    refine ⟨ρ, δ, h, ds, h1, R, S, e1, fun vs ρ1 H1 T1 S1 r1 => ?_⟩
    match ds, hl _ _ _ _ e1, e2, r1 with
    | [d, d'], _, e2, r1 =>
      obtain ⟨⟨ys, w⟩, e3, e4⟩ := bnd e2
      obtain ⟨⟨zs, w'⟩, e5, e6⟩ := mpd e4
      cases e6
      obtain ⟨v, v', rfl, rd, rd'⟩ := rep2 r1
      obtain ⟨a, rfl, ⟨us, q, l⟩, st⟩ := seq_of S1 rd e3
      obtain ⟨a', rfl, ⟨us', q', l'⟩, st'⟩ := seq_of S1 rd' e5
      refine ⟨a, a', isLs d, isLs d', rfl, ⟨us, q.sqB⟩, ⟨us', q'.sqB⟩, k _ ρ1 H1 T1 S1 ⟨fun ρ2 H2 h2 T2 S2 hc i => ?_⟩⟩
      obtain ⟨c1, c2⟩ := chk_append hc
      obtain ⟨ws, l2, q2⟩ := st ρ2 H2 h2 T2 S2 c1
      obtain ⟨ws', l2', q2'⟩ := st' ρ2 H2 h2 T2 S2 c2
      refine ⟨fun hi => ⟨ws, ws', q2.sqB, q2'.sqB, by rw [l2.length, l2'.length]; rw [zipL_length] at hi; dsimp only at hi; omega⟩, fun x hx => ?_⟩
      rw [zipL_get] at hx
      obtain ⟨y, ey, hx⟩ := bnd hx
      obtain ⟨y', ey', hx⟩ := mpd hx
      subst hx
      obtain ⟨v, ev, rv⟩ := l2.got ey
      obtain ⟨v', ev', rv'⟩ := l2'.got ey'
      refine ⟨⟨ws, ws', v, v', q2.sqB, q2'.sqB, ev, ev'⟩, fun u H3 ⟨p, x1, x2, hp, hu, hH, hy1, hy2⟩ => ?_⟩
      subst hu; subst hH
      have z1 : x1 = v := by have := hy1 ws q2.sqB; rw [ev] at this; exact (Option.some.inj this).symm
      have z2 : x2 = v' := by have := hy2 ws' q2'.sqB; rw [ev'] at this; exact (Option.some.inj this).symm
      subst z1; subst z2
      exact ⟨Stp.laid S2 hp, S2.laid hp, .tup (.inl ⟨.inl upd_same, S2.fresh hp⟩) (.cons (rv.mono (Stp.laid S2 hp).toCh) (.cons (rv'.mono (Stp.laid S2 hp).toCh) .nil))⟩
end
end Sm

namespace Sm
open PySem L2 PySem.Spec PyProof.Rows
/-! ### == of dicts -/
def eqRows (ls : List (Key × D)) : List (Key × D) → Option Bool
  | [] => some true
  | (k, v) :: r => match valD ls k with
    | none => some false
    | some u => (pyD v).bind fun a => (pyD u).bind fun b => if a.depth ≤ 60 ∧ b.depth ≤ 60 then (eqRows ls r).map fun c => PyData.eqv a b && c else none
def dictEq (ks ls : List (Key × D)) : Option Bool := if ks.length = ls.length then eqRows ls ks else some false
def eqA (d e : D) (h : MH) : Option Bool := match dctO d h, dctO e h with
  | some ks, some ls => dictEq ks ls
  | _, _ => eqD d e h
def fEqA (d e : D) (h : MH) : Option (D × MH) := (eqA d e h).map fun c => (.bl c, h)
def fNeA (d e : D) (h : MH) : Option (D × MH) := (eqA d e h).map fun c => (.bl (!c), h)
section
variable {X : Cx}
theorem RepK.keyv {K : PySem.W.Frag} {ρ : Ad} {H : Hp} : ∀ {us : List (Key × V)} {ks : List (Key × D)}, RepK K ρ H us ks → us.map (·.1) = ks.map (·.1)
  | _, _, .nil => rfl
  | _, _, .cons _ l => by rw [List.map_cons, List.map_cons, RepK.keyv l]
theorem hits_of {pins : List (Addr × Obj)} {σ : L2.St} {H : Hp} {s : Shared} {ρ : Ad} (hu : X.A.units + 64 < cLine) (I : L2.Inv X pins σ H s) {vs : List (Key × V)} {ls : List (Key × D)} {kb : List (Key × Value)} (lb : RepK X.K ρ H vs ls) (rb : KV vs kb) :
    ∀ {us : List (Key × V)} {ks : List (Key × D)} {ka : List (Key × Value)} {c : Bool}, RepK X.K ρ H us ks → KV us ka → eqRows ls ks = some c → PySem.W.KeqHits X.A.in1 s kb ka c
  | _, _, _, c, .nil, ra, e => by
    cases ra
    cases e
    exact .nil
  | _, _, _, c, .cons (k := k) (v := v) (d := d) r l, ra, e => by
    cases ra with
    | cons ra rr =>
      rename_i p ka
      obtain ⟨k', y⟩ := p
      obtain ⟨ek, ry⟩ := ra
      dsimp only at ek ry
      subst ek
      simp only [eqRows] at e
      have rel := rb.val k
      rcases lb.val k with ⟨h1, h2⟩ | ⟨d', v', h1, h2, r'⟩
      · rw [h1] at e
        cases e
        rw [h2] at rel
        refine .miss ?_
        cases q : valueAt kb k with
        | none => rfl
        | some _ => rw [q] at rel; exact rel.elim
      · rw [h1] at e
        obtain ⟨a, e1, e⟩ := bnd e
        obtain ⟨b, e2, e⟩ := bnd e
        by_cases z : a.depth ≤ 60 ∧ b.depth ≤ 60
        · rw [if_pos z] at e
          obtain ⟨c', e3, e4⟩ := mpd e
          subst e4
          rw [h2] at rel
          cases q : valueAt kb k with
          | none => rw [q] at rel; exact rel.elim
          | some y' =>
            rw [q] at rel
            obtain ⟨r1, c1⟩ := r.rds e1
            obtain ⟨r2, c2⟩ := r'.rds e2
            obtain ⟨as, ra1⟩ := r1.reads I ry
            obtain ⟨bs, ra2⟩ := r2.reads I rel
            refine .hit q (PySem.SeqAt.eqAt_reads a b _ s y y' as bs ra1 ra2 c1 c2 ?_) (hits_of hu I lb rb l rr e3)
            have : min a.depth b.depth ≤ a.depth := Nat.min_le_left _ _
            show X.A.units + 1 + min a.depth b.depth < cLine
            omega
        · rw [if_neg z] at e; cases e
theorem eqA_of {pins : List (Addr × Obj)} {σ : L2.St} {H : Hp} {s : Shared} {ρ : Ad} {h : MH} {x y : V} {v u : Value} {d e : D} {c : Bool} (hu : X.A.units + 64 < cLine) (I : L2.Inv X pins σ H s) (rx : L2.RelV x v) (ry : L2.RelV y u) (S : Sim X.K ρ h H) (rd : Rep X.K ρ H x d) (re : Rep X.K ρ H y e) (ee : eqA d e h = some c) :
    (∀ Q : Value → Shared → Prop, Q (.bool c) s → wpAny (model X.prog X.w) X.A (compareOp .Eq v u) Q X.xe s) ∧ ∀ Q : Value → Shared → Prop, Q (.bool (!c)) s → wpAny (model X.prog X.w) X.A (compareOp .NotEq v u) Q X.xe s := by
  have data : eqD d e h = some c → (∀ Q : Value → Shared → Prop, Q (.bool c) s → wpAny (model X.prog X.w) X.A (compareOp .Eq v u) Q X.xe s) ∧ ∀ Q : Value → Shared → Prop, Q (.bool (!c)) s → wpAny (model X.prog X.w) X.A (compareOp .NotEq v u) Q X.xe s := by
    intro ee
    obtain ⟨a, e3, e4⟩ := bnd ee
    obtain ⟨b, e5, e6⟩ := bnd e4
    by_cases w : a.depth ≤ 64 ∧ b.depth ≤ 64
    · rw [if_pos w] at e6; cases e6
      obtain ⟨r1, c1⟩ := rdD_rds S rd e3
      obtain ⟨r2, c2⟩ := rdD_rds S re e5
      obtain ⟨as, ra⟩ := r1.reads I rx
      obtain ⟨bs, rb⟩ := r2.reads I ry
      exact ⟨fun Q q => eq_dataH ra rb (eq_shaped c1 w.1) (eq_shaped c2 w.2) hu q, fun Q q => ne_dataH ra rb (eq_shaped c1 w.1) (eq_shaped c2 w.2) hu q⟩
    · rw [if_neg w] at e6; cases e6
  unfold eqA at ee
  cases q1 : dctO d h with
  | none => rw [q1] at ee; exact data ee
  | some ks =>
    cases q2 : dctO e h with
    | none => rw [q1, q2] at ee; exact data ee
    | some ls =>
      rw [q1, q2] at ee
      obtain ⟨a, us, rfl, ha, la⟩ := dctO_of S rd q1
      obtain ⟨b, ws, rfl, hb, lb⟩ := dctO_of S re q2
      obtain rfl : v = Value.ref a := rx
      obtain rfl : u = Value.ref b := ry
      obtain ⟨_, na, ka, ra, da⟩ := dk_of I.hok ha
      obtain ⟨_, nb, kb, rb, db⟩ := dk_of I.hok hb
      have l1 : ka.length = ks.length := by rw [← la.length]; exact (Paired.length ra).symm
      have l2 : kb.length = ls.length := by rw [← lb.length]; exact (Paired.length rb).symm
      dsimp only [dictEq] at ee
      by_cases z : ks.length = ls.length
      · rw [if_pos z] at ee
        have hits := hits_of hu I lb rb la ra ee
        have ez : (ka.length == kb.length && c) = c := by rw [l1, l2, z, beq_self_eq_true, Bool.true_and]
        exact ⟨fun Q q => PySem.W.keq_eq na nb da db (by omega) (fun _ => hits) (by rw [ez]; exact q), fun Q q => PySem.W.keq_ne na nb da db (by omega) (fun _ => hits) (by rw [ez]; exact q)⟩
      · rw [if_neg z] at ee
        cases ee
        have ez : (ka.length == kb.length && false) = false := Bool.and_false _
        have nh : ka.length = kb.length → PySem.W.KeqHits X.A.in1 s kb ka false := fun q => absurd (by rw [← l1, ← l2]; exact q) z
        exact ⟨fun Q q => PySem.W.keq_eq na nb da db (by omega) nh (by rw [ez]; exact q), fun Q q => PySem.W.keq_ne na nb da db (by omega) nh (by rw [ez]; exact q)⟩
theorem os_eqA (hu : X.A.units + 64 < cLine) : OpS X (compareOp .Eq) fEqA := by
  intro pins s σ H x y v u Q I rx ry hh
  obtain ⟨ρ, h, d, e, z, h', S, rd, re, ee, k⟩ := hh
  obtain ⟨c, e1, e2⟩ := mpd ee
  cases e2
  exact (eqA_of hu I rx ry S rd re e1).1 _ ⟨.bl _, H, I, rfl, k _ _ (.here S (.bl _))⟩
theorem os_neA (hu : X.A.units + 64 < cLine) : OpS X (compareOp .NotEq) fNeA := by
  intro pins s σ H x y v u Q I rx ry hh
  obtain ⟨ρ, h, d, e, z, h', S, rd, re, ee, k⟩ := hh
  obtain ⟨c, e1, e2⟩ := mpd ee
  cases e2
  exact (eqA_of hu I rx ry S rd re e1).2 _ ⟨.bl _, H, I, rfl, k _ _ (.here S (.bl _))⟩
/-! ### dict(pairs) -/
def pairsD : List D → Option (List (Key × D))
  | [] => some []
  | .tup [k, v] :: r => (keyD k).bind fun k => (pairsD r).map fun q => (k, v) :: q
  | _ => none
def mergeD (acc : List (Key × D)) (ps : List (Key × D)) : List (Key × D) := ps.foldl (fun a p => putD a p.1 p.2) acc
def fDictA : Fn := fun ds h => match ds with
  | [d] => match dctO d h with
    | some kvs => some (.dv kvs, h)
    | none => (lstO d h).bind fun xs => (pairsD xs).bind fun ps => if xs.length ≤ 1000000 then some (.dv (mergeD [] ps), h) else none
  | _ => none
theorem pairs_of {K : PySem.W.Frag} {ρ : Ad} {H : Hp} : ∀ {vs : List V} {xs : List D} {ps : List (Key × D)}, RepL K ρ H vs xs → pairsD xs = some ps → ∃ kvs, PairsAt K H vs kvs ∧ RepK K ρ H kvs ps
  | _, _, _, .nil, e => by cases e; exact ⟨[], .nil, .nil⟩
  | _, _, _, .cons r l, e => by
    cases r <;> first | (cases e; done) | skip
    rename_i a ws ds h0 l0
    match ds, l0, e with
    | [], _, e => cases e
    | [_], _, e => cases e
    | _ :: _ :: _ :: _, _, e => cases e
    | [k, v], l0, e =>
      obtain ⟨ky, e1, e2⟩ := bnd e
      obtain ⟨q, e3, e4⟩ := mpd e2
      subst e4
      obtain ⟨x, y, rfl, rk, rv⟩ := rep2 l0
      obtain ⟨kvs, p1, p2⟩ := pairs_of l e3
      have ek := keyD_of rk e1
      subst ek
      exact ⟨(ky, y) :: kvs, .cons ⟨a, rfl, h0.sq⟩ p1, .cons rv p2⟩
theorem RepK.merge {K : PySem.W.Frag} {ρ : Ad} {H : Hp} : ∀ {kvs : List (Key × V)} {ps : List (Key × D)} {acc : List (Key × V)} {ac : List (Key × D)}, RepK K ρ H acc ac → RepK K ρ H kvs ps → RepK K ρ H (mergeK acc kvs) (mergeD ac ps)
  | _, _, _, _, a, .nil => a
  | _, _, acc, ac, a, .cons (k := k) (v := v) (d := d) r l => RepK.merge (acc := putK acc k v) (ac := putD ac k d) (a.put r) l
theorem cs_dictA (hc : X.calm = true) : CallS X (.type "dict") fDictA := by
  intro pins s σ H xs us Q I r hh
  obtain ⟨ρ, h, ds, z, h', S, l, ee, k⟩ := hh
  match ds, l, ee with
  | [], _, ee => cases ee
  | _ :: _ :: _, _, ee => cases ee
  | [d], l, ee =>
    obtain ⟨v, rfl, rd⟩ := rep1 l
    unfold fDictA at ee
    dsimp only at ee
    cases q : dctO d h with
    | some kvs =>
      rw [q] at ee
      cases ee
      obtain ⟨a, ws, rfl, ha, lk⟩ := dctO_of S rd q
      obtain ⟨u, rfl, ru⟩ := Vals.one r
      obtain rfl : u = Value.ref a := ru
      exact d_copyOf I (.inl ha) fun p s' hp I' => ⟨.ref p, _, I', rfl, k _ _ (.dv S lk hp)⟩
    | none =>
      rw [q] at ee
      obtain ⟨ys, e1, e2⟩ := bnd ee
      obtain ⟨ps, e3, e4⟩ := bnd e2
      by_cases c : ys.length ≤ 1000000
      · rw [if_pos c] at e4; cases e4
        obtain ⟨a, vs, rfl, ha, l2⟩ := lstO_of S rd e1
        obtain ⟨kvs, p1, p2⟩ := pairs_of l2 e3
        exact call_dictPairs hc pins s σ H _ us Q I r ⟨a, vs, kvs, rfl, ha, p1, by rw [l2.length]; exact c, fun q hq => k _ _ (.dv S (RepK.merge .nil p2) hq)⟩
      · rw [if_neg c] at e4; cases e4
/-! ### two keywords alone, turned about -/
def swap2 (F : Fn) : Fn := fun ds h => match ds with
  | [a, b] => F [b, a] h
  | _ => none
theorem se_callK2 {k : Nat} {f : Addr} {fd : FuncData} {F : Fn} {x n1 n2 : Str} {p p1 p2 pos : Pos} {e1 e2 : Expr} {m1 m2 : EM} (G : FnOk X.prog X.w X.K X.mg X.base CX0 k f fd [n2, n1] (spF X.K 2 F)) (hr : Room k X.A) (hg : Gl X x) (hm : X.mg x = some (.ref f)) (hk : PySem.W.keepIn X.K (.ref f) = true)
    (hb : ∀ u v, bindArgs fd ⟨[], [(n1, u), (n2, v)]⟩ = pure [(n2, v), (n1, u)]) (h1 : SE X e1 m1) (h2 : SE X e2 m2) (hdb : (x == ("__debug__" : Str)) = false := by decide) : SE X (.Call (.Name x p) [] [⟨some n1, e1, p1⟩, ⟨some n2, e2, p2⟩] pos) (eFn (swap2 F) (aCons m1 (aCons m2 aNil))) := by
  intro pins s σ H Q I hh
  obtain ⟨ρ, δ, h, d, h', R, S, e, q⟩ := hh
  obtain ⟨⟨ds, h3⟩, ea, eb⟩ := bnd e
  obtain ⟨⟨a, h4⟩, ec, ed⟩ := bnd ea
  obtain ⟨⟨bs, h5⟩, ef, eg⟩ := bnd ed
  cases eg
  obtain ⟨⟨b, h6⟩, ei, ej⟩ := bnd ef
  cases ej
  refine wpAny_Call_Name_kw (ld_glob I hg hm ?_ hdb)
  refine PySem.W.callWith_KW0 (h₀ := X.base) I.ok.mod.kin hk rfl (thn (pk_cons h1 (pk_cons h2 pk_nil) pos pins s σ H (fun zs H2 => ∃ v u, zs = [v, u] ∧ ∃ ρ2, Stp ρ H ρ2 H2 ∧ Sim X.K ρ2 h6 H2 ∧ Rep X.K ρ2 H2 v a ∧ Rep X.K ρ2 H2 u b) I ?_) fun ws s2 ⟨zs, H2, I2, rz, v, u, ez, ρ2, T2, S2, ra, rb⟩ => ⟨I2.kIn, ?_⟩) rfl
  · exact ⟨ρ, δ, h, a, h4, R, S, ec, fun v H1 ⟨ρ1, T1, S1, r1⟩ => ⟨ρ1, δ, h4, b, h6, R.mono T1, S1, ei, fun u H2 ⟨ρ2, T2, S2, r2⟩ => ⟨v, u, rfl, ρ2, T1.trans T2, S2, r1.mono T2, r2⟩⟩⟩
  · subst ez
    obtain ⟨w1, w2, rfl, rw1, rw2⟩ := Vals.two rz
    refine wpAny_call (codeAny_mono (G.run X.A X.stack s2 H2 ⟨[], [(n1, w1), (n2, w2)]⟩ [w2, w1] [u, v] Q E0 hr I2.env0 (.of_eq (hb w1 w2)) (.cons rw2 (.cons rw1 .nil)) ⟨ρ2, h6, [b, a], d, h', S2, .cons rb (.cons ra .nil), rfl, eb, fun v H' P => q v H' (P.step T2)⟩) fun r s' hq => ?_)
    cases r with
    | error e => exact hq.elim
    | ok fl =>
      cases fl with
      | ret u => exact I2.after hq
      | next => exact False.elim hq
      | brk => exact False.elim hq
      | cont => exact False.elim hq
/-! ### x += e -/
theorem ss_aug {i : Nat} {x : Str} {e : Expr} {ma : EM} {op : Operator} {f : D → D → MH → Option (D × MH)} {pos pos' : Pos} (hN : X.N.Nodup) (hi : X.N[i]? = some x) (hx : Loc X.env.scope x) (he : SE X e ma) (ho : PIp X op (rS X.K f))
    (hf : X.fn x = true ∨ X.env.scope.names.lookup x = some .local := by first | exact .inl rfl | exact .inr rfl | assumption) : SS X (.AugAssign (.Name x pos') op e pos) (sAug i f ma) :=
  (ps_aug hN hi hx he ho hf).imp fun E σ H ⟨ρ, δ, h, fl, δ', h', R, S, e, k⟩ => by
    obtain ⟨d, e1, e2⟩ := bnd e
    obtain ⟨⟨y, h1⟩, e3, e4⟩ := bnd e2
    obtain ⟨⟨z, h2⟩, e5, e6⟩ := bnd e4
    cases e6
    obtain ⟨v, ev, r⟩ := R.at_ i d (Option.join_eq_some_iff.mp e1)
    exact ⟨v, ev, ρ, δ, h, y, h1, R, S, e3, fun u H1 ⟨ρ1, T1, S1, r1⟩ => ⟨ρ1, h1, d, y, z, h2, S1, r.mono T1, r1, e5, fun w H2 ⟨ρ2, T2, S2, r2⟩ => k ρ2 H2 (T1.trans T2) S2 _ ((R.mono (T1.trans T2).toCh).set r2 i)⟩⟩
theorem ips_int {op : Operator} {q : Int → Int → V} {f : D → D → MH → Option (D × MH)} (ho : OpR X (inplaceOp op) (rI0 q))
    (hf : ∀ d e h z h', f d e h = some (z, h') → ∃ i j, d = .int i ∧ e = .int j ∧ h' = h ∧ ∀ ρ H, Rep X.K ρ H (q i j) z) : PIp X op (rS X.K f) := op_int0 ho hf
def iAdd (d e : D) (h : MH) : Option (D × MH) := match d, e with
  | .int i, .int j => some (.int (i + j), h)
  | _, _ => none
theorem ip_addS : PIp X .Add (rS X.K iAdd) := ips_int iop_add fun d e h z h' ee => by
  cases d <;> first | (cases ee; done) | skip
  cases e <;> first | (cases ee; done) | skip
  cases ee; exact ⟨_, _, rfl, rfl, rfl, fun _ _ => .int _⟩
theorem ip_subS : PIp X .Sub (rS X.K fSub) := ips_int iop_sub fun d e h z h' ee => by
  cases d <;> first | (cases ee; done) | skip
  cases e <;> first | (cases ee; done) | skip
  cases ee; exact ⟨_, _, rfl, rfl, rfl, fun _ _ => .int _⟩
end
end Sm

namespace Sm
open PySem L2 PySem.Spec PyProof.Rows
theorem bo_list : bootBuiltins "list" = some (.type "list") := by decide +kernel
theorem bo_tuple : bootBuiltins "tuple" = some (.type "tuple") := by decide +kernel
theorem bo_dict : bootBuiltins "dict" = some (.type "dict") := by decide +kernel
theorem bo_bool : bootBuiltins "bool" = some (.type "bool") := by decide +kernel
theorem bo_int : bootBuiltins "int" = some (.type "int") := by decide +kernel
theorem bo_str : bootBuiltins "str" = some (.type "str") := by decide +kernel
theorem bo_len : bootBuiltins "len" = some (.builtin "len") := by decide +kernel
theorem bo_abs : bootBuiltins "abs" = some (.builtin "abs") := by decide +kernel
theorem bo_isinstance : bootBuiltins "isinstance" = some (.builtin "isinstance") := by decide +kernel
theorem bo_all : bootBuiltins "all" = some (.builtin "all") := by decide +kernel
theorem bo_any : bootBuiltins "any" = some (.builtin "any") := by decide +kernel
/-! ### short words -/
section
variable {X : Cx} {pos : Pos}
theorem sv (i : Nat) {x : Str} (hN : X.N[i]? = some x := by rfl) (hv : Vis X.env.scope x := by first | exact Or.inl rfl | exact Or.inr (Or.inl rfl) | exact Or.inr (Or.inr rfl)) (hd : (x == ("__debug__" : Str)) = false := by decide)
    (hcd : (x == ("__classdict__" : Str)) = false := by decide) : SE X (.Name x pos) (eVar i) := se_var hN hv hd hcd
theorem sset (i : Nat) {x : Str} {pos' : Pos} {e : Expr} {ma : EM} (hN : X.N.Nodup) (he : SE X e ma) (hi : X.N[i]? = some x := by rfl) (hx : Loc X.env.scope x := by first | exact Or.inl rfl | exact Or.inr rfl) (hs : swapsWith e (some (.Name x pos')) pos.line X.env = pure false := by rfl)
    (hf : X.fn x = true ∨ X.env.scope.names.lookup x = some .local := by first | exact .inl rfl | exact .inr rfl) : SS X (.Assign [.Name x pos'] e pos) (sSet i ma) := ss_set hN hi hx he hs hf
theorem sgn (i : Nat) {x : Str} (hN : X.N.Nodup) (hi : X.N[i]? = some x := by rfl) (hx : Loc X.env.scope x := by first | exact Or.inl rfl | exact Or.inr rfl) (hf : X.fn x = true ∨ X.env.scope.names.lookup x = some .local := by first | exact .inl rfl | exact .inr rfl) : SG X (.Name x pos) (gN i) := sg_name hN hi hx hf
theorem saug (i : Nat) {x : Str} {pos' : Pos} {e : Expr} {ma : EM} {op : Operator} {f : D → D → MH → Option (D × MH)} (hN : X.N.Nodup) (he : SE X e ma) (ho : PIp X op (rS X.K f)) (hi : X.N[i]? = some x := by rfl) (hx : Loc X.env.scope x := by first | exact Or.inl rfl | exact Or.inr rfl)
    (hf : X.fn x = true ∨ X.env.scope.names.lookup x = some .local := by first | exact .inl rfl | exact .inr rfl) : SS X (.AugAssign (.Name x pos') op e pos) (sAug i f ma) := ss_aug hN hi hx he ho hf
def sPar (i j : Nat) (m : AM) : SM := fun δ h => (m δ h).bind fun p => match p.1 with
  | [a, b] => some (.nx, (δ.set i (some a)).set j (some b), p.2)
  | _ => none
theorem spar (i j : Nat) {x y : Str} {a b : Expr} {m : AM} {px py pt : Pos} {kt k2 pt2} (hN : X.N.Nodup) (hl : ALen m 2) (hc : X.calm = true) (hij : i ≠ j) (P : PS X (.Assign [.Tuple [.Name x px, .Name y py] kt pt] (.Tuple [a, b] k2 pt2) pos) (tPar i j (tMA X.K m))) :
    SS X (.Assign [.Tuple [.Name x px, .Name y py] kt pt] (.Tuple [a, b] k2 pt2) pos) (sPar i j m) := P.imp fun E σ H ⟨ρ, δ, h, fl, δ', h', R, S, e, k⟩ => by
  obtain ⟨⟨ds, h1⟩, e1, e2⟩ := bnd e
  refine ⟨ρ, δ, h, ds, h1, R, S, e1, fun vs ρ1 H1 T1 S1 r1 => ?_⟩
  match ds, hl _ _ _ _ e1, e2, r1 with
  | [d, d'], _, e2, r1 =>
    cases e2
    obtain ⟨v, u, rfl, rd, rd'⟩ := rep2 r1
    exact ⟨v, u, rfl, k ρ1 H1 T1 S1 _ (((R.mono T1.toCh).set rd i).set rd' j)⟩
/-- a def of the text, by its mirror -/
structure Df (P : Program) (w : World) (K : PySem.W.Frag) (mg : Str → Option Value) (base : Heap) (nm : Str) (k : Nat) (ps : List Str) (n : Nat) (F : Fn) : Prop where
  ex : ∃ (f : Addr) (fd : FuncData), FnOk P w K mg base CX0 k f fd ps (spF K n F) ∧ PySem.W.keepIn K (.ref f) = true ∧ Binds K fd ps [] ∧ mg nm = some (.ref f)
theorem scall {nm : Str} {k k' n : Nat} {ps : List Str} {F : Fn} {e : Expr} {es : List Expr} {p : Pos} {m : AM} (d : Df X.prog X.w X.K X.mg X.base nm k ps n F) (hr : Room k' X.A) (hk : k ≤ k') (ha : SA X (e :: es) m) (hl : ALen m n) (hg : Gl X nm := by rfl) (hdb : (nm == ("__debug__" : Str)) = false := by decide)
    (he : starEach (e :: es) X.env = (false, eval e X.env) :: starEach es X.env := by rfl) (hpl : (backTo pos (starEach es X.env)).any (·.1) = false := by rfl) : SE X (.Call (.Name nm p) (e :: es) [] pos) (eFn F m) := by
  obtain ⟨f, fd, G, kf, bf, mf⟩ := d.ex
  exact se_call G (hr.mono hk) hg mf kf bf ha hl hdb he hpl
theorem none_ok {P : Program} {w : World} {K : PySem.W.Frag} {mg : Str → Option Value} {base : Heap} {k n : Nat} {f : Addr} {fd : FuncData} {ps : List Str} : FnOk P w K mg base CX0 k f fd ps (spF K n fun _ _ => none) :=
  ⟨fun vs H Q E hh => (by obtain ⟨_, _, _, _, _, _, _, _, e, _⟩ := hh; cases e), fun A outer s H args us vs Q E _ _ _ _ hh => (by obtain ⟨_, _, _, _, _, _, _, _, e, _⟩ := hh; cases e)⟩
/-- a def of two parameters that is called by their names, the second one first -/
structure Dk (P : Program) (w : World) (K : PySem.W.Frag) (mg : Str → Option Value) (base : Heap) (nm : Str) (k : Nat) (n2 n1 : Str) (F : Fn) : Prop where
  ex : ∃ (f : Addr) (fd : FuncData), FnOk P w K mg base CX0 k f fd [n2, n1] (spF K 2 F) ∧ PySem.W.keepIn K (.ref f) = true ∧ mg nm = some (.ref f) ∧ ∀ u v, bindArgs fd ⟨[], [(n1, u), (n2, v)]⟩ = pure [(n2, v), (n1, u)]
theorem scallK2 {nm n1 n2 : Str} {k k' : Nat} {F : Fn} {p p1 p2 : Pos} {e1 e2 : Expr} {m1 m2 : EM} (d : Dk X.prog X.w X.K X.mg X.base nm k n2 n1 F) (hr : Room k' X.A) (hk : k ≤ k') (h1 : SE X e1 m1) (h2 : SE X e2 m2) (hg : Gl X nm := by rfl) (hdb : (nm == ("__debug__" : Str)) = false := by decide) :
    SE X (.Call (.Name nm p) [] [⟨some n1, e1, p1⟩, ⟨some n2, e2, p2⟩] pos) (eFn (swap2 F) (aCons m1 (aCons m2 aNil))) := by
  obtain ⟨f, fd, G, kf, mf, bf⟩ := d.ex
  exact se_callK2 G (hr.mono hk) hg mf kf bf h1 h2 hdb
end
end Sm

namespace Sm
open PySem L2
/-! ### reckoning with mirrors -/
theorem fEqA_int (a b : Int) (h : MH) : fEqA (.int a) (.int b) h = some (.bl (a == b), h) := rfl
theorem fNeA_int (a b : Int) (h : MH) : fNeA (.int a) (.int b) h = some (.bl (!(a == b)), h) := rfl
theorem fEqA_str (a b : Str) (h : MH) : fEqA (.str a) (.str b) h = some (.bl (a == b), h) := rfl
theorem fNeA_str (a b : Str) (h : MH) : fNeA (.str a) (.str b) h = some (.bl (!(a == b)), h) := rfl
theorem fEqA_bl (a b : Bool) (h : MH) : fEqA (.bl a) (.bl b) h = some (.bl (a == b), h) := rfl
theorem pyL_ints : ∀ cs : List Int, pyL (cs.map D.int) = some (cs.map PyData.int)
  | [] => rfl
  | c :: r => by simp only [List.map_cons, pyL, pyD, pyL_ints r, Option.bind_some, Option.map_some]
theorem depth_ints : ∀ cs : List Int, PyData.depthAll (cs.map PyData.int) = 0
  | [] => rfl
  | c :: r => by simp only [List.map_cons, PyData.depthAll, depth_ints r, PyData.depth]; rfl
theorem fNeA_ints {h : MH} {c : Nat} {cs : List Int} (hc : h[c]? = some (.lst (cs.map D.int))) : fNeA (.ob c) (.lv []) h = some (.bl (!cs.isEmpty), h) := by
  simp only [fNeA, eqA, dctO, hc, eqD, rdD, pyL_ints, pyD, pyL, Option.map_some, Option.bind_some, PyData.depth, depth_ints]
  cases cs <;> rfl
theorem fIx_ob {h : MH} {n : Nat} {xs : List D} {i : Int} {d : D} (hn : h[n]? = some (.lst xs)) (e : atI xs i = some d) : fIx (.ob n) (.int i) h = some (d, h) := by
  simp only [fIx, dctO, hn, seqD, Option.bind_some, e, Option.map_some]
theorem fLen_ob {h : MH} {n : Nat} {xs : List D} (hn : h[n]? = some (.lst xs)) : fLen [.ob n] h = some (.int xs.length, h) := by
  simp only [fLen, dctO, hn, seqD, Option.map_some]
theorem fLen_lv (xs : List D) (h : MH) : fLen [.lv xs] h = some (.int xs.length, h) := rfl
theorem fLen_tup (xs : List D) (h : MH) : fLen [.tup xs] h = some (.int xs.length, h) := rfl
theorem fSet_ob {h : MH} {n : Nat} {xs : List D} {i : Int} {p : Nat} {d : D} (hn : h[n]? = some (.lst xs)) (e : ixN xs.length i = some p) : fSet (.ob n) (.int i) d h = some (h.set n (.lst (xs.set p d))) := by
  simp only [fSet, hn, e, Option.map_some]
theorem atI_ints (cs : List Int) (i : Int) (h0 : 0 ≤ i) (h1 : i < cs.length) : ∃ z, atI (cs.map D.int) i = some (.int z) := by
  have hlt : i.toNat < cs.length := by omega
  refine ⟨cs[i.toNat]'hlt, ?_⟩
  have e : ((i.toNat : Nat) : Int) = i := Int.toNat_of_nonneg h0
  have q : atI (cs.map D.int) ((i.toNat : Nat) : Int) = some (D.int (cs[i.toNat]'hlt)) := atI_nat (by rw [List.getElem?_map, List.getElem?_eq_getElem hlt]; rfl)
  rw [e] at q
  exact q
theorem atI_lt {α : Type} {xs : List α} {i : Int} (h0 : 0 ≤ i) (h1 : i < xs.length) : ∃ v, atI xs i = some v ∧ v ∈ xs := by
  have hlt : i.toNat < xs.length := by omega
  have e : ((i.toNat : Nat) : Int) = i := Int.toNat_of_nonneg h0
  have q : atI xs ((i.toNat : Nat) : Int) = some (xs[i.toNat]'hlt) := atI_nat (List.getElem?_eq_getElem hlt)
  rw [e] at q
  exact ⟨_, q, List.getElem_mem hlt⟩
end Sm
namespace Sm
open PySem
/-! ### running mirrors: what comes out -/
def Rn {α : Type} (o : Option α) (Q : α → Prop) : Prop := ∃ a, o = some a ∧ Q a
theorem rv {α : Type} {o : Option α} {a : α} {Q : α → Prop} (e : o = some a) (q : Q a) : Rn o Q := ⟨a, e, q⟩
theorem Rn.imp {α : Type} {o : Option α} {Q Q' : α → Prop} (r : Rn o Q) (f : ∀ a, Q a → Q' a) : Rn o Q' := let ⟨a, e, q⟩ := r; ⟨a, e, f a q⟩
theorem rbind {α β : Type} {o : Option α} {f : α → Option β} {Q : β → Prop} (r : Rn o fun a => Rn (f a) Q) : Rn (o.bind f) Q := by
  obtain ⟨a, e, b, e2, q⟩ := r
  exact ⟨b, by rw [e]; exact e2, q⟩
theorem rmap {α β : Type} {o : Option α} {f : α → β} {Q : β → Prop} (r : Rn o fun a => Q (f a)) : Rn (o.map f) Q := by
  obtain ⟨a, e, q⟩ := r
  exact ⟨f a, by rw [e]; rfl, q⟩
section
variable {δ : DS} {h : MH}
theorem r_var {i : Nat} {d : D} {Q : D × MH → Prop} (e : δ[i]? = some (some d)) (q : Q (d, h)) : Rn (eVar i δ h) Q := ⟨(d, h), by unfold eVar; rw [e]; rfl, q⟩
theorem r_k {d : D} {Q : D × MH → Prop} (q : Q (d, h)) : Rn (eK d δ h) Q := ⟨_, rfl, q⟩
theorem r_op {f : D → D → MH → Option (D × MH)} {a b : EM} {Q : D × MH → Prop} (r : Rn (a δ h) fun p => Rn (b δ p.2) fun q => Rn (f p.1 q.1 q.2) Q) : Rn (eOp f a b δ h) Q := rbind (r.imp fun _ r => rbind r)
theorem r_un {f : D → MH → Option (D × MH)} {a : EM} {Q : D × MH → Prop} (r : Rn (a δ h) fun p => Rn (f p.1 p.2) Q) : Rn (eUn f a δ h) Q := rbind r
theorem r_nil {Q : List D × MH → Prop} (q : Q ([], h)) : Rn (aNil δ h) Q := ⟨_, rfl, q⟩
theorem r_cons {a : EM} {m : AM} {Q : List D × MH → Prop} (r : Rn (a δ h) fun p => Rn (m δ p.2) fun q => Q (p.1 :: q.1, q.2)) : Rn (aCons a m δ h) Q := rbind (r.imp fun _ r => rbind (r.imp fun _ q => ⟨_, rfl, q⟩))
theorem r_fn {f : Fn} {m : AM} {Q : D × MH → Prop} (r : Rn (m δ h) fun p => Rn (f p.1 p.2) Q) : Rn (eFn f m δ h) Q := rbind r
theorem r_if {t : TM} {a b : EM} {Q : D × MH → Prop} (r : Rn (t δ h) fun p => (p.1 = true → Rn (a δ p.2) Q) ∧ (p.1 = false → Rn (b δ p.2) Q)) : Rn (eIf t a b δ h) Q := rbind (r.imp fun p ⟨q1, q2⟩ => by
  obtain ⟨c, h⟩ := p
  cases c with
  | true => exact q1 rfl
  | false => exact q2 rfl)
theorem r_bool {a : EM} {Q : Bool × MH → Prop} (r : Rn (a δ h) fun p => ∃ c, p.1 = .bl c ∧ Q (c, p.2)) : Rn (tBool a δ h) Q := rbind (r.imp fun p ⟨c, e, q⟩ => ⟨(c, p.2), by rw [e], q⟩)
theorem r_tval {a : EM} {Q : Bool × MH → Prop} (r : Rn (a δ h) fun p => ∃ c, truD p.1 p.2 = some c ∧ Q (c, p.2)) : Rn (tVal a δ h) Q := rbind (r.imp fun p ⟨c, e, q⟩ => ⟨(c, p.2), by rw [e]; rfl, q⟩)
theorem r_tnot {t : TM} {Q : Bool × MH → Prop} (r : Rn (t δ h) fun p => Q (!p.1, p.2)) : Rn (Sm.tNot t δ h) Q := rmap r
theorem r_tand {a b : TM} {Q : Bool × MH → Prop} (r : Rn (a δ h) fun p => (p.1 = true → Rn (b δ p.2) Q) ∧ (p.1 = false → Q (false, p.2))) : Rn (Sm.tAnd a b δ h) Q := rbind (r.imp fun p ⟨q1, q2⟩ => by
  obtain ⟨c, h⟩ := p
  cases c with
  | true => exact q1 rfl
  | false => exact ⟨_, rfl, q2 rfl⟩)
theorem r_tor {a b : TM} {Q : Bool × MH → Prop} (r : Rn (a δ h) fun p => (p.1 = true → Q (true, p.2)) ∧ (p.1 = false → Rn (b δ p.2) Q)) : Rn (Sm.tOr a b δ h) Q := rbind (r.imp fun p ⟨q1, q2⟩ => by
  obtain ⟨c, h⟩ := p
  cases c with
  | true => exact ⟨_, rfl, q1 rfl⟩
  | false => exact q2 rfl)
theorem r_and {a b : EM} {Q : D × MH → Prop} (r : Rn (a δ h) fun p => ∃ c, p.1 = .bl c ∧ (c = true → Rn (b δ p.2) Q) ∧ (c = false → Q (.bl false, p.2))) : Rn (eAnd a b δ h) Q := rbind (r.imp fun p ⟨c, e, q1, q2⟩ => by
  rw [e]
  cases c with
  | true => exact q1 rfl
  | false => exact ⟨_, rfl, q2 rfl⟩)
theorem r_or {a b : EM} {Q : D × MH → Prop} (r : Rn (a δ h) fun p => ∃ c, p.1 = .bl c ∧ (c = true → Q (.bl true, p.2)) ∧ (c = false → Rn (b δ p.2) Q)) : Rn (eOr a b δ h) Q := rbind (r.imp fun p ⟨c, e, q1, q2⟩ => by
  rw [e]
  cases c with
  | true => exact ⟨_, rfl, q1 rfl⟩
  | false => exact q2 rfl)
theorem r_not {a : EM} {Q : D × MH → Prop} (r : Rn (a δ h) fun p => ∃ c, p.1 = .bl c ∧ Q (.bl (!c), p.2)) : Rn (eNot a δ h) Q := rbind (r.imp fun p ⟨c, e, q⟩ => ⟨_, by rw [e], q⟩)
theorem r_lv {m : AM} {Q : D × MH → Prop} (r : Rn (m δ h) fun p => Q (.lv p.1, p.2)) : Rn (eLv m δ h) Q := rmap r
theorem r_ob {m : AM} {Q : D × MH → Prop} (r : Rn (m δ h) fun p => Q (.ob p.2.length, p.2 ++ [.lst p.1])) : Rn (eOb m δ h) Q := rmap r
theorem r_dv {Q : D × MH → Prop} (q : Q (.dv [], h)) : Rn (eDv δ h) Q := ⟨_, rfl, q⟩
theorem r_do {Q : D × MH → Prop} (q : Q (.ob h.length, h ++ [.dct []])) : Rn (eDo δ h) Q := ⟨_, rfl, q⟩
theorem r_list {m : AM} {Q : List D × MH → Prop} (r : Rn (m δ h) fun p => ∃ d xs ws, p.1 = [d] ∧ seqD d p.2 = some (xs, ws) ∧ Q (xs, p.2)) : Rn (aList m δ h) Q := rbind (r.imp fun p ⟨d, xs, ws, e, e2, q⟩ => ⟨(xs, p.2), by rw [e]; dsimp only; rw [e2]; rfl, q⟩)
theorem r_pno {Q : Option Int × MH → Prop} (q : Q (none, h)) : Rn (pNo δ h) Q := ⟨_, rfl, q⟩
theorem r_pat {a : EM} {Q : Option Int × MH → Prop} (r : Rn (a δ h) fun p => ∃ i, p.1 = .int i ∧ Q (some i, p.2)) : Rn (pAt a δ h) Q := rbind (r.imp fun p ⟨c, e, q⟩ => ⟨_, by rw [e], q⟩)
theorem r_sl {a : EM} {l u : PM} {Q : D × MH → Prop} (r : Rn (a δ h) fun p => Rn (l δ p.2) fun q => Rn (u δ q.2) fun r => Rn (fSl p.1 q.1 r.1 r.2) Q) : Rn (eSl a l u δ h) Q := rbind (r.imp fun _ r => rbind (r.imp fun _ r => rbind r))
/-! statements -/
abbrev SQ := Fl × DS × MH → Prop
theorem r_snil {Q : SQ} (q : Q (.nx, δ, h)) : Rn (sNil δ h) Q := ⟨_, rfl, q⟩
theorem r_sbrk {Q : SQ} (q : Q (.bk, δ, h)) : Rn (sBrk δ h) Q := ⟨_, rfl, q⟩
theorem r_scont {Q : SQ} (q : Q (.ct, δ, h)) : Rn (sCont δ h) Q := ⟨_, rfl, q⟩
def thenQ (b : SM) (Q : SQ) : SQ := fun r => match r.1 with
  | .nx => Rn (b r.2.1 r.2.2) Q
  | _ => Q r
theorem r_seq {a b : SM} {Q : SQ} (r : Rn (a δ h) (thenQ b Q)) : Rn (sSeq a b δ h) Q := rbind (r.imp fun p q => by
  obtain ⟨f, δ', h'⟩ := p
  cases f with
  | nx => exact q
  | bk => exact ⟨_, rfl, q⟩
  | ct => exact ⟨_, rfl, q⟩
  | rt d => exact ⟨_, rfl, q⟩)
theorem r_set {i : Nat} {e : EM} {Q : SQ} (r : Rn (e δ h) fun p => Q (.nx, δ.set i (some p.1), p.2)) : Rn (sSet i e δ h) Q := rbind (r.imp fun _ q => ⟨_, rfl, q⟩)
theorem r_asg {e : EM} {g : GM} {Q : SQ} (r : Rn (e δ h) fun p => Rn (g p.1 δ p.2) fun q => Q (.nx, q.1, q.2)) : Rn (sAsg e g δ h) Q := rbind (r.imp fun _ r => rbind (r.imp fun _ q => ⟨_, rfl, q⟩))
theorem r_expr {e : EM} {Q : SQ} (r : Rn (e δ h) fun p => Q (.nx, δ, p.2)) : Rn (sExpr e δ h) Q := rbind (r.imp fun _ q => ⟨_, rfl, q⟩)
theorem r_ret {e : EM} {Q : SQ} (r : Rn (e δ h) fun p => Q (.rt p.1, δ, p.2)) : Rn (sRet e δ h) Q := rbind (r.imp fun _ q => ⟨_, rfl, q⟩)
theorem r_sif {t : TM} {a b : SM} {Q : SQ} (r : Rn (t δ h) fun p => (p.1 = true → Rn (a δ p.2) Q) ∧ (p.1 = false → Rn (b δ p.2) Q)) : Rn (sIf t a b δ h) Q := rbind (r.imp fun p ⟨q1, q2⟩ => by
  obtain ⟨c, h⟩ := p
  cases c with
  | true => exact q1 rfl
  | false => exact q2 rfl)
theorem r_par {i j : Nat} {m : AM} {Q : SQ} (r : Rn (m δ h) fun p => ∃ a b, p.1 = [a, b] ∧ Q (.nx, (δ.set i (some a)).set j (some b), p.2)) : Rn (sPar i j m δ h) Q := rbind (r.imp fun p ⟨a, b, e, q⟩ => ⟨_, by rw [e], q⟩)
theorem r_gn {i : Nat} {d : D} {Q : DS × MH → Prop} (q : Q (δ.set i (some d), h)) : Rn (gN i d δ h) Q := ⟨_, rfl, q⟩
theorem r_gsub {o i : EM} {v : D} {Q : DS × MH → Prop} (r : Rn (o δ h) fun p => Rn (i δ p.2) fun q => Rn (fSet p.1 q.1 v q.2) fun h' => Q (δ, h')) : Rn (Sm.gSub o i v δ h) Q := rbind (r.imp fun _ r => rbind (r.imp fun _ r => rmap r))
theorem r_gt {n : Nat} {u : GMs} {xs : List D} {Q : DS × MH → Prop} (hn : xs.length = n) (r : Rn (u xs δ h) Q) : Rn (gT n u (.tup xs) δ h) Q := by
  unfold gT; dsimp only; rw [if_pos hn]; exact r
theorem r_gscons {g : GM} {u : GMs} {d : D} {xs : List D} {Q : DS × MH → Prop} (r : Rn (g d δ h) fun p => Rn (u xs p.1 p.2) Q) : Rn (gsCons g u (d :: xs) δ h) Q := rbind r
theorem r_gsnil {Q : DS × MH → Prop} (q : Q (δ, h)) : Rn (gsNil [] δ h) Q := ⟨_, rfl, q⟩
end
/-- a def's body -/
def retQ (Q : D × MH → Prop) : SQ := fun r => match r.1 with
  | .rt d => Q (d, r.2.2)
  | .nx => Q (.non, r.2.2)
  | _ => False
theorem q_rt {Q : D × MH → Prop} {d : D} {δ : DS} {h : MH} (q : Q (d, h)) : retQ Q (.rt d, δ, h) := q
theorem q_nx {Q : D × MH → Prop} {δ : DS} {h : MH} (q : Q (.non, h)) : retQ Q (.nx, δ, h) := q
theorem t_nx {b : SM} {Q : SQ} {δ : DS} {h : MH} (r : Rn (b δ h) Q) : thenQ b Q (.nx, δ, h) := r
theorem t_rt {b : SM} {Q : SQ} {d : D} {δ : DS} {h : MH} (q : Q (.rt d, δ, h)) : thenQ b Q (.rt d, δ, h) := q
theorem t_bk {b : SM} {Q : SQ} {δ : DS} {h : MH} (q : Q (.bk, δ, h)) : thenQ b Q (.bk, δ, h) := q
theorem t_ct {b : SM} {Q : SQ} {δ : DS} {h : MH} (q : Q (.ct, δ, h)) : thenQ b Q (.ct, δ, h) := q
def loopQ (I : DS → MH → Prop) (Q : SQ) : SQ := fun z => match z.1 with
  | .nx => I z.2.1 z.2.2
  | .ct => I z.2.1 z.2.2
  | .bk => Q (.nx, z.2.1, z.2.2)
  | .rt d => Q (.rt d, z.2.1, z.2.2)
theorem l_nx {I : DS → MH → Prop} {Q : SQ} {δ : DS} {h : MH} (q : I δ h) : loopQ I Q (.nx, δ, h) := q
theorem l_ct {I : DS → MH → Prop} {Q : SQ} {δ : DS} {h : MH} (q : I δ h) : loopQ I Q (.ct, δ, h) := q
theorem l_bk {I : DS → MH → Prop} {Q : SQ} {δ : DS} {h : MH} (q : Q (.nx, δ, h)) : loopQ I Q (.bk, δ, h) := q
theorem l_rt {I : DS → MH → Prop} {Q : SQ} {d : D} {δ : DS} {h : MH} (q : Q (.rt d, δ, h)) : loopQ I Q (.rt d, δ, h) := q
theorem r_mkF {len : Nat} {b : SM} {ds : List D} {h : MH} {Q : D × MH → Prop} (r : Rn (b (entry len ds) h) (retQ Q)) : Rn (mkF len b ds h) Q := rbind (r.imp fun p q => by
  obtain ⟨f, δ', h'⟩ := p
  cases f with
  | nx => exact ⟨_, rfl, q⟩
  | rt d => exact ⟨_, rfl, q⟩
  | bk => exact q.elim
  | ct => exact q.elim)
/-! loops -/
theorem r_for {i : IM} {g : GM} {b : SM} {δ : DS} {h : MH} {Q : SQ} (r : Rn (i δ h) fun p => Rn (forD p.2.1 g b p.1 δ p.2.2) Q) : Rn (sFor i g b δ h) Q := rbind r
theorem r_forD {ws : W} {g : GM} {b : SM} {Q : SQ} : ∀ {xs : List D} {δ : DS} {h : MH} (I : Nat → DS → MH → Prop), I 0 δ h → (∀ i δ h, i ≤ xs.length → I i δ h → chk ws h = true) →
    (∀ i x δ h, xs[i]? = some x → I i δ h → Rn (g x δ h) fun q => Rn (b q.1 q.2) (loopQ (I (i + 1)) Q)) → (∀ δ h, I xs.length δ h → Q (.nx, δ, h)) → Rn (forD ws g b xs δ h) Q
  | [], δ, h, I, h0, hc, _, hq => by
    unfold forD
    rw [if_pos (hc 0 δ h (Nat.le_refl _) h0)]
    exact ⟨_, rfl, hq δ h h0⟩
  | x :: xs, δ, h, I, h0, hc, ht, hq => by
    unfold forD
    rw [if_pos (hc 0 δ h (Nat.zero_le _) h0)]
    obtain ⟨q, e1, z, e2, hz⟩ := ht 0 x δ h rfl h0
    rw [e1]
    show Rn ((b q.1 q.2).bind _) Q
    rw [e2]
    obtain ⟨f, δ', h'⟩ := z
    have next : I 1 δ' h' → Rn (forD ws g b xs δ' h') Q := fun hi => r_forD (fun i => I (i + 1)) hi (fun i δ h hl => hc (i + 1) δ h (Nat.succ_le_succ hl)) (fun i x δ h hx => ht (i + 1) x δ h (by simpa using hx)) hq
    cases f with
    | nx => exact next hz
    | ct => exact next hz
    | bk => exact ⟨_, rfl, hz⟩
    | rt d => exact ⟨_, rfl, hz⟩
theorem r_iseq {e : EM} {δ : DS} {h : MH} {Q : List D × W × MH → Prop} (r : Rn (e δ h) fun p => ∃ xs ws, seqD p.1 p.2 = some (xs, ws) ∧ Q (xs, ws, p.2)) : Rn (iSeq e δ h) Q := rbind (r.imp fun p ⟨xs, ws, e, q⟩ => ⟨(xs, ws, p.2), by rw [e]; rfl, q⟩)
theorem r_irng {m : AM} {δ : DS} {h : MH} {Q : List D × W × MH → Prop} (r : Rn (m δ h) fun p => ∃ j : Int, p.1 = [.int j] ∧ -(2 ^ 62) ≤ j ∧ j < 2 ^ 62 ∧ Q ((List.range j.toNat).map fun (k : Nat) => D.int (k : Int), [], p.2)) : Rn (iRng m δ h) Q := rbind (r.imp fun p ⟨j, e, h1, h2, q⟩ => by
  rw [e]; dsimp only; rw [if_pos ⟨h1, h2⟩]; exact ⟨_, rfl, q⟩)
theorem r_irng2 {m : AM} {δ : DS} {h : MH} {Q : List D × W × MH → Prop} (r : Rn (m δ h) fun p => ∃ i j : Int, p.1 = [.int i, .int j] ∧ (-(2 ^ 62) ≤ i ∧ i < 2 ^ 62 ∧ -(2 ^ 62) ≤ j ∧ j < 2 ^ 62) ∧ Q ((List.range (j - i).toNat).map fun (k : Nat) => D.int (i + (k : Int)), [], p.2)) : Rn (iRng m δ h) Q := rbind (r.imp fun p ⟨i, j, e, h1, q⟩ => by
  rw [e]; dsimp only; rw [if_pos h1]; exact ⟨_, rfl, q⟩)
theorem r_izip {m : AM} {δ : DS} {h : MH} {Q : List D × W × MH → Prop} (r : Rn (m δ h) fun p => ∃ d e xs ys ws ws', p.1 = [d, e] ∧ seqD d p.2 = some (xs, ws) ∧ seqD e p.2 = some (ys, ws') ∧ Q (zipL xs ys, ws ++ ws', p.2)) : Rn (iZip m δ h) Q :=
  rbind (r.imp fun p ⟨d, e, xs, ys, ws, ws', e1, e2, e3, q⟩ => ⟨_, by rw [e1]; dsimp only; rw [e2]; dsimp only [Option.bind_some]; rw [e3]; rfl, q⟩)
theorem r_ienum {m : AM} {δ : DS} {h : MH} {Q : List D × W × MH → Prop} (r : Rn (m δ h) fun p => ∃ d xs ws, p.1 = [d] ∧ seqD d p.2 = some (xs, ws) ∧ Q (enumL 0 xs, ws, p.2)) : Rn (iEnum m δ h) Q :=
  rbind (r.imp fun p ⟨d, xs, ws, e1, e2, q⟩ => ⟨_, by rw [e1]; dsimp only; rw [e2]; rfl, q⟩)
theorem r_comp {caps : List (Option Nat)} {i : IM} {g : GM} {c : TM} {e : EM} {δ : DS} {h : MH} {Q : List D × MH → Prop} (r : Rn (i δ h) fun p => Rn (compD p.2.1 g c e p.1 (captD caps δ) p.2.2) fun q => q.1.length ≤ sizeLine ∧ Q q) : Rn (aComp caps i g c e δ h) Q :=
  rbind (r.imp fun p r => rbind (r.imp fun q ⟨hz, hq⟩ => ⟨q, by rw [if_pos hz], hq⟩))
/-- a comprehension that keeps the objects, item by item: f tells the item's value, or none where it is left out -/
theorem r_compD {ws : W} {g : GM} {c : TM} {e : EM} {h : MH} (hc : chk ws h = true) (f : D → Option D) (J : DS → Prop) : ∀ {xs : List D} {δ : DS}, J δ →
    (∀ x ∈ xs, ∀ δ, J δ → Rn (g x δ h) fun q => q.2 = h ∧ Rn (c q.1 h) fun t => t.2 = h ∧ J q.1 ∧ (t.1 = true → ∃ y, f x = some y ∧ Rn (e q.1 h) fun p => p = (y, h)) ∧ (t.1 = false → f x = none)) →
    compD ws g c e xs δ h = some (xs.filterMap f, h)
  | [], δ, _, _ => by unfold compD; rw [if_pos hc]; rfl
  | x :: xs, δ, hJ, ht => by
    unfold compD
    rw [if_pos hc]
    obtain ⟨⟨δ1, h1⟩, e1, rfl, ⟨t, h2⟩, e2, rfl, J1, q1, q2⟩ := ht x List.mem_cons_self δ hJ
    rw [e1]
    dsimp only [Option.bind_some] at e2 q1 q2 ⊢
    rw [e2]
    dsimp only [Option.bind_some]
    have ih := r_compD hc f J J1 (xs := xs) fun y hy => ht y (List.mem_cons_of_mem _ hy)
    cases t with
    | true =>
      obtain ⟨y, ef, p, ep, rfl⟩ := q1 rfl
      rw [if_pos rfl, ep]
      dsimp only [Option.bind_some]
      rw [ih, List.filterMap_cons, ef]; rfl
    | false =>
      rw [if_neg (by simp), ih, List.filterMap_cons, q2 rfl]
end Sm

namespace Sm
open PySem
/-! ### dicts -/
theorem valD_mem {kvs : List (L2.Key × D)} {k : L2.Key} {v : D} (h : valD kvs k = some v) : (k, v) ∈ kvs := by
  unfold valD at h
  obtain ⟨p, e1, e2⟩ := mpd h
  have h1 := List.find?_some e1
  have h2 := List.mem_of_find?_eq_some e1
  have h3 : p.1 = k := by simpa using h1
  subst h3; subst e2
  exact h2
theorem valD_some {kvs : List (L2.Key × D)} {k : L2.Key} (h : k ∈ kvs.map (·.1)) : ∃ v, valD kvs k = some v := by
  cases e : valD kvs k with
  | some v => exact ⟨v, rfl⟩
  | none =>
    unfold valD at e
    rw [Option.map_eq_none_iff, List.find?_eq_none] at e
    obtain ⟨p, hp, e2⟩ := List.mem_map.mp h
    exact absurd (by simpa using e2) (e p hp)
theorem valD_none {kvs : List (L2.Key × D)} {k : L2.Key} (h : k ∉ kvs.map (·.1)) : valD kvs k = none := by
  cases e : valD kvs k with
  | none => rfl
  | some v => exact absurd (List.mem_map.mpr ⟨_, valD_mem e, rfl⟩) h
theorem valD_of_mem : ∀ {kvs : List (L2.Key × D)} {k : L2.Key} {v : D}, (kvs.map (·.1)).Nodup → (k, v) ∈ kvs → valD kvs k = some v
  | (j, u) :: r, k, v, nd, m => by
    rw [List.map_cons, List.nodup_cons] at nd
    rcases List.mem_cons.mp m with e | m
    · cases e; simp [valD]
    · have ne : ¬ j = k := fun z => nd.1 (List.mem_map.mpr ⟨_, m, z.symm⟩)
      have h1 : valD ((j, u) :: r) k = valD r k := by simp only [valD, List.find?_cons, ne, decide_false]
      rw [h1]
      exact valD_of_mem nd.2 m
theorem putD_new {kvs : List (L2.Key × D)} {k : L2.Key} {v : D} (h : k ∉ kvs.map (·.1)) : putD kvs k v = kvs ++ [(k, v)] := by
  unfold putD
  rw [if_neg]
  intro z
  obtain ⟨p, hp, e⟩ := List.any_eq_true.mp z
  exact h (List.mem_map.mpr ⟨p, hp, of_decide_eq_true e⟩)
theorem mergeD_new : ∀ {ps acc : List (L2.Key × D)}, ((acc ++ ps).map (·.1)).Nodup → mergeD acc ps = acc ++ ps
  | [], acc, _ => (List.append_nil acc).symm
  | p :: r, acc, nd => by
    obtain ⟨k, v⟩ := p
    show mergeD (putD acc k v) r = _
    have nk : k ∉ acc.map (·.1) := by
      rw [List.map_append, List.nodup_append] at nd
      intro m
      exact nd.2.2 k m k (by simp) rfl
    rw [putD_new nk, mergeD_new (by rw [List.append_assoc]; exact nd), List.append_assoc]
    rfl
theorem dictEq_refl {kvs : List (L2.Key × D)} (nd : (kvs.map (·.1)).Nodup) (hv : ∀ p ∈ kvs, ∃ a, pyD p.2 = some a ∧ a.depth ≤ 60 ∧ PyData.eqv a a = true) : dictEq kvs kvs = some true := by
  unfold dictEq
  rw [if_pos rfl]
  have key : ∀ ks : List (L2.Key × D), (∀ p ∈ ks, p ∈ kvs) → eqRows kvs ks = some true := by
    intro ks
    induction ks with
    | nil => intro _; rfl
    | cons p r ih =>
      intro hs
      obtain ⟨k, v⟩ := p
      have hm := hs _ List.mem_cons_self
      obtain ⟨a, e1, e2, e3⟩ := hv _ hm
      dsimp only at e1
      simp only [eqRows, valD_of_mem nd hm, e1, Option.bind_some, if_pos (And.intro e2 e2), ih fun p hp => hs p (List.mem_cons_of_mem _ hp), Option.map_some, e3, Bool.and_true]
  exact key kvs fun _ h => h
theorem fNeA_dicts {d e : D} {kvs : List (L2.Key × D)} {h : MH} (hd : dctO d h = some kvs) (he : dctO e h = some kvs) (nd : (kvs.map (·.1)).Nodup) (hv : ∀ p ∈ kvs, ∃ a, pyD p.2 = some a ∧ a.depth ≤ 60 ∧ PyData.eqv a a = true) : fNeA d e h = some (.bl false, h) := by
  simp only [fNeA, eqA, hd, he, dictEq_refl nd hv, Option.map_some, Bool.not_true]
theorem fIx_dct {d : D} {kvs : List (L2.Key × D)} {h : MH} {x : Str} {v : D} (hd : dctO d h = some kvs) (hv : valD kvs (.inr x) = some v) : fIx d (.str x) h = some (v, h) := by
  simp only [fIx, hd, keyD, Option.bind_some, hv, Option.map_some]
theorem fNotIn_dct {d : D} {kvs : List (L2.Key × D)} {h : MH} {x : Str} (hd : dctO d h = some kvs) : fNotIn (.str x) d h = some (.bl (!(valD kvs (.inr x)).isSome), h) := by
  simp only [fNotIn, inD, hd, keyD, Option.map_some]
theorem fSet_dct {h : MH} {n : Nat} {kvs : List (L2.Key × D)} {x : Str} {d : D} (hn : h[n]? = some (.dct kvs)) (hz : kvs.length < sizeLine) : fSet (.ob n) (.str x) d h = some (h.set n (.dct (putD kvs (.inr x) d))) := by
  simp only [fSet, hn, keyD, Option.bind_some, if_pos hz]
theorem fDictA_dct {d : D} {kvs : List (L2.Key × D)} {h : MH} (hd : dctO d h = some kvs) : fDictA [d] h = some (.dv kvs, h) := by
  simp only [fDictA, hd]
theorem dctO_ob {h : MH} {n : Nat} {kvs : List (L2.Key × D)} (hn : h[n]? = some (.dct kvs)) : dctO (.ob n) h = some kvs := by simp only [dctO, hn]
end Sm
namespace Sm
theorem r_varA {δ : DS} {h : MH} {i : Nat} {d : D} {Q : D × MH → Prop} (q : Q (d, h)) (e : δ[i]? = some (some d) := by with_unfolding_all rfl) : Rn (eVar i δ h) Q := r_var e q
theorem r_gtA {δ : DS} {h : MH} {n : Nat} {u : GMs} {xs : List D} {Q : DS × MH → Prop} (r : Rn (u xs δ h) Q) (hn : xs.length = n := by with_unfolding_all rfl) : Rn (gT n u (.tup xs) δ h) Q := r_gt hn r
end Sm

namespace Mi
open PySem L2 Sm PySem.Spec PyProof.Rows
def top (i : Nat) : Stmt := PySem.Challenge.pw_neverstuck_k01_terms.main.body.getD i (.Pass ⟨0, 0, 0, 0⟩)
/-- the built-in names that the text leaves as they are -/
structure Bs (mg : Str → Option Value) : Prop where
  abs_ : mg "abs" = none
  all_ : mg "all" = none
  bool_ : mg "bool" = none
  dict_ : mg "dict" = none
  int_ : mg "int" = none
  isinstance_ : mg "isinstance" = none
  len_ : mg "len" = none
  list_ : mg "list" = none
  range_ : mg "range" = none
  str_ : mg "str" = none
  tuple_ : mg "tuple" = none
  zip_ : mg "zip" = none
abbrev s__law_drawn : Stmt := top 4
theorem sc__law_drawn : FnScope ["_law_script"] ["_law_script"] (defScope s__law_drawn) := ⟨rfl, rfl, rfl, by decide +kernel, rfl, by decide +kernel, by decide +kernel⟩
def F__law_drawn : Fn := mkF 1
    (sRet (eOb (aCons (eK (.int 0)) (aCons (eOb (aList (aCons (eSl (eVar 0) pNo (pAt (eK (.int 63)))) aNil))) (aCons (eK (.int 0)) aNil)))))
abbrev s__law_load : Stmt := top 5
theorem sc__law_load : FnScope ["_law_state", "_law_cells", "_law_tour", "_law_cell", "_law_mixed"] ["_law_state"] (defScope s__law_load) := ⟨rfl, rfl, rfl, by decide +kernel, rfl, by decide +kernel, by decide +kernel⟩
def F__law_load : Fn := mkF 5
    (sSeq (sSet 1 (eOp fIx (eVar 0) (eK (.int 1))))
    (sSeq (sSet 2 (eOp fIx (eVar 0) (eK (.int 2))))
    (sSeq (sAsg (eOp fAdd (eVar 2) (eK (.int 1))) (gSub (eVar 0) (eK (.int 2))))
    (sSeq (sSet 3 (eK (.int 0)))
    (sSeq (sIf (tBool (eOp fNeA (eVar 1) (eLv aNil))) (sSet 3 (eOp fIx (eVar 1) (eOp fMod (eVar 2) (eFn fLen (aCons (eVar 1) aNil))))) sNil)
    (sIf (tAnd (tBool (eOp fLt (eVar 2) (eFn fLen (aCons (eVar 1) aNil)))) (tBool (eOp fGe (eFn fAbs (aCons (eVar 3) aNil)) (eOp fPow (eK (.int 10)) (eK (.int 18)))))) (sAsg (eFn fAbs (aCons (eVar 3) aNil)) (gSub (eVar 0) (eK (.int 0)))) (sSeq (sSet 4 (eOp fMod (eOp fMul (eOp fAdd (eOp fAdd (eOp fMod (eVar 3) (eK (.int 2305843009213693951))) (eOp fMul (eOp fMul (eK (.int 7919)) (eVar 2)) (eVar 2))) (eK (.int 11))) (eK (.int 48271))) (eK (.int 2305843009213693951))))
    (sSeq (sSet 4 (eOp fMod (eOp fMul (eVar 4) (eVar 4)) (eK (.int 2305843009213693921))))
    (sAsg (eOp fAdd (eOp fMod (eOp fAdd (eOp fAdd (eOp fMul (eVar 4) (eK (.int 69621))) (eVar 2)) (eK (.int 104729))) (eK (.int 2305843009213693951))) (eOp fPow (eK (.int 10)) (eK (.int 9)))) (gSub (eVar 0) (eK (.int 0))))))))))))
abbrev s__law_next : Stmt := top 6
theorem sc__law_next : FnScope ["_law_state", "_law_many", "_law_found"] ["_law_state", "_law_many"] (defScope s__law_next) := ⟨rfl, rfl, rfl, by decide +kernel, rfl, by decide +kernel, by decide +kernel⟩
def F__law_next : Fn := mkF 3
    (sSeq (sIf (tBool (eOp fLt (eOp fIx (eVar 0) (eK (.int 0))) (eVar 1))) (sExpr (eFn F__law_load (aCons (eVar 0) aNil))) sNil)
    (sSeq (sSet 2 (eOp fMod (eOp fIx (eVar 0) (eK (.int 0))) (eVar 1)))
    (sSeq (sAsg (eOp fDiv (eOp fIx (eVar 0) (eK (.int 0))) (eVar 1)) (gSub (eVar 0) (eK (.int 0))))
    (sRet (eVar 2)))))
abbrev s__law_of : Stmt := top 7
theorem sc__law_of : FnScope ["_law_state", "_law_some"] ["_law_state", "_law_some"] (defScope s__law_of) := ⟨rfl, rfl, rfl, by decide +kernel, rfl, by decide +kernel, by decide +kernel⟩
def F__law_of : Fn := mkF 2
    (sRet (eOp fIx (eVar 1) (eFn F__law_next (aCons (eVar 0) (aCons (eFn fLen (aCons (eVar 1) aNil)) aNil)))))
abbrev s__law_any : Stmt := top 9
theorem sc__law_any : FnScope ["_law_state", "_law_words"] ["_law_state", "_law_words"] (defScope s__law_any) := ⟨rfl, rfl, rfl, by decide +kernel, rfl, by decide +kernel, by decide +kernel⟩
def F__law_any : Fn := mkF 2
    (sRet (eFn fTup (aCons (eFn F__law_of (aCons (eVar 0) (aCons (eOp fAdd (eVar 1) (eLv (aCons (eK (.str "")) aNil))) aNil))) (aCons (eOp fSub (eFn F__law_next (aCons (eVar 0) (aCons (eK (.int 199)) aNil))) (eK (.int 99))) aNil))))
abbrev s__law_same : Stmt := top 8
theorem sc__law_same : FnScope ["_law_one", "_law_two"] ["_law_one", "_law_two"] (defScope s__law_same) := ⟨rfl, rfl, rfl, by decide +kernel, rfl, by decide +kernel, by decide +kernel⟩
def F__law_same : Nat → Fn
  | 0 => fun _ _ => none
  | n + 1 => mkF 2
    (sSeq (sIf (tVal (eFn fIsi (aCons (eVar 1) (aCons (eK (.ty "tuple")) aNil)))) (sSeq (sIf (tOr (tNot (tVal (eFn fIsi (aCons (eVar 0) (aCons (eK (.ty "tuple")) aNil))))) (tBool (eOp fNeA (eFn fLen (aCons (eVar 0) aNil)) (eFn fLen (aCons (eVar 1) aNil))))) (sRet (eK (.bl false))) sNil)
    (sRet (eFn fAll (aCons (eLv (aComp [none, none] (iZip (aCons (eVar 0) (aCons (eVar 1) aNil))) (gT 2 (gsCons (gN 0) (gsCons (gN 1) gsNil))) tYes (eFn (F__law_same n) (aCons (eVar 0) (aCons (eVar 1) aNil))))) aNil)))) sNil)
    (sSeq (sIf (tBool (eOp fIsN (eVar 1) (eK .non))) (sRet (eOp fIsN (eVar 0) (eK .non))) sNil)
    (sSeq (sIf (tVal (eFn fIsi (aCons (eVar 1) (aCons (eK (.ty "str")) aNil)))) (sRet (eAnd (eFn fIsi (aCons (eVar 0) (aCons (eK (.ty "str")) aNil))) (eOp fEqA (eVar 0) (eVar 1)))) sNil)
    (sSeq (sIf (tVal (eFn fIsi (aCons (eVar 1) (aCons (eK (.ty "bool")) aNil)))) (sRet (eAnd (eFn fIsi (aCons (eVar 0) (aCons (eK (.ty "bool")) aNil))) (eOp fEqA (eVar 0) (eVar 1)))) sNil)
    (sRet (eAnd (eFn fIsi (aCons (eVar 0) (aCons (eK (.ty "int")) aNil))) (eAnd (eNot (eFn fIsi (aCons (eVar 0) (aCons (eK (.ty "bool")) aNil)))) (eOp fEqA (eVar 0) (eVar 1)))))))))
abbrev s_value_of : Stmt := top 1
theorem sc_value_of : FnScope ["term", "numbers", "word", "figure"] ["term", "numbers"] (defScope s_value_of) := ⟨rfl, rfl, rfl, by decide +kernel, rfl, by decide +kernel, by decide +kernel⟩
def F_value_of : Fn := mkF 4
    (sSeq (sAsg (eVar 0) (gT 2 (gsCons (gN 2) (gsCons (gN 3) gsNil))))
    (sRet (eIf (tBool (eOp fEqA (eVar 2) (eK (.str "")))) (eVar 3) (eOp fAdd (eOp fIx (eVar 1) (eVar 2)) (eVar 3)))))
abbrev s_put_in : Stmt := top 2
theorem sc_put_in : FnScope ["term", "terms", "word", "figure", "other", "more"] ["term", "terms"] (defScope s_put_in) := ⟨rfl, rfl, rfl, by decide +kernel, rfl, by decide +kernel, by decide +kernel⟩
def F_put_in : Fn := mkF 6
    (sSeq (sAsg (eVar 0) (gT 2 (gsCons (gN 2) (gsCons (gN 3) gsNil))))
    (sSeq (sIf (tOr (tBool (eOp fEqA (eVar 2) (eK (.str "")))) (tBool (eOp fNotIn (eVar 2) (eVar 1)))) (sRet (eFn fTup (aCons (eVar 2) (aCons (eVar 3) aNil)))) sNil)
    (sSeq (sAsg (eOp fIx (eVar 1) (eVar 2)) (gT 2 (gsCons (gN 4) (gsCons (gN 5) gsNil))))
    (sRet (eFn fTup (aCons (eVar 4) (aCons (eOp fAdd (eVar 3) (eVar 5)) aNil)))))))
abbrev s_law : Stmt := top 10
theorem sc_law : FnScope ["_law_script", "_law_state", "_law_words", "_law_k", "_law_known", "_law_others", "_law_word", "_law_one", "_law_more", "_law_due", "_law_handed", "_law_lent", "_law_there", "_law_inner"] ["_law_script"] (defScope s_law) := ⟨rfl, rfl, rfl, by decide +kernel, rfl, by decide +kernel, by decide +kernel⟩
def F_law : Fn := mkF 14
    (sSeq (sSet 1 (eFn F__law_drawn (aCons (eVar 0) aNil)))
    (sSeq (sSet 2 (eLv (aCons (eK (.str "a")) (aCons (eK (.str "b")) (aCons (eK (.str "xyz")) (aCons (eK (.str "abcdefgh")) aNil))))))
    (sSeq (sFor (iRng (aCons (eK (.int 20)) aNil)) (gN 3) (sSeq (sSet 4 eDo)
    (sSeq (sSet 5 eDo)
    (sSeq (sFor (iSeq (eVar 2)) (gN 6) (sSeq (sAsg (eOp fMul (eFn F__law_of (aCons (eVar 1) (aCons (eLv (aCons (eK (.int 1)) (aCons (eUn uNeg (eK (.int 1))) aNil))) aNil))) (eFn F__law_next (aCons (eVar 1) (aCons (eFn F__law_of (aCons (eVar 1) (aCons (eLv (aCons (eK (.int 3)) (aCons (eK (.int 100)) (aCons (eOp fPow (eK (.int 10)) (eK (.int 6))) (aCons (eOp fPow (eK (.int 10)) (eK (.int 30))) aNil))))) aNil))) aNil)))) (gSub (eVar 4) (eVar 6)))
    (sAsg (eFn F__law_any (aCons (eVar 1) (aCons (eVar 2) aNil))) (gSub (eVar 5) (eVar 6)))))
    (sSeq (sSet 7 (eFn F__law_any (aCons (eVar 1) (aCons (eVar 2) aNil))))
    (sSeq (sAsg (eVar 7) (gT 2 (gsCons (gN 6) (gsCons (gN 8) gsNil))))
    (sSeq (sSet 9 (eVar 8))
    (sSeq (sIf (tBool (eOp fNeA (eVar 6) (eK (.str "")))) (sSet 9 (eOp fAdd (eVar 9) (eOp fIx (eVar 4) (eVar 6)))) sNil)
    (sSeq (sPar 10 11 (aCons (eFn fDictA (aCons (eVar 4) aNil)) (aCons (eFn fDictA (aCons (eVar 5) aNil)) aNil)))
    (sSeq (sIf (tOr (tNot (tVal (eFn (F__law_same 4) (aCons (eFn F_value_of (aCons (eVar 7) (aCons (eVar 10) aNil))) (aCons (eVar 9) aNil))))) (tBool (eOp fNeA (eVar 10) (eVar 4)))) (sRet (eK (.bl false))) sNil)
    (sSeq (sSet 12 (eVar 7))
    (sSeq (sIf (tBool (eOp fNeA (eVar 6) (eK (.str "")))) (sSet 12 (eFn fTup (aCons (eOp fIx (eOp fIx (eVar 5) (eVar 6)) (eK (.int 0))) (aCons (eOp fAdd (eOp fIx (eOp fIx (eVar 5) (eVar 6)) (eK (.int 1))) (eVar 8)) aNil)))) sNil)
    (sSeq (sIf (tOr (tNot (tVal (eFn (F__law_same 4) (aCons (eFn F_put_in (aCons (eVar 7) (aCons (eVar 11) aNil))) (aCons (eVar 12) aNil))))) (tBool (eOp fNeA (eVar 11) (eVar 5)))) (sRet (eK (.bl false))) sNil)
    (sSeq (sIf (tOr (tBool (eOp fNeA (eFn (swap2 F_value_of) (aCons (eVar 4) (aCons (eVar 7) aNil))) (eVar 9))) (tBool (eOp fNeA (eFn (swap2 F_put_in) (aCons (eVar 5) (aCons (eVar 7) aNil))) (eVar 12)))) (sRet (eK (.bl false))) sNil)
    (sSeq (sSet 13 (eFn fDictA (aCons (eLv (aComp [none, some 4, some 5] (iSeq (eVar 2)) (gN 0) tYes (eFn fTup (aCons (eVar 0) (aCons (eFn F_value_of (aCons (eOp fIx (eVar 2) (eVar 0)) (aCons (eVar 1) aNil))) aNil))))) aNil)))
    (sIf (tNot (tVal (eFn (F__law_same 4) (aCons (eFn F_value_of (aCons (eFn F_put_in (aCons (eVar 7) (aCons (eVar 5) aNil))) (aCons (eVar 4) aNil))) (aCons (eFn F_value_of (aCons (eVar 7) (aCons (eVar 13) aNil))) aNil))))) (sRet (eK (.bl false))) sNil))))))))))))))))
    (sRet (eAnd (eFn (F__law_same 4) (aCons (eFn F_put_in (aCons (eFn fTup (aCons (eK (.str "")) (aCons (eK (.int 7)) aNil))) (aCons eDv aNil))) (aCons (eFn fTup (aCons (eK (.str "")) (aCons (eK (.int 7)) aNil))) aNil))) (eFn (F__law_same 4) (aCons (eFn F_value_of (aCons (eFn fTup (aCons (eK (.str "")) (aCons (eUn uNeg (eK (.int 7))) aNil))) (aCons eDv aNil))) (aCons (eUn uNeg (eK (.int 7))) aNil))))))))
section
variable {P : Program} {w : World} {K : PySem.W.Frag} {mg : Str → Option Value} {base : Heap}
theorem ok__law_drawn {f : Addr} {fd : FuncData} (F : Fun K "_law_drawn" "_law_drawn" s__law_drawn f fd) (B : Bs mg)  : FnOk P w K mg base CX0 1 f fd ["_law_script"] (spF K 1 F__law_drawn) :=
  (fn_sim F sc__law_drawn fun cdv A outer s H E hr => (ss_one (ss_ret (SFL.ob (sf_lst (sa_cons se_int (sa_cons (SFL.ob (sf_list rfl B.list_ bo_list (sa_cons (se_sl (sv 0) so_none (so_some se_int)) sa_nil) (al_cons al_nil))) (sa_cons se_int sa_nil))) (al_cons (al_cons (al_cons al_nil))))))))
theorem ok__law_load {f : Addr} {fd : FuncData} (F : Fun K "_law_load" "_law_load" s__law_load f fd) (B : Bs mg)  : FnOk P w K mg base CX0 1 f fd ["_law_state"] (spF K 1 F__law_load) :=
  (fn_sim F sc__law_load fun cdv A outer s H E hr => (ss_cons (sset 1 sc__law_load.nd (se_ix hr.units (sv 0) se_int))
      (ss_cons (sset 2 sc__law_load.nd (se_ix hr.units (sv 0) se_int))
      (ss_cons (ss_asg (se_op os_add (sv 2) se_int) (sg_sub hr.units (sv 0) se_int))
      (ss_cons (sset 3 sc__law_load.nd se_int)
      (ss_cons (ss_if (st_cmp (os_neA hr.units) (sv 1) (SFL.lv (sf_lst sa_nil al_nil)) (nomark _)) (ss_one (sset 3 sc__law_load.nd (se_ix hr.units (sv 1) (se_op os_mod (sv 2) (se_callB cs_len rfl B.len_ bo_len (sa_cons (sv 1) sa_nil)))))) ss_nil)
      (ss_one (ss_if (SW.st (sw_and (st_cmp os_lt (sv 2) (se_callB cs_len rfl B.len_ bo_len (sa_cons (sv 1) sa_nil)) (nomark _)) (sw_and1 (st_cmp os_ge (se_callB cs_abs rfl B.abs_ bo_abs (sa_cons (sv 3) sa_nil)) (se_op os_pow se_int se_int) (nomark _))))) (ss_one (ss_asg (se_callB cs_abs rfl B.abs_ bo_abs (sa_cons (sv 3) sa_nil)) (sg_sub hr.units (sv 0) se_int))) (ss_cons (sset 4 sc__law_load.nd (se_op os_mod (se_op os_mul (se_op os_add (se_op os_add (se_op os_mod (sv 3) se_int) (se_op os_mul (se_op os_mul se_int (sv 2)) (sv 2))) se_int) se_int) se_int))
      (ss_cons (sset 4 sc__law_load.nd (se_op os_mod (se_op os_mul (sv 4) (sv 4)) se_int))
      (ss_one (ss_asg (se_op os_add (se_op os_mod (se_op os_add (se_op os_add (se_op os_mul (sv 4) se_int) (sv 2)) se_int) se_int) (se_op os_pow se_int se_int)) (sg_sub hr.units (sv 0) se_int)))))))))))))
theorem ok__law_next {f : Addr} {fd : FuncData} (F : Fun K "_law_next" "_law_next" s__law_next f fd) (B : Bs mg) (d__law_load : Df P w K mg base "_law_load" 1 ["_law_state"] 1 F__law_load) : FnOk P w K mg base CX0 2 f fd ["_law_state", "_law_many"] (spF K 2 F__law_next) :=
  (fn_sim F sc__law_next fun cdv A outer s H E hr => (ss_cons (ss_if (st_cmp os_lt (se_ix hr.units (sv 0) se_int) (sv 1) (nomark _)) (ss_one (ss_expr (scall d__law_load hr (by decide) (sa_cons (sv 0) sa_nil) (al_cons al_nil)))) ss_nil)
      (ss_cons (sset 2 sc__law_next.nd (se_op os_mod (se_ix hr.units (sv 0) se_int) (sv 1)))
      (ss_cons (ss_asg (se_op os_div (se_ix hr.units (sv 0) se_int) (sv 1)) (sg_sub hr.units (sv 0) se_int))
      (ss_one (ss_ret (sv 2)))))))
theorem ok__law_of {f : Addr} {fd : FuncData} (F : Fun K "_law_of" "_law_of" s__law_of f fd) (B : Bs mg) (d__law_next : Df P w K mg base "_law_next" 2 ["_law_state", "_law_many"] 2 F__law_next) : FnOk P w K mg base CX0 3 f fd ["_law_state", "_law_some"] (spF K 2 F__law_of) :=
  (fn_sim F sc__law_of fun cdv A outer s H E hr => (ss_one (ss_ret (se_ix hr.units (sv 1) (scall d__law_next hr (by decide) (sa_cons (sv 0) (sa_cons (se_callB cs_len rfl B.len_ bo_len (sa_cons (sv 1) sa_nil)) sa_nil)) (al_cons (al_cons al_nil)))))))
theorem ok__law_any {f : Addr} {fd : FuncData} (F : Fun K "_law_any" "_law_any" s__law_any f fd) (B : Bs mg) (d__law_next : Df P w K mg base "_law_next" 2 ["_law_state", "_law_many"] 2 F__law_next) (d__law_of : Df P w K mg base "_law_of" 3 ["_law_state", "_law_some"] 2 F__law_of) : FnOk P w K mg base CX0 4 f fd ["_law_state", "_law_words"] (spF K 2 F__law_any) :=
  (fn_sim F sc__law_any fun cdv A outer s H E hr => (ss_one (ss_ret (se_tup (sa_cons (scall d__law_of hr (by decide) (sa_cons (sv 0) (sa_cons (se_op os_add (sv 1) (SFL.lv (sf_lst (sa_cons se_str sa_nil) (al_cons al_nil)))) sa_nil)) (al_cons (al_cons al_nil))) (sa_cons (se_op os_sub (scall d__law_next hr (by decide) (sa_cons (sv 0) (sa_cons se_int sa_nil)) (al_cons (al_cons al_nil))) se_int) sa_nil)) (al_cons (al_cons al_nil))))))
theorem ok__law_same {f : Addr} {fd : FuncData} (F : Fun K "_law_same" "_law_same" s__law_same f fd) (B : Bs mg) (kf : PySem.W.keepIn K (.ref f) = true) (bf : Binds K fd ["_law_one", "_law_two"] []) (mf : mg "_law_same" = some (.ref f))  : ∀ n, FnOk P w K mg base CX0 (1 + n) f fd ["_law_one", "_law_two"] (spF K 2 (F__law_same n))
  | 0 => none_ok
  | n + 1 => by
    have d__law_same : Df P w K mg base "_law_same" (1 + n) ["_law_one", "_law_two"] 2 (F__law_same n) := ⟨f, fd, ok__law_same F B kf bf mf  n, kf, bf, mf⟩
    exact (fn_sim F sc__law_same fun cdv A outer s H E hr => (ss_cons (ss_if (st_val (se_callB cs_isi rfl B.isinstance_ bo_isinstance (sa_cons (sv 1) (sa_cons (se_ty rfl B.tuple_ bo_tuple) sa_nil)))) (ss_cons (ss_if (SW.st (sw_or (st_not (st_val (se_callB cs_isi rfl B.isinstance_ bo_isinstance (sa_cons (sv 0) (sa_cons (se_ty rfl B.tuple_ bo_tuple) sa_nil))))) (sw_or1 (st_cmp (os_neA hr.units) (se_callB cs_len rfl B.len_ bo_len (sa_cons (sv 0) sa_nil)) (se_callB cs_len rfl B.len_ bo_len (sa_cons (sv 1) sa_nil)) (nomark _))))) (ss_one (ss_ret se_bl)) ss_nil)
      (ss_one (ss_ret (se_callB (cs_all rfl) rfl B.all_ bo_all (sa_cons (se_comp (N' := ["_law_a", "_law_b"]) (caps := [none, none]) (compScope (by show lookComp (defScope s__law_same).names ["_law_one", "_law_two"] _ _ _ = true; decide +kernel)) rfl (si_zip rfl B.zip_ (sa_cons (sv 0) (sa_cons (sv 1) sa_nil)) (al_cons (al_cons al_nil))) (fun _ _ _ _ _ => (sg_tup rfl (sgs_cons (sgn 0 (by show (["_law_a", "_law_b"] : List Str).Nodup; decide +kernel)) (sgs_cons (sgn 1 (by show (["_law_a", "_law_b"] : List Str).Nodup; decide +kernel)) sgs_nil)))) (fun _ _ _ _ _ => sif_nil) (fun _ _ _ _ _ => (scall d__law_same hr (Nat.le_refl _) (sa_cons (sv 0) (sa_cons (sv 1) sa_nil)) (al_cons (al_cons al_nil))))) sa_nil))))) ss_nil)
      (ss_cons (ss_if (st_cmp os_isN (sv 1) se_non (nomark _)) (ss_one (ss_ret (se_cmp os_isN (sv 0) se_non (nomark _)))) ss_nil)
      (ss_cons (ss_if (st_val (se_callB cs_isi rfl B.isinstance_ bo_isinstance (sa_cons (sv 1) (sa_cons (se_ty rfl B.str_ bo_str) sa_nil)))) (ss_one (ss_ret (se_and (se_callB cs_isi rfl B.isinstance_ bo_isinstance (sa_cons (sv 0) (sa_cons (se_ty rfl B.str_ bo_str) sa_nil))) (se_one (se_cmp (os_eqA hr.units) (sv 0) (sv 1) (nomark _)))))) ss_nil)
      (ss_cons (ss_if (st_val (se_callB cs_isi rfl B.isinstance_ bo_isinstance (sa_cons (sv 1) (sa_cons (se_ty rfl B.bool_ bo_bool) sa_nil)))) (ss_one (ss_ret (se_and (se_callB cs_isi rfl B.isinstance_ bo_isinstance (sa_cons (sv 0) (sa_cons (se_ty rfl B.bool_ bo_bool) sa_nil))) (se_one (se_cmp (os_eqA hr.units) (sv 0) (sv 1) (nomark _)))))) ss_nil)
      (ss_one (ss_ret (se_and (se_callB cs_isi rfl B.isinstance_ bo_isinstance (sa_cons (sv 0) (sa_cons (se_ty rfl B.int_ bo_int) sa_nil))) (se_and (se_not (se_callB cs_isi rfl B.isinstance_ bo_isinstance (sa_cons (sv 0) (sa_cons (se_ty rfl B.bool_ bo_bool) sa_nil)))) (se_one (se_cmp (os_eqA hr.units) (sv 0) (sv 1) (nomark _))))))))))))
theorem ok_value_of {f : Addr} {fd : FuncData} (F : Fun K "value_of" "value_of" s_value_of f fd) (B : Bs mg)  : FnOk P w K mg base CX0 1 f fd ["term", "numbers"] (spF K 2 F_value_of) :=
  (fn_sim F sc_value_of fun cdv A outer s H E hr => (ss_cons (ss_asg (sv 0) (sg_tup rfl (sgs_cons (sgn 2 sc_value_of.nd) (sgs_cons (sgn 3 sc_value_of.nd) sgs_nil))))
      (ss_one (ss_ret (se_if (st_cmp (os_eqA hr.units) (sv 2) se_str (nomark _)) (sv 3) (se_op os_add (se_ix hr.units (sv 1) (sv 2)) (sv 3)))))))
theorem ok_put_in {f : Addr} {fd : FuncData} (F : Fun K "put_in" "put_in" s_put_in f fd) (B : Bs mg)  : FnOk P w K mg base CX0 1 f fd ["term", "terms"] (spF K 2 F_put_in) :=
  (fn_sim F sc_put_in fun cdv A outer s H E hr => (ss_cons (ss_asg (sv 0) (sg_tup rfl (sgs_cons (sgn 2 sc_put_in.nd) (sgs_cons (sgn 3 sc_put_in.nd) sgs_nil))))
      (ss_cons (ss_if (SW.st (sw_or (st_cmp (os_eqA hr.units) (sv 2) se_str (nomark _)) (sw_or1 (st_cmp (os_notIn hr.units) (sv 2) (sv 1) (by with_unfolding_all rfl))))) (ss_one (ss_ret (se_tup (sa_cons (sv 2) (sa_cons (sv 3) sa_nil)) (al_cons (al_cons al_nil))))) ss_nil)
      (ss_cons (ss_asg (se_ix hr.units (sv 1) (sv 2)) (sg_tup rfl (sgs_cons (sgn 4 sc_put_in.nd) (sgs_cons (sgn 5 sc_put_in.nd) sgs_nil))))
      (ss_one (ss_ret (se_tup (sa_cons (sv 4) (sa_cons (se_op os_add (sv 3) (sv 5)) sa_nil)) (al_cons (al_cons al_nil)))))))))
theorem ok_law {f : Addr} {fd : FuncData} (F : Fun K "law" "law" s_law f fd) (B : Bs mg) (d__law_drawn : Df P w K mg base "_law_drawn" 1 ["_law_script"] 1 F__law_drawn) (d__law_of : Df P w K mg base "_law_of" 3 ["_law_state", "_law_some"] 2 F__law_of) (d__law_next : Df P w K mg base "_law_next" 2 ["_law_state", "_law_many"] 2 F__law_next) (d__law_any : Df P w K mg base "_law_any" 4 ["_law_state", "_law_words"] 2 F__law_any) (d__law_same : Df P w K mg base "_law_same" 5 ["_law_one", "_law_two"] 2 (F__law_same 4)) (d_value_of : Df P w K mg base "value_of" 1 ["term", "numbers"] 2 F_value_of) (d_put_in : Df P w K mg base "put_in" 1 ["term", "terms"] 2 F_put_in) (dk_put_in : Dk P w K mg base "put_in" 1 "term" "terms" F_put_in) (dk_value_of : Dk P w K mg base "value_of" 1 "term" "numbers" F_value_of) : FnOk P w K mg base CX0 6 f fd ["_law_script"] (spF K 1 F_law) :=
  (fn_sim F sc_law fun cdv A outer s H E hr => (ss_cons (sset 1 sc_law.nd (scall d__law_drawn hr (by decide) (sa_cons (sv 0) sa_nil) (al_cons al_nil)))
      (ss_cons (sset 2 sc_law.nd (SFL.lv (sf_lst (sa_cons se_str (sa_cons se_str (sa_cons se_str (sa_cons se_str sa_nil)))) (al_cons (al_cons (al_cons (al_cons al_nil)))))))
      (ss_cons (ss_for PassesOwn.never rfl (si_range1 rfl B.range_ (sa_cons se_int sa_nil) (hl := (al_cons al_nil))) (sgn 3 sc_law.nd) (ss_cons (sset 4 sc_law.nd se_do)
      (ss_cons (sset 5 sc_law.nd se_do)
      (ss_cons (ss_for PassesOwn.never rfl (si_seq (sv 2)) (sgn 6 sc_law.nd) (ss_cons (ss_asg (se_op os_mul (scall d__law_of hr (by decide) (sa_cons (sv 1) (sa_cons (SFL.lv (sf_lst (sa_cons se_int (sa_cons (se_un us_neg se_int) sa_nil)) (al_cons (al_cons al_nil)))) sa_nil)) (al_cons (al_cons al_nil))) (scall d__law_next hr (by decide) (sa_cons (sv 1) (sa_cons (scall d__law_of hr (by decide) (sa_cons (sv 1) (sa_cons (SFL.lv (sf_lst (sa_cons se_int (sa_cons se_int (sa_cons (se_op os_pow se_int se_int) (sa_cons (se_op os_pow se_int se_int) sa_nil)))) (al_cons (al_cons (al_cons (al_cons al_nil)))))) sa_nil)) (al_cons (al_cons al_nil))) sa_nil)) (al_cons (al_cons al_nil)))) (sg_sub hr.units (sv 4) (sv 6)))
      (ss_one (ss_asg (scall d__law_any hr (by decide) (sa_cons (sv 1) (sa_cons (sv 2) sa_nil)) (al_cons (al_cons al_nil))) (sg_sub hr.units (sv 5) (sv 6))))))
      (ss_cons (sset 7 sc_law.nd (scall d__law_any hr (by decide) (sa_cons (sv 1) (sa_cons (sv 2) sa_nil)) (al_cons (al_cons al_nil))))
      (ss_cons (ss_asg (sv 7) (sg_tup rfl (sgs_cons (sgn 6 sc_law.nd) (sgs_cons (sgn 8 sc_law.nd) sgs_nil))))
      (ss_cons (sset 9 sc_law.nd (sv 8))
      (ss_cons (ss_if (st_cmp (os_neA hr.units) (sv 6) se_str (nomark _)) (ss_one (sset 9 sc_law.nd (se_op os_add (sv 9) (se_ix hr.units (sv 4) (sv 6))))) ss_nil)
      (ss_cons (spar 10 11 sc_law.nd (al_cons (al_cons al_nil)) rfl (by decide) (ps_par rfl sc_law.nd rfl rfl (by decide) rfl rfl (sa_cons (se_callT (cs_dictA rfl) rfl B.dict_ bo_dict (sa_cons (sv 4) sa_nil)) (sa_cons (se_callT (cs_dictA rfl) rfl B.dict_ bo_dict (sa_cons (sv 5) sa_nil)) sa_nil)) rfl))
      (ss_cons (ss_if (SW.st (sw_or (st_not (st_val (scall d__law_same hr (by decide) (sa_cons (scall d_value_of hr (by decide) (sa_cons (sv 7) (sa_cons (sv 10) sa_nil)) (al_cons (al_cons al_nil))) (sa_cons (sv 9) sa_nil)) (al_cons (al_cons al_nil))))) (sw_or1 (st_cmp (os_neA hr.units) (sv 10) (sv 4) (nomark _))))) (ss_one (ss_ret se_bl)) ss_nil)
      (ss_cons (sset 12 sc_law.nd (sv 7))
      (ss_cons (ss_if (st_cmp (os_neA hr.units) (sv 6) se_str (nomark _)) (ss_one (sset 12 sc_law.nd (se_tup (sa_cons (se_ix hr.units (se_ix hr.units (sv 5) (sv 6)) se_int) (sa_cons (se_op os_add (se_ix hr.units (se_ix hr.units (sv 5) (sv 6)) se_int) (sv 8)) sa_nil)) (al_cons (al_cons al_nil))))) ss_nil)
      (ss_cons (ss_if (SW.st (sw_or (st_not (st_val (scall d__law_same hr (by decide) (sa_cons (scall d_put_in hr (by decide) (sa_cons (sv 7) (sa_cons (sv 11) sa_nil)) (al_cons (al_cons al_nil))) (sa_cons (sv 12) sa_nil)) (al_cons (al_cons al_nil))))) (sw_or1 (st_cmp (os_neA hr.units) (sv 11) (sv 5) (nomark _))))) (ss_one (ss_ret se_bl)) ss_nil)
      (ss_cons (ss_if (SW.st (sw_or (st_cmp (os_neA hr.units) (scallK2 dk_value_of hr (by decide) (sv 4) (sv 7)) (sv 9) (nomark _)) (sw_or1 (st_cmp (os_neA hr.units) (scallK2 dk_put_in hr (by decide) (sv 5) (sv 7)) (sv 12) (nomark _))))) (ss_one (ss_ret se_bl)) ss_nil)
      (ss_cons (sset 13 sc_law.nd (se_callT (cs_dictA rfl) rfl B.dict_ bo_dict (sa_cons (se_comp (N' := ["_law_each", "_law_known", "_law_others"]) (caps := [none, some 4, some 5]) (compScope (by show lookComp (defScope s_law).names ["_law_script", "_law_state", "_law_words", "_law_k", "_law_known", "_law_others", "_law_word", "_law_one", "_law_more", "_law_due", "_law_handed", "_law_lent", "_law_there", "_law_inner"] _ _ _ = true; decide +kernel)) rfl (si_seq (sv 2)) (fun _ _ _ _ _ => (sgn 0 (by show (["_law_each", "_law_known", "_law_others"] : List Str).Nodup; decide +kernel))) (fun _ _ _ _ _ => sif_nil) (fun _ _ _ _ _ => (se_tup (sa_cons (sv 0) (sa_cons (scall d_value_of hr (by decide) (sa_cons (se_ix hr.units (sv 2) (sv 0)) (sa_cons (sv 1) sa_nil)) (al_cons (al_cons al_nil))) sa_nil)) (al_cons (al_cons al_nil))))) sa_nil)))
      (ss_one (ss_if (st_not (st_val (scall d__law_same hr (by decide) (sa_cons (scall d_value_of hr (by decide) (sa_cons (scall d_put_in hr (by decide) (sa_cons (sv 7) (sa_cons (sv 5) sa_nil)) (al_cons (al_cons al_nil))) (sa_cons (sv 4) sa_nil)) (al_cons (al_cons al_nil))) (sa_cons (scall d_value_of hr (by decide) (sa_cons (sv 7) (sa_cons (sv 13) sa_nil)) (al_cons (al_cons al_nil))) sa_nil)) (al_cons (al_cons al_nil))))) (ss_one (ss_ret se_bl)) ss_nil)))))))))))))))))
      (ss_one (ss_ret (se_and (scall d__law_same hr (by decide) (sa_cons (scall d_put_in hr (by decide) (sa_cons (se_tup (sa_cons se_str (sa_cons se_int sa_nil)) (al_cons (al_cons al_nil))) (sa_cons se_dv sa_nil)) (al_cons (al_cons al_nil))) (sa_cons (se_tup (sa_cons se_str (sa_cons se_int sa_nil)) (al_cons (al_cons al_nil))) sa_nil)) (al_cons (al_cons al_nil))) (se_one (scall d__law_same hr (by decide) (sa_cons (scall d_value_of hr (by decide) (sa_cons (se_tup (sa_cons se_str (sa_cons (se_un us_neg se_int) sa_nil)) (al_cons (al_cons al_nil))) (sa_cons se_dv sa_nil)) (al_cons (al_cons al_nil))) (sa_cons (se_un us_neg se_int) sa_nil)) (al_cons (al_cons al_nil)))))))))))
end
theorem all_mk {l : PySem.W.OpenLaw} {w : World} {K : PySem.W.Frag} {h : Heap} {mg : Str → Option Value} {fa : Addr} (X : K.In h) (G : h.Ns mainGlobals mg) (hfa : mg "law" = some (.ref fa))
    {f1 : Addr} {od1 an1 : Option Addr} {sl1 : Array (Option Value)} {oc1 kV1 dc1 pm1 cd1 ct1 : Value} (a1 : PySem.W.nsIn K mainGlobals "_law_drawn" = some (some (.ref f1)))
    (l1 : K.lookup f1 = some ⟨oc1, od1, .func (PySem.W.fnOf "_law_drawn" "_law_drawn" (defArgs s__law_drawn) (defBody s__law_drawn) (defScope s__law_drawn) .none kV1 dc1 pm1 an1 cd1 ct1), sl1⟩) (c1 : PySem.W.codeIn K cd1 "_law_drawn" = true) (k1 : PySem.W.keepIn K (.ref f1) = true)
    {f2 : Addr} {od2 an2 : Option Addr} {sl2 : Array (Option Value)} {oc2 kV2 dc2 pm2 cd2 ct2 : Value} (a2 : PySem.W.nsIn K mainGlobals "_law_load" = some (some (.ref f2)))
    (l2 : K.lookup f2 = some ⟨oc2, od2, .func (PySem.W.fnOf "_law_load" "_law_load" (defArgs s__law_load) (defBody s__law_load) (defScope s__law_load) .none kV2 dc2 pm2 an2 cd2 ct2), sl2⟩) (c2 : PySem.W.codeIn K cd2 "_law_load" = true) (k2 : PySem.W.keepIn K (.ref f2) = true)
    {f3 : Addr} {od3 an3 : Option Addr} {sl3 : Array (Option Value)} {oc3 kV3 dc3 pm3 cd3 ct3 : Value} (a3 : PySem.W.nsIn K mainGlobals "_law_next" = some (some (.ref f3)))
    (l3 : K.lookup f3 = some ⟨oc3, od3, .func (PySem.W.fnOf "_law_next" "_law_next" (defArgs s__law_next) (defBody s__law_next) (defScope s__law_next) .none kV3 dc3 pm3 an3 cd3 ct3), sl3⟩) (c3 : PySem.W.codeIn K cd3 "_law_next" = true) (k3 : PySem.W.keepIn K (.ref f3) = true)
    {f4 : Addr} {od4 an4 : Option Addr} {sl4 : Array (Option Value)} {oc4 kV4 dc4 pm4 cd4 ct4 : Value} (a4 : PySem.W.nsIn K mainGlobals "_law_of" = some (some (.ref f4)))
    (l4 : K.lookup f4 = some ⟨oc4, od4, .func (PySem.W.fnOf "_law_of" "_law_of" (defArgs s__law_of) (defBody s__law_of) (defScope s__law_of) .none kV4 dc4 pm4 an4 cd4 ct4), sl4⟩) (c4 : PySem.W.codeIn K cd4 "_law_of" = true) (k4 : PySem.W.keepIn K (.ref f4) = true)
    {f5 : Addr} {od5 an5 : Option Addr} {sl5 : Array (Option Value)} {oc5 kV5 dc5 pm5 cd5 ct5 : Value} (a5 : PySem.W.nsIn K mainGlobals "_law_any" = some (some (.ref f5)))
    (l5 : K.lookup f5 = some ⟨oc5, od5, .func (PySem.W.fnOf "_law_any" "_law_any" (defArgs s__law_any) (defBody s__law_any) (defScope s__law_any) .none kV5 dc5 pm5 an5 cd5 ct5), sl5⟩) (c5 : PySem.W.codeIn K cd5 "_law_any" = true) (k5 : PySem.W.keepIn K (.ref f5) = true)
    {f6 : Addr} {od6 an6 : Option Addr} {sl6 : Array (Option Value)} {oc6 kV6 dc6 pm6 cd6 ct6 : Value} (a6 : PySem.W.nsIn K mainGlobals "_law_same" = some (some (.ref f6)))
    (l6 : K.lookup f6 = some ⟨oc6, od6, .func (PySem.W.fnOf "_law_same" "_law_same" (defArgs s__law_same) (defBody s__law_same) (defScope s__law_same) .none kV6 dc6 pm6 an6 cd6 ct6), sl6⟩) (c6 : PySem.W.codeIn K cd6 "_law_same" = true) (k6 : PySem.W.keepIn K (.ref f6) = true)
    {f7 : Addr} {od7 an7 : Option Addr} {sl7 : Array (Option Value)} {oc7 kV7 dc7 pm7 cd7 ct7 : Value} (a7 : PySem.W.nsIn K mainGlobals "value_of" = some (some (.ref f7)))
    (l7 : K.lookup f7 = some ⟨oc7, od7, .func (PySem.W.fnOf "value_of" "value_of" (defArgs s_value_of) (defBody s_value_of) (defScope s_value_of) .none kV7 dc7 pm7 an7 cd7 ct7), sl7⟩) (c7 : PySem.W.codeIn K cd7 "value_of" = true) (k7 : PySem.W.keepIn K (.ref f7) = true)
    {f8 : Addr} {od8 an8 : Option Addr} {sl8 : Array (Option Value)} {oc8 kV8 dc8 pm8 cd8 ct8 : Value} (a8 : PySem.W.nsIn K mainGlobals "put_in" = some (some (.ref f8)))
    (l8 : K.lookup f8 = some ⟨oc8, od8, .func (PySem.W.fnOf "put_in" "put_in" (defArgs s_put_in) (defBody s_put_in) (defScope s_put_in) .none kV8 dc8 pm8 an8 cd8 ct8), sl8⟩) (c8 : PySem.W.codeIn K cd8 "put_in" = true) (k8 : PySem.W.keepIn K (.ref f8) = true)
    {f9 : Addr} {od9 an9 : Option Addr} {sl9 : Array (Option Value)} {oc9 kV9 dc9 pm9 cd9 ct9 : Value} (a9 : PySem.W.nsIn K mainGlobals "law" = some (some (.ref f9)))
    (l9 : K.lookup f9 = some ⟨oc9, od9, .func (PySem.W.fnOf "law" "law" (defArgs s_law) (defBody s_law) (defScope s_law) .none kV9 dc9 pm9 an9 cd9 ct9), sl9⟩) (c9 : PySem.W.codeIn K cd9 "law" = true) (k9 : PySem.W.keepIn K (.ref f9) = true)
    (z1 : PySem.W.nsIn K mainGlobals "abs" = some none)
    (z2 : PySem.W.nsIn K mainGlobals "all" = some none)
    (z3 : PySem.W.nsIn K mainGlobals "bool" = some none)
    (z4 : PySem.W.nsIn K mainGlobals "dict" = some none)
    (z5 : PySem.W.nsIn K mainGlobals "int" = some none)
    (z6 : PySem.W.nsIn K mainGlobals "isinstance" = some none)
    (z7 : PySem.W.nsIn K mainGlobals "len" = some none)
    (z8 : PySem.W.nsIn K mainGlobals "list" = some none)
    (z9 : PySem.W.nsIn K mainGlobals "range" = some none)
    (z10 : PySem.W.nsIn K mainGlobals "str" = some none)
    (z11 : PySem.W.nsIn K mainGlobals "tuple" = some none)
    (z12 : PySem.W.nsIn K mainGlobals "zip" = some none)
    (hF : ∀ ns : List Int, ns.length ≤ 63 → ∃ h', F_law [.ro (ns.map D.int)] [] = some (.bl true, h')) :
    ∃ fd : FuncData, (∀ (s : Shared) (v : Value), BindsTo s fd ⟨[v], []⟩ [("_law_script", v)]) ∧ ∀ base : Heap, K.In base → base.Ns mainGlobals mg → FnOk l.prog w K mg base CX0 6 fa fd ["_law_script"] (spT K) := by
  have e := hfa.symm.trans (PySem.W.mg_of X G a9)
  cases e
  have B : Bs mg := ⟨PySem.W.mg_none_of X G z1, PySem.W.mg_none_of X G z2, PySem.W.mg_none_of X G z3, PySem.W.mg_none_of X G z4, PySem.W.mg_none_of X G z5, PySem.W.mg_none_of X G z6, PySem.W.mg_none_of X G z7, PySem.W.mg_none_of X G z8, PySem.W.mg_none_of X G z9, PySem.W.mg_none_of X G z10, PySem.W.mg_none_of X G z11, PySem.W.mg_none_of X G z12⟩
  have F1 := fun_mk (st := s__law_drawn) l1 c1 k1
  have b1 := F1.binds (ps := ["_law_script"]) fun _ _ _ _ _ _ us hl => match us, hl with | [_], _ => rfl
  have m1 := PySem.W.mg_of X G a1
  have F2 := fun_mk (st := s__law_load) l2 c2 k2
  have b2 := F2.binds (ps := ["_law_state"]) fun _ _ _ _ _ _ us hl => match us, hl with | [_], _ => rfl
  have m2 := PySem.W.mg_of X G a2
  have F3 := fun_mk (st := s__law_next) l3 c3 k3
  have b3 := F3.binds (ps := ["_law_state", "_law_many"]) fun _ _ _ _ _ _ us hl => match us, hl with | [_, _], _ => rfl
  have m3 := PySem.W.mg_of X G a3
  have F4 := fun_mk (st := s__law_of) l4 c4 k4
  have b4 := F4.binds (ps := ["_law_state", "_law_some"]) fun _ _ _ _ _ _ us hl => match us, hl with | [_, _], _ => rfl
  have m4 := PySem.W.mg_of X G a4
  have F5 := fun_mk (st := s__law_any) l5 c5 k5
  have b5 := F5.binds (ps := ["_law_state", "_law_words"]) fun _ _ _ _ _ _ us hl => match us, hl with | [_, _], _ => rfl
  have m5 := PySem.W.mg_of X G a5
  have F6 := fun_mk (st := s__law_same) l6 c6 k6
  have b6 := F6.binds (ps := ["_law_one", "_law_two"]) fun _ _ _ _ _ _ us hl => match us, hl with | [_, _], _ => rfl
  have m6 := PySem.W.mg_of X G a6
  have F7 := fun_mk (st := s_value_of) l7 c7 k7
  have b7 := F7.binds (ps := ["term", "numbers"]) fun _ _ _ _ _ _ us hl => match us, hl with | [_, _], _ => rfl
  have m7 := PySem.W.mg_of X G a7
  have F8 := fun_mk (st := s_put_in) l8 c8 k8
  have b8 := F8.binds (ps := ["term", "terms"]) fun _ _ _ _ _ _ us hl => match us, hl with | [_, _], _ => rfl
  have m8 := PySem.W.mg_of X G a8
  have F9 := fun_mk (st := s_law) l9 c9 k9
  refine ⟨PySem.W.fnOf "law" "law" (defArgs s_law) (defBody s_law) (defScope s_law) .none kV9 dc9 pm9 an9 cd9 ct9, fun s v => .of_eq rfl, fun base _ _ => ?_⟩
  have d__law_drawn : Df l.prog w K mg base "_law_drawn" 1 ["_law_script"] 1 F__law_drawn := ⟨f1, _, ok__law_drawn F1 B , k1, b1, m1⟩
  have d__law_load : Df l.prog w K mg base "_law_load" 1 ["_law_state"] 1 F__law_load := ⟨f2, _, ok__law_load F2 B , k2, b2, m2⟩
  have d__law_next : Df l.prog w K mg base "_law_next" 2 ["_law_state", "_law_many"] 2 F__law_next := ⟨f3, _, ok__law_next F3 B d__law_load, k3, b3, m3⟩
  have d__law_of : Df l.prog w K mg base "_law_of" 3 ["_law_state", "_law_some"] 2 F__law_of := ⟨f4, _, ok__law_of F4 B d__law_next, k4, b4, m4⟩
  have d__law_any : Df l.prog w K mg base "_law_any" 4 ["_law_state", "_law_words"] 2 F__law_any := ⟨f5, _, ok__law_any F5 B d__law_next d__law_of, k5, b5, m5⟩
  have d__law_same : Df l.prog w K mg base "_law_same" 5 ["_law_one", "_law_two"] 2 (F__law_same 4) := ⟨f6, _, ok__law_same F6 B k6 b6 m6  4, k6, b6, m6⟩
  have d_value_of : Df l.prog w K mg base "value_of" 1 ["term", "numbers"] 2 F_value_of := ⟨f7, _, ok_value_of F7 B , k7, b7, m7⟩
  have dk_value_of : Dk l.prog w K mg base "value_of" 1 "term" "numbers" F_value_of := ⟨f7, _, ok_value_of F7 B , k7, m7, fun u v => rfl⟩
  have d_put_in : Df l.prog w K mg base "put_in" 1 ["term", "terms"] 2 F_put_in := ⟨f8, _, ok_put_in F8 B , k8, b8, m8⟩
  have dk_put_in : Dk l.prog w K mg base "put_in" 1 "term" "terms" F_put_in := ⟨f8, _, ok_put_in F8 B , k8, m8, fun u v => rfl⟩
  exact law_top (ok_law F9 B d__law_drawn d__law_of d__law_next d__law_any d__law_same d_value_of d_put_in dk_put_in dk_value_of) hF
end Mi

local macro_rules | `(tactic| walk_at "one") => `(tactic| with_reducible first
  | refine Sm.r_seq ?_ | refine Sm.t_nx ?_ | refine Sm.r_set ?_ | refine Sm.r_asg ?_ | refine Sm.r_expr ?_ | refine Sm.r_ret ?_ | refine Sm.r_sif ?_ | refine Sm.r_snil ?_ | refine Sm.r_par ?_ | refine Sm.r_sbrk ?_ | refine Sm.r_scont ?_
  | refine Sm.r_op ?_ | refine Sm.r_un ?_ | refine Sm.r_k ?_ | refine Sm.r_fn ?_ | refine Sm.r_cons ?_ | refine Sm.r_nil ?_ | refine Sm.r_if ?_ | refine Sm.r_lv ?_ | refine Sm.r_ob ?_ | refine Sm.r_dv ?_ | refine Sm.r_do ?_
  | refine Sm.r_bool ?_ | refine Sm.r_tval ?_ | refine Sm.r_tnot ?_ | refine Sm.r_tand ?_ | refine Sm.r_tor ?_ | refine Sm.r_and ?_ | refine Sm.r_or ?_ | refine Sm.r_not ?_
  | refine Sm.r_sl ?_ | refine Sm.r_pno ?_ | refine Sm.r_pat ?_ | refine Sm.r_gn ?_ | refine Sm.r_gsub ?_ | refine Sm.r_gscons ?_ | refine Sm.r_gsnil ?_ | refine Sm.r_for ?_ | refine Sm.r_comp ?_
  | refine Sm.q_rt ?_ | refine Sm.q_nx ?_ | refine Sm.t_rt ?_ | refine Sm.t_bk ?_ | refine Sm.t_ct ?_ | refine Sm.l_nx ?_ | refine Sm.l_ct ?_ | refine Sm.l_bk ?_ | refine Sm.l_rt ?_)
local macro_rules | `(tactic| walk_at "go") => `(tactic| (repeat (first | walk_at "one" | with_reducible refine Sm.r_varA ?_ | with_reducible refine Sm.r_gtA ?_)); (try dsimp only))

namespace Mi
open PySem Sm
/-! ### the draws -/
theorem rn_mod {a b : Int} {h : MH} {Q : D × MH → Prop} (hb : 0 < b) (q : Q (.int (a % b), h)) : Rn (fMod (.int a) (.int b) h) Q := ⟨_, by unfold fMod; dsimp only; rw [if_pos hb], q⟩
theorem rn_div {a b : Int} {h : MH} {Q : D × MH → Prop} (hb : 0 < b) (hb2 : b ≤ 10 ^ 40) (q : Q (.int (a / b), h)) : Rn (fDiv (.int a) (.int b) h) Q := ⟨_, by unfold fDiv; dsimp only; rw [if_pos ⟨hb, hb2⟩], q⟩
theorem rn_mul {a b : Int} {h : MH} {Q : D × MH → Prop} (hb : mulOk a b = true) (q : Q (.int (a * b), h)) : Rn (fMul (.int a) (.int b) h) Q := ⟨_, by unfold fMul; dsimp only; rw [if_pos hb], q⟩
theorem mul_r {a b : Int} (h1 : -(2 ^ 64) < b) (h2 : b < 2 ^ 64) : mulOk a b = true := by unfold mulOk; simp only [Bool.or_eq_true, Bool.and_eq_true, decide_eq_true_eq]; exact .inr ⟨h1, h2⟩
theorem mul_l {a b : Int} (h1 : -(2 ^ 64) < a) (h2 : a < 2 ^ 64) : mulOk a b = true := by unfold mulOk; simp only [Bool.or_eq_true, Bool.and_eq_true, decide_eq_true_eq]; exact .inl ⟨h1, h2⟩
theorem load_spec {h : MH} {s c : Nat} {cs : List Int} {n t : Int} (hs : h[s]? = some (.lst [.int n, .ob c, .int t])) (hc : h[c]? = some (.lst (cs.map D.int))) (ne : c ≠ s) (t0 : 0 ≤ t) (tB : t < 2 ^ 60) :
    Rn (F__law_load [.ob s] h) fun p => ∃ n', 0 ≤ n' ∧ p = (.non, h.set s (.lst [.int n', .ob c, .int (t + 1)])) := by
  have hl : s < h.length := (List.getElem?_eq_some_iff.mp hs).1
  generalize hH : h.set s (.lst [.int n, .ob c, .int (t + 1)]) = H
  have Hs : H[s]? = some (.lst [.int n, .ob c, .int (t + 1)]) := by rw [← hH]; exact List.getElem?_set_self hl
  have Hc : H[c]? = some (.lst (cs.map D.int)) := by rw [← hH, List.getElem?_set_ne (Ne.symm ne)]; exact hc
  have set0 : ∀ v : Int, fSet (.ob s) (.int 0) (.int v) H = some (h.set s (.lst [.int v, .ob c, .int (t + 1)])) := fun v => by
    rw [fSet_ob (p := 0) Hs rfl, ← hH, List.set_set]; rfl
  have e3 : fSet (.ob s) (.int 2) (.int (t + 1)) h = some H := by rw [fSet_ob (p := 2) hs rfl, ← hH]; rfl
  have e4 : fLen [.ob c] H = some (.int cs.length, H) := by rw [fLen_ob Hc, List.length_map]
  refine r_mkF ?_
  walk_at "go"
  refine rv (fIx_ob hs rfl) ?_
  walk_at "go"
  refine rv (fIx_ob hs rfl) ?_
  walk_at "go"
  refine rv rfl ?_
  walk_at "go"
  refine rv e3 ?_
  walk_at "go"
  refine rv (fNeA_ints Hc) ⟨_, rfl, fun hne => ?pos, fun hne => ?neg⟩
  case' pos =>
    have hpos : 0 < cs.length := by cases cs with | nil => simp at hne | cons _ _ => simp
    walk_at "go"
    refine rv e4 (rn_mod (by omega) ?_)
    obtain ⟨z, hz⟩ := atI_ints cs (t % (cs.length : Int)) (Int.emod_nonneg _ (by omega)) (Int.emod_lt_of_pos _ (by omega))
    refine rv (fIx_ob Hc hz) ?_
  all_goals
    walk_at "go"
    refine rv e4 (rv rfl ⟨_, rfl, ?_⟩)
    refine (fun mix => ⟨fun c1 => ?thenA, fun _ => ⟨fun z => (nomatch z), fun _ => mix⟩⟩) ?thenB
    case thenA =>
      walk_at "go"
      refine rv rfl ?_
      walk_at "go"
      refine rv rfl (rv rfl ⟨_, rfl, fun c2 => ?_, fun _ => mix⟩)
      walk_at "go"
      refine rv rfl ?_
      walk_at "go"
      refine rv (set0 _) ?_
      walk_at "go"
      exact ⟨_, by split <;> omega, rfl⟩
    case thenB =>
      walk_at "go"
      refine rn_mod (by decide) ?_
      walk_at "go"
      refine rn_mul (mul_l (by decide) (by decide)) ?_
      walk_at "go"
      refine rn_mul (mul_r (by omega) (by omega)) (rv rfl ?_)
      walk_at "go"
      refine rv rfl ?_
      walk_at "go"
      refine rn_mul (mul_r (by decide) (by decide)) ?_
      walk_at "go"
      refine rn_mod (by decide) ?_
      walk_at "go"
      refine rn_mul (mul_l (Int.lt_of_lt_of_le (by decide) (Int.emod_nonneg _ (by decide))) (Int.lt_trans (Int.emod_lt_of_pos _ (by decide)) (by decide))) ?_
      walk_at "go"
      refine rn_mod (by decide) ?_
      walk_at "go"
      refine rn_mul (mul_r (by decide) (by decide)) ?_
      walk_at "go"
      refine rv rfl ?_
      walk_at "go"
      refine rv rfl ?_
      walk_at "go"
      refine rn_mod (by decide) ?_
      walk_at "go"
      refine rv rfl (rv rfl ?_)
      walk_at "go"
      refine rv (set0 _) ?_
      walk_at "go"
      exact ⟨_, Int.add_nonneg (Int.emod_nonneg _ (by decide)) (by decide), rfl⟩
end Mi
namespace Mi
open PySem Sm
/-- the state of the draws: at s, its cells at c; at most B loads so far -/
structure St (s c : Nat) (cs : List Int) (B : Nat) (h : MH) : Prop where
  st : ∃ n t : Int, h[s]? = some (.lst [.int n, .ob c, .int t]) ∧ 0 ≤ n ∧ 0 ≤ t ∧ t ≤ B
  ce : h[c]? = some (.lst (cs.map D.int))
  ne : c ≠ s
/-- all but the state is as it was -/
def But (s : Nat) (h h' : MH) : Prop := h'.length = h.length ∧ ∀ k, k ≠ s → h'[k]? = h[k]?
theorem But.refl (s : Nat) (h : MH) : But s h h := ⟨rfl, fun _ _ => rfl⟩
theorem But.trans {s : Nat} {h h1 h2 : MH} (a : But s h h1) (b : But s h1 h2) : But s h h2 := ⟨b.1.trans a.1, fun k n => (b.2 k n).trans (a.2 k n)⟩
theorem But.set {s : Nat} {h : MH} {o : MO} : But s h (h.set s o) := ⟨List.length_set, fun k n => List.getElem?_set_ne (Ne.symm n)⟩
theorem St.up {s c : Nat} {cs : List Int} {B B' : Nat} {h : MH} (S : St s c cs B h) (hB : B ≤ B') : St s c cs B' h := by
  obtain ⟨n, t, e, a, b, d⟩ := S.st
  exact ⟨⟨n, t, e, a, b, by omega⟩, S.ce, S.ne⟩
theorem St.set {s c : Nat} {cs : List Int} {B B' : Nat} {h : MH} {n t : Int} (S : St s c cs B h) (h1 : 0 ≤ n) (h2 : 0 ≤ t) (h3 : t ≤ B') : St s c cs B' (h.set s (.lst [.int n, .ob c, .int t])) := by
  obtain ⟨n0, t0, e, _⟩ := S.st
  exact ⟨⟨n, t, List.getElem?_set_self (List.getElem?_eq_some_iff.mp e).1, h1, h2, h3⟩, by rw [List.getElem?_set_ne (Ne.symm S.ne)]; exact S.ce, S.ne⟩
theorem St.more {s c : Nat} {cs : List Int} {B : Nat} {h : MH} (S : St s c cs B h) (g : MH) : St s c cs B (h ++ g) := by
  obtain ⟨n, t, e, r⟩ := S.st
  exact ⟨⟨n, t, by rw [List.getElem?_append_left (List.getElem?_eq_some_iff.mp e).1]; exact e, r⟩, by rw [List.getElem?_append_left (List.getElem?_eq_some_iff.mp S.ce).1]; exact S.ce, S.ne⟩
theorem St.off {s c : Nat} {cs : List Int} {B k : Nat} {h : MH} {o : MO} (S : St s c cs B h) (h1 : k ≠ s) (h2 : k ≠ c) : St s c cs B (h.set k o) := by
  obtain ⟨n, t, e, r⟩ := S.st
  exact ⟨⟨n, t, by rw [List.getElem?_set_ne h1]; exact e, r⟩, by rw [List.getElem?_set_ne h2]; exact S.ce, S.ne⟩
theorem St.lt {s c : Nat} {cs : List Int} {B : Nat} {h : MH} (S : St s c cs B h) : s < h.length ∧ c < h.length := by
  obtain ⟨n, t, e, r⟩ := S.st
  exact ⟨(List.getElem?_eq_some_iff.mp e).1, (List.getElem?_eq_some_iff.mp S.ce).1⟩
theorem next_spec {h : MH} {s c : Nat} {cs : List Int} {B : Nat} {m : Int} (S : St s c cs B h) (hB : B < 2 ^ 60) (m0 : 0 < m) (m1 : m ≤ 10 ^ 40) :
    Rn (F__law_next [.ob s, .int m] h) fun p => ∃ r : Int, p.1 = .int r ∧ 0 ≤ r ∧ r < m ∧ St s c cs (B + 1) p.2 ∧ But s h p.2 := by
  obtain ⟨n, t, hs, n0, t0, tB⟩ := S.st
  refine r_mkF ?_
  walk_at "go"
  refine rv (fIx_ob hs rfl) ?_
  walk_at "go"
  refine rv rfl ⟨_, rfl, fun _ => ?pos, fun _ => ?neg⟩
  case' pos =>
    walk_at "go"
    obtain ⟨p, ep, n', n0', rfl⟩ := load_spec hs S.ce S.ne t0 (by omega)
    refine rv ep ?_
    have S1 : St s c cs (B + 1) (h.set s (.lst [.int n', .ob c, .int (t + 1)])) := S.set n0' (by omega) (by omega)
    have b1 : But s h (h.set s (.lst [.int n', .ob c, .int (t + 1)])) := But.set
  case' neg =>
    have S1 : St s c cs (B + 1) h := S.up (Nat.le_succ B)
    have b1 : But s h h := But.refl s h
  all_goals
    generalize h.set s (MO.lst [D.int _, D.ob c, D.int (t + 1)]) = h1 at *
    obtain ⟨n2, t2, hs2, n02, t02, tB2⟩ := S1.st
    walk_at "go"
    refine rv (fIx_ob hs2 rfl) ?_
    walk_at "go"
    refine rn_mod m0 ?_
    walk_at "go"
    refine rv (fIx_ob hs2 rfl) ?_
    walk_at "go"
    refine rn_div m0 m1 ?_
    walk_at "go"
    refine rv (fSet_ob (p := 0) hs2 rfl) ?_
    walk_at "go"
    exact ⟨_, rfl, Int.emod_nonneg _ (by omega), Int.emod_lt_of_pos _ m0, S1.set (Int.ediv_nonneg n02 (by omega)) t02 tB2, b1.trans But.set⟩
/-- a thing drawn from a list or a tuple -/
theorem of_spec {h : MH} {s c : Nat} {cs : List Int} {B : Nat} {d : D} {xs : List D} (S : St s c cs B h) (hB : B < 2 ^ 60) (hd : d = .lv xs ∨ d = .tup xs) (h0 : 0 < xs.length) (h1 : xs.length ≤ 1000000) :
    Rn (F__law_of [.ob s, d] h) fun p => p.1 ∈ xs ∧ St s c cs (B + 1) p.2 ∧ But s h p.2 := by
  refine r_mkF ?_
  walk_at "go"
  have e1 : fLen [d] h = some (.int xs.length, h) := by rcases hd with rfl | rfl <;> rfl
  refine rv e1 ?_
  walk_at "go"
  obtain ⟨p, ep, r, e2, r0, r1, S1, b1⟩ := next_spec (m := (xs.length : Int)) S hB (by omega) (by omega)
  obtain ⟨x, h'⟩ := p
  dsimp only at e2 S1 b1
  subst e2
  refine rv ep ?_
  obtain ⟨v, e3, hv⟩ := atI_lt r0 r1
  have e4 : fIx d (.int r) h' = some (v, h') := by rcases hd with rfl | rfl <;> simp only [fIx, dctO, seqD, Option.bind_some, e3, Option.map_some]
  refine rv e4 ?_
  walk_at "go"
  exact ⟨hv, S1, b1⟩
/-- the script, taken up -/
theorem drawn_spec (ns : List Int) (hn : ns.length ≤ 63) : ∃ cs : List Int, F__law_drawn [.ro (ns.map D.int)] [] = some (.ob 1, [.lst (cs.map D.int), .lst [.int 0, .ob 0, .int 0]]) ∧ St 1 0 cs 0 [.lst (cs.map D.int), .lst [.int 0, .ob 0, .int 0]] := by
  refine ⟨(ns.drop (HT.sIx ns.length 0 none)).take (HT.sIx ns.length ns.length (some 63) - HT.sIx ns.length 0 none), ?_, ⟨⟨0, 0, rfl, by decide, by decide, by decide⟩, rfl, by decide⟩⟩
  have e : Rn (F__law_drawn [.ro (ns.map D.int)] []) fun p => p = (.ob 1, [.lst (((ns.drop (HT.sIx ns.length 0 none)).take (HT.sIx ns.length ns.length (some 63) - HT.sIx ns.length 0 none)).map D.int), .lst [.int 0, .ob 0, .int 0]]) := by
    refine r_mkF ?_
    walk_at "go"
    refine r_list ?_
    walk_at "go"
    refine ⟨_, rfl, rv rfl ?_⟩
    walk_at "go"
    refine ⟨_, _, _, rfl, rfl, ?_⟩
    walk_at "go"
    simp only [cutD, List.length_map, List.map_drop, List.map_take, List.length_nil, List.nil_append, List.cons_append, List.length_cons]
  obtain ⟨p, ep, rfl⟩ := e
  exact ep
end Mi

namespace Mi
open PySem Sm
/-! ### value_of, put_in -/
def vI : Option D → Int
  | some (.int z) => z
  | _ => 0
def val (kvs : List (L2.Key × D)) (w : Str) : Int := if w = "" then 0 else vI (valD kvs (.inr w))
theorem value_spec {d : D} {kvs : List (L2.Key × D)} {h : MH} {w : Str} {f : Int} (hd : dctO d h = some kvs) (hw : w = "" ∨ ∃ z, valD kvs (.inr w) = some (.int z)) : F_value_of [.tup [.str w, .int f], d] h = some (.int (val kvs w + f), h) := by
  have e : Rn (F_value_of [.tup [.str w, .int f], d] h) fun p => p = (.int (val kvs w + f), h) := by
    refine r_mkF ?_
    walk_at "go"
    refine rv (fEqA_str _ _ _) ⟨_, rfl, fun c => ?_, fun c => ?_⟩
    · walk_at "go"
      have : w = "" := by simpa using c
      rw [this]
      simp [val]
    · walk_at "go"
      have c' : ¬ w = "" := by simpa using c
      obtain ⟨z, hz⟩ := hw.resolve_left c'
      refine rv (fIx_dct hd hz) ?_
      walk_at "go"
      refine rv rfl ?_
      walk_at "go"
      simp [val, c', hz, vI]
  obtain ⟨p, ep, rfl⟩ := e
  exact ep
def put (ovs : List (L2.Key × D)) (w : Str) (f : Int) : Str × Int := if w = "" then (w, f) else match valD ovs (.inr w) with
  | some (.tup [.str o, .int m]) => (o, f + m)
  | _ => (w, f)
theorem put_spec {d : D} {ovs : List (L2.Key × D)} {h : MH} {w : Str} {f : Int} (hd : dctO d h = some ovs) (hw : w = "" ∨ ∃ o m, valD ovs (.inr w) = some (.tup [.str o, .int m])) : F_put_in [.tup [.str w, .int f], d] h = some (.tup [.str (put ovs w f).1, .int (put ovs w f).2], h) := by
  have e : Rn (F_put_in [.tup [.str w, .int f], d] h) fun p => p = (.tup [.str (put ovs w f).1, .int (put ovs w f).2], h) := by
    refine r_mkF ?_
    walk_at "go"
    refine rv (fEqA_str _ _ _) ⟨_, rfl, fun c => ?_, fun c => ?_⟩
    · have : w = "" := by simpa using c
      subst this
      refine ⟨fun _ => ?_, fun z => (nomatch z)⟩
      walk_at "go"
      refine rv rfl ?_
      walk_at "go"
      rfl
    · have c' : ¬ w = "" := by simpa using c
      obtain ⟨o, m, hz⟩ := hw.resolve_left c'
      walk_at "go"
      refine rv (fNotIn_dct hd) ⟨_, rfl, fun c2 => ?_, fun c2 => ?_⟩
      · rw [hz] at c2; simp at c2
      · walk_at "go"
        refine rv (fIx_dct hd hz) ?_
        walk_at "go"
        refine rv rfl ?_
        walk_at "go"
        refine rv rfl ?_
        walk_at "go"
        simp [put, c', hz]
  obtain ⟨p, ep, rfl⟩ := e
  exact ep
theorem same_int (n : Nat) (a : Int) (h : MH) : F__law_same (n + 1) [.int a, .int a] h = some (.bl true, h) := by
  have e : Rn (F__law_same (n + 1) [.int a, .int a] h) fun p => p = (.bl true, h) := by
    refine r_mkF ?_
    walk_at "go"
    refine rv rfl ⟨_, rfl, fun z => (nomatch z), fun _ => ?_⟩
    walk_at "go"
    refine rv rfl ⟨_, rfl, fun z => (nomatch z), fun _ => ?_⟩
    walk_at "go"
    refine rv rfl ⟨_, rfl, fun z => (nomatch z), fun _ => ?_⟩
    walk_at "go"
    refine rv rfl ⟨_, rfl, fun z => (nomatch z), fun _ => ?_⟩
    walk_at "go"
    refine rv rfl ⟨_, rfl, fun _ => ?_, fun z => (nomatch z)⟩
    walk_at "go"
    refine rv rfl ⟨_, rfl, _, rfl, fun _ => ?_, fun z => (nomatch z)⟩
    walk_at "go"
    refine rv (fEqA_int _ _ _) ?_
    walk_at "go"
    simp
  obtain ⟨p, ep, rfl⟩ := e
  exact ep
theorem same_str (n : Nat) (a : Str) (h : MH) : F__law_same (n + 1) [.str a, .str a] h = some (.bl true, h) := by
  have e : Rn (F__law_same (n + 1) [.str a, .str a] h) fun p => p = (.bl true, h) := by
    refine r_mkF ?_
    walk_at "go"
    refine rv rfl ⟨_, rfl, fun z => (nomatch z), fun _ => ?_⟩
    walk_at "go"
    refine rv rfl ⟨_, rfl, fun z => (nomatch z), fun _ => ?_⟩
    walk_at "go"
    refine rv rfl ⟨_, rfl, fun _ => ?_, fun z => (nomatch z)⟩
    walk_at "go"
    refine rv rfl ⟨_, rfl, fun _ => ?_, fun z => (nomatch z)⟩
    walk_at "go"
    refine rv (fEqA_str _ _ _) ?_
    walk_at "go"
    simp
  obtain ⟨p, ep, rfl⟩ := e
  exact ep
theorem same_pair (n : Nat) (a : Str) (b : Int) (h : MH) : F__law_same (n + 2) [.tup [.str a, .int b], .tup [.str a, .int b]] h = some (.bl true, h) := by
  have e : Rn (F__law_same (n + 2) [.tup [.str a, .int b], .tup [.str a, .int b]] h) fun p => p = (.bl true, h) := by
    refine r_mkF ?_
    walk_at "go"
    refine rv rfl ⟨_, rfl, fun _ => ?_, fun z => (nomatch z)⟩
    walk_at "go"
    refine rv rfl ⟨_, rfl, fun z => (nomatch z), fun _ => ?_⟩
    walk_at "go"
    refine rv rfl ?_
    walk_at "go"
    refine rv rfl ?_
    walk_at "go"
    refine rv (fNeA_int _ _ _) ⟨_, rfl, fun z => absurd z (by simp), fun _ => ?_⟩
    walk_at "go"
    refine r_izip ?_
    walk_at "go"
    refine ⟨_, _, _, _, _, _, rfl, rfl, rfl, ?_⟩
    have ec := r_compD (ws := []) (g := gT 2 (gsCons (gN 0) (gsCons (gN 1) gsNil))) (c := Sm.tYes) (e := eFn (F__law_same (n + 1)) (aCons (eVar 0) (aCons (eVar 1) aNil))) (h := h) rfl (fun _ => some (.bl true)) (fun δ => δ.length = 2) (xs := zipL [.str a, .int b] [.str a, .int b]) (δ := [none, none]) rfl (fun x hx δ hδ => by
      have hx' : x = .tup [.str a, .str a] ∨ x = .tup [.int b, .int b] := by simpa [zipL] using hx
      obtain ⟨d0, d1, rfl⟩ : ∃ d0 d1, δ = [d0, d1] := by
        match δ, hδ with
        | [d0, d1], _ => exact ⟨d0, d1, rfl⟩
      rcases hx' with rfl | rfl
      · walk_at "go"
        refine ⟨rfl, rv rfl ⟨rfl, rfl, fun _ => ⟨_, rfl, ?_⟩, fun z => (nomatch z)⟩⟩
        walk_at "go"
        exact rv (same_str n a h) rfl
      · walk_at "go"
        refine ⟨rfl, rv rfl ⟨rfl, rfl, fun _ => ⟨_, rfl, ?_⟩, fun z => (nomatch z)⟩⟩
        walk_at "go"
        exact rv (same_int n b h) rfl)
    refine rv ec ⟨by show 2 ≤ sizeLine; decide, ?_⟩
    walk_at "go"
    refine rv rfl ?_
    walk_at "go"
    rfl
  obtain ⟨p, ep, rfl⟩ := e
  exact ep
end Mi

namespace Mi
open PySem Sm
abbrev W4 : List Str := ["a", "b", "xyz", "abcdefgh"]
theorem any_spec {h : MH} {c : Nat} {cs : List Int} {B : Nat} (S : St 1 c cs B h) (hB : B + 2 < 2 ^ 60) :
    Rn (F__law_any [.ob 1, .lv (W4.map D.str)] h) fun p => ∃ (w : Str) (f : Int), p.1 = .tup [.str w, .int f] ∧ (w = "" ∨ w ∈ W4) ∧ St 1 c cs (B + 2) p.2 ∧ But 1 h p.2 := by
  refine r_mkF ?_
  walk_at "go"
  refine rv rfl ?_
  walk_at "go"
  obtain ⟨⟨x, h1⟩, e1, hx, S1, b1⟩ := of_spec (d := .lv (W4.map D.str ++ [.str ""])) S (by omega) (.inl rfl) (by simp) (by simp)
  refine rv e1 ?_
  walk_at "go"
  obtain ⟨⟨y, h2⟩, e2, r, ey, r0, r1, S2, b2⟩ := next_spec (m := 199) S1 (by omega) (by decide) (by decide)
  dsimp only at ey S2 b2 e2
  subst ey
  refine rv e2 ?_
  walk_at "go"
  refine rv rfl ?_
  walk_at "go"
  refine rv rfl ?_
  walk_at "go"
  have hx' : ∃ w, x = .str w ∧ (w = "" ∨ w ∈ W4) := by
    dsimp only at hx
    rcases List.mem_append.mp hx with hx | hx
    · obtain ⟨w, hw, rfl⟩ := List.mem_map.mp hx
      exact ⟨w, rfl, .inr hw⟩
    · rw [List.mem_singleton.mp hx]
      exact ⟨"", rfl, .inl rfl⟩
  obtain ⟨w, rfl, hw⟩ := hx'
  exact ⟨w, _, rfl, hw, S2, b1.trans b2⟩
/-- what the two dicts hold behind i words -/
structure Two (i : Nat) (kvs ovs : List (L2.Key × D)) : Prop where
  kk : kvs.map (·.1) = (W4.take i).map .inr
  ok : ovs.map (·.1) = (W4.take i).map .inr
  kv : ∀ p ∈ kvs, ∃ z, p.2 = .int z
  ov : ∀ p ∈ ovs, ∃ (w : Str) (f : Int), p.2 = .tup [.str w, .int f] ∧ (w = "" ∨ w ∈ W4)
theorem w4_nodup : (W4.map (Sum.inr : Str → L2.Key)).Nodup := by decide +kernel
theorem w4_new {i : Nat} {w : Str} (h : W4[i]? = some w) : (Sum.inr w : L2.Key) ∉ (W4.take i).map (Sum.inr : Str → L2.Key) := by
  have nd := w4_nodup
  intro m
  have hi : i < W4.length := (List.getElem?_eq_some_iff.mp h).1
  have e : W4.map (Sum.inr : Str → L2.Key) = (W4.take i).map .inr ++ (Sum.inr w :: (W4.drop (i + 1)).map .inr) := by
    have e1 : W4.drop i = w :: W4.drop (i + 1) := by
      rw [List.drop_eq_getElem_cons hi, (List.getElem?_eq_some_iff.mp h).2]
    conv => lhs; rw [← List.take_append_drop i W4, e1]
    simp
  rw [e, List.nodup_append] at nd
  exact nd.2.2 _ m _ List.mem_cons_self rfl
theorem Two.put {i : Nat} {kvs ovs : List (L2.Key × D)} {w x : Str} {z f : Int} (T : Two i kvs ovs) (hw : W4[i]? = some w) (hx : x = "" ∨ x ∈ W4) : Two (i + 1) (putD kvs (.inr w) (.int z)) (putD ovs (.inr w) (.tup [.str x, .int f])) := by
  have n1 : (Sum.inr w : L2.Key) ∉ kvs.map (·.1) := by rw [T.kk]; exact w4_new hw
  have n2 : (Sum.inr w : L2.Key) ∉ ovs.map (·.1) := by rw [T.ok]; exact w4_new hw
  have et : W4.take (i + 1) = W4.take i ++ [w] := by rw [List.take_succ, hw]; rfl
  rw [putD_new n1, putD_new n2]
  refine ⟨by rw [List.map_append, T.kk, et, List.map_append]; rfl, by rw [List.map_append, T.ok, et, List.map_append]; rfl, fun p hp => ?_, fun p hp => ?_⟩
  · rcases List.mem_append.mp hp with hp | hp
    · exact T.kv p hp
    · rw [List.mem_singleton.mp hp]; exact ⟨z, rfl⟩
  · rcases List.mem_append.mp hp with hp | hp
    · exact T.ov p hp
    · rw [List.mem_singleton.mp hp]; exact ⟨x, f, rfl, hx⟩
theorem Two.known {kvs ovs : List (L2.Key × D)} (T : Two 4 kvs ovs) {w : Str} (hw : w = "" ∨ w ∈ W4) : w = "" ∨ ∃ z, valD kvs (.inr w) = some (.int z) := by
  rcases hw with rfl | hw
  · exact .inl rfl
  · obtain ⟨v, e⟩ := valD_some (kvs := kvs) (k := .inr w) (by rw [T.kk]; exact List.mem_map.mpr ⟨w, hw, rfl⟩)
    obtain ⟨z, ez⟩ := T.kv _ (valD_mem e)
    dsimp only at ez
    subst ez
    exact .inr ⟨z, e⟩
theorem Two.other {kvs ovs : List (L2.Key × D)} (T : Two 4 kvs ovs) {w : Str} (hw : w = "" ∨ w ∈ W4) : w = "" ∨ ∃ o m, valD ovs (.inr w) = some (.tup [.str o, .int m]) ∧ (o = "" ∨ o ∈ W4) := by
  rcases hw with rfl | hw
  · exact .inl rfl
  · obtain ⟨v, e⟩ := valD_some (kvs := ovs) (k := .inr w) (by rw [T.ok]; exact List.mem_map.mpr ⟨w, hw, rfl⟩)
    obtain ⟨o, m, ez, ho⟩ := T.ov _ (valD_mem e)
    dsimp only at ez
    subst ez
    exact .inr ⟨o, m, e, ho⟩
end Mi

namespace Mi
open PySem Sm
theorem But.get {s k : Nat} {h h' : MH} {o : MO} (b : But s h h') (n : k ≠ s) (e : h[k]? = some o) : h'[k]? = some o := (b.2 k n).trans e
theorem py_int (z : Int) : ∃ a, pyD (.int z) = some a ∧ a.depth ≤ 60 ∧ PyData.eqv a a = true := ⟨.int z, rfl, by simp [PyData.depth], by simp [PyData.eqv]⟩
theorem py_pair (w : Str) (f : Int) : ∃ a, pyD (.tup [.str w, .int f]) = some a ∧ a.depth ≤ 60 ∧ PyData.eqv a a = true :=
  ⟨.tuple [.str w, .int f], rfl, by simp [PyData.depth, PyData.depthAll], by simp [PyData.eqv, PyData.eqvAll]⟩
theorem fNeA_pair (a : Str) (b : Int) (h : MH) : fNeA (.tup [.str a, .int b]) (.tup [.str a, .int b]) h = some (.bl false, h) := by
  have e : eqD (.tup [.str a, .int b]) (.tup [.str a, .int b]) h = some true := by
    simp [eqD, rdD, pyD, pyL, PyData.depth, PyData.depthAll, PyData.eqv, PyData.eqvAll]
  simp only [fNeA, eqA, dctO, e, Option.map_some, Bool.not_true]
/-- the inner numbers -/
def iv (kvs ovs : List (L2.Key × D)) (w : Str) : Int := match valD ovs (.inr w) with
  | some (.tup [.str o, .int m]) => val kvs o + m
  | _ => 0
def innerD (kvs ovs : List (L2.Key × D)) : List (L2.Key × D) := W4.map fun w => (.inr w, .int (iv kvs ovs w))
theorem inner_keys (kvs ovs : List (L2.Key × D)) : (innerD kvs ovs).map (·.1) = W4.map .inr := rfl
theorem inner_val {kvs ovs : List (L2.Key × D)} {w : Str} (hw : w ∈ W4) : valD (innerD kvs ovs) (.inr w) = some (.int (iv kvs ovs w)) :=
  valD_of_mem (by rw [inner_keys]; exact w4_nodup) (List.mem_map.mpr ⟨w, hw, rfl⟩)
def inF (kvs ovs : List (L2.Key × D)) : D → Option D
  | .str w => some (.tup [.str w, .int (iv kvs ovs w)])
  | _ => none
theorem inner_comp {kvs ovs : List (L2.Key × D)} {h : MH} {a b : D} (T : Two 4 kvs ovs) (dk : dctO a h = some kvs) (do_ : dctO b h = some ovs) (δ : DS) (hδ : δ = [none, some a, some b]) :
    compD [] (gN 0) Sm.tYes (eFn fTup (aCons (eVar 0) (aCons (eFn F_value_of (aCons (eOp fIx (eVar 2) (eVar 0)) (aCons (eVar 1) aNil))) aNil))) (W4.map D.str) δ h = some (W4.map fun w => .tup [.str w, .int (iv kvs ovs w)], h) := by
  subst hδ
  have e := r_compD (ws := []) (g := gN 0) (c := Sm.tYes) (e := eFn fTup (aCons (eVar 0) (aCons (eFn F_value_of (aCons (eOp fIx (eVar 2) (eVar 0)) (aCons (eVar 1) aNil))) aNil))) (h := h) rfl (inF kvs ovs) (fun δ => ∃ d, δ = [d, some a, some b]) (xs := W4.map D.str) (δ := [none, some a, some b]) ⟨none, rfl⟩ (fun x hx δ hδ => by
    obtain ⟨d, rfl⟩ := hδ
    obtain ⟨w, hw, rfl⟩ := List.mem_map.mp hx
    walk_at "go"
    refine ⟨rfl, rv rfl ⟨rfl, ⟨_, rfl⟩, fun _ => ⟨_, rfl, ?_⟩, fun z => (nomatch z)⟩⟩
    walk_at "go"
    have nw : ¬ w = "" := by
      rintro rfl
      exact absurd hw (by decide +kernel)
    obtain ⟨o, m, hom, ho4⟩ := (T.other (.inr hw)).resolve_left nw
    refine rv (fIx_dct do_ hom) ?_
    walk_at "go"
    refine rv (value_spec dk (T.known ho4)) ?_
    walk_at "go"
    refine rv rfl ?_
    simp [iv, hom])
  exact e
theorem inner_dict (kvs ovs : List (L2.Key × D)) (h : MH) : fDictA [.lv (W4.map fun w => .tup [.str w, .int (iv kvs ovs w)])] h = some (.dv (innerD kvs ovs), h) := by
  have e1 : pairsD (W4.map fun w => D.tup [.str w, .int (iv kvs ovs w)]) = some (innerD kvs ovs) := rfl
  have e2 : mergeD [] (innerD kvs ovs) = innerD kvs ovs := mergeD_new (by rw [List.nil_append, inner_keys]; exact w4_nodup)
  simp only [fDictA, dctO, lstO, Option.bind_some, e1, e2]
  rw [if_pos (by simp)]
theorem law_true (ns : List Int) (hn : ns.length ≤ 63) : ∃ h', F_law [.ro (ns.map D.int)] [] = some (.bl true, h') := by
  have e : Rn (F_law [.ro (ns.map D.int)] []) fun p => p.1 = .bl true := by
    obtain ⟨cs, ed, S0⟩ := drawn_spec ns hn
    refine r_mkF ?_
    walk_at "go"
    refine rv ed ?_
    walk_at "go"
    refine r_irng ?_
    walk_at "go"
    refine ⟨20, rfl, by decide, by decide, ?_⟩
    refine r_forD (fun i δ h => ∃ v3 v4 v5 v6 v7 v8 v9 v10 v11 v12 v13, δ = [some (.ro (ns.map D.int)), some (.ob 1), some (.lv (W4.map D.str)), v3, v4, v5, v6, v7, v8, v9, v10, v11, v12, v13] ∧ St 1 0 cs (100 * i) h)
      ⟨none, none, none, none, none, none, none, none, none, none, none, rfl, S0⟩ (fun _ _ _ _ _ => rfl) ?_ ?_
    · rintro i x δ h hx ⟨v3, v4, v5, v6, v7, v8, v9, v10, v11, v12, v13, rfl, S⟩
      have hi : i < 20 := by
        have := (List.getElem?_eq_some_iff.mp hx).1
        simpa using this
      obtain ⟨ls, lc⟩ := S.lt
      walk_at "go"
      refine r_iseq ?_
      walk_at "go"
      refine ⟨_, _, rfl, ?_⟩
      -- the words
      refine r_forD (fun j δ h' => ∃ v6 kvs ovs, δ = [some (.ro (ns.map D.int)), some (.ob 1), some (.lv (W4.map D.str)), some x, some (.ob h.length), some (.ob (h.length + 1)), v6, v7, v8, v9, v10, v11, v12, v13] ∧ Two j kvs ovs ∧ St 1 0 cs (100 * i + 10 * j) h' ∧
          h'.length = h.length + 2 ∧ h'[h.length]? = some (.dct kvs) ∧ h'[h.length + 1]? = some (.dct ovs)) ?start (fun _ _ _ _ _ => rfl) ?turn ?rest
      case start =>
        refine ⟨v6, [], [], by simp, ⟨rfl, rfl, fun p hp => (nomatch hp), fun p hp => (nomatch hp)⟩, (S.more _).more _, by simp, ?_, ?_⟩
        · rw [List.getElem?_append_left (by simp), List.getElem?_append_right (Nat.le_refl _)]; simp
        · rw [List.getElem?_append_right (by simp)]; simp
      case turn =>
        rintro j y δ h1 hy ⟨v6', kvs, ovs, rfl, T, S1, l1, hk, ho⟩
        have hj : j < 4 := by
          have := (List.getElem?_eq_some_iff.mp hy).1
          simpa using this
        have hw : ∃ w, y = .str w ∧ W4[j]? = some w := by
          rw [List.getElem?_map] at hy
          obtain ⟨w, e1, e2⟩ := mpd hy
          exact ⟨w, e2.symm, e1⟩
        obtain ⟨w, rfl, hw⟩ := hw
        walk_at "go"
        refine rv rfl ?_
        walk_at "go"
        obtain ⟨⟨x1, h2⟩, e1, hx1, S2, b2⟩ := of_spec (d := .lv [.int 1, .int (-1)]) S1 (by omega) (.inl rfl) (by simp) (by simp)
        refine rv e1 ?_
        walk_at "go"
        refine rv rfl ?_
        walk_at "go"
        refine rv rfl ?_
        walk_at "go"
        obtain ⟨⟨x2, h3⟩, e2, hx2, S3, b3⟩ := of_spec (d := .lv [.int 3, .int 100, .int (10 ^ 6), .int (10 ^ 30)]) S2 (by omega) (.inl rfl) (by simp) (by simp)
        refine rv e2 ?_
        walk_at "go"
        have hx2' : ∃ m : Int, x2 = .int m ∧ 0 < m ∧ m ≤ 10 ^ 40 := by
          simp only [List.mem_cons, List.mem_nil_iff, or_false] at hx2
          rcases hx2 with rfl | rfl | rfl | rfl
          · exact ⟨_, rfl, by decide, by decide⟩
          · exact ⟨_, rfl, by decide, by decide⟩
          · exact ⟨_, rfl, by decide, by decide⟩
          · exact ⟨_, rfl, by decide, by decide⟩
        obtain ⟨m, rfl, m0, m1⟩ := hx2'
        obtain ⟨⟨x3, h4⟩, e3, r, er, r0, r1, S4, b4⟩ := next_spec (m := m) S3 (by omega) m0 m1
        dsimp only at er S4 b4 e3
        subst er
        refine rv e3 ?_
        have hx1' : ∃ g : Int, x1 = .int g ∧ -(2 ^ 64) < g ∧ g < 2 ^ 64 := by
          simp only [List.mem_cons, List.mem_nil_iff, or_false] at hx1
          rcases hx1 with rfl | rfl
          · exact ⟨_, rfl, by decide, by decide⟩
          · exact ⟨_, rfl, by decide, by decide⟩
        obtain ⟨g, rfl, g0, g1⟩ := hx1'
        refine rn_mul (mul_l g0 g1) ?_
        walk_at "go"
        have B14 : But 1 h1 h4 := (b2.trans b3).trans b4
        have ne1 : h.length ≠ 1 := by omega
        have ne2 : h.length + 1 ≠ 1 := by omega
        have lk : kvs.length ≤ 4 := by
          have := congrArg List.length T.kk
          rw [List.length_map, List.length_map, List.length_take] at this
          have h5 : W4.length = 4 := rfl
          omega
        have lo : ovs.length ≤ 4 := by
          have := congrArg List.length T.ok
          rw [List.length_map, List.length_map, List.length_take] at this
          have h5 : W4.length = 4 := rfl
          omega
        have sz : (100 : Nat) < sizeLine := by decide
        refine rv (fSet_dct (B14.get ne1 hk) (by omega)) ?_
        walk_at "go"
        have S5 : St 1 0 cs (100 * i + 10 * j + 3) (h4.set h.length (.dct (putD kvs (.inr w) (.int (g * r))))) := S4.off (by omega) (by omega)
        obtain ⟨⟨x4, h6⟩, e4, w2, f2, ew, hw2, S6, b6⟩ := any_spec S5 (by omega)
        dsimp only at ew S6 b6 e4
        subst ew
        refine rv e4 ?_
        walk_at "go"
        have l4 : h4.length = h.length + 2 := B14.1.trans l1
        have ho6 : h6[h.length + 1]? = some (.dct ovs) := b6.get ne2 (by rw [List.getElem?_set_ne (by omega)]; exact B14.get ne2 ho)
        have hk6 : h6[h.length]? = some (.dct (putD kvs (.inr w) (.int (g * r)))) := b6.get ne1 (List.getElem?_set_self (by omega))
        have l6 : h6.length = h.length + 2 := by rw [b6.1, List.length_set]; exact l4
        refine rv (fSet_dct ho6 (by omega)) ?_
        walk_at "go"
        refine ⟨_, putD kvs (.inr w) (.int (g * r)), putD ovs (.inr w) (.tup [.str w2, .int f2]), rfl, T.put hw hw2, (S6.off (by omega) (by omega)).up (by omega), by rw [List.length_set]; exact l6, ?_, ?_⟩
        · rw [List.getElem?_set_ne (by omega)]; exact hk6
        · exact List.getElem?_set_self (by omega)
      case rest =>
        rintro δ h1 ⟨v6', kvs, ovs, rfl, T, S1, l1, hk, ho⟩
        have ne1 : h.length ≠ 1 := by omega
        have ne2 : h.length + 1 ≠ 1 := by omega
        walk_at "go"
        obtain ⟨⟨x4, h2⟩, e4, w, f, ew, hw, S2, b2⟩ := any_spec S1 (by simp; omega)
        dsimp only at ew S2 b2 e4
        subst ew
        refine rv e4 ?_
        have dk : dctO (.ob h.length) h2 = some kvs := dctO_ob (b2.get ne1 hk)
        have do_ : dctO (.ob (h.length + 1)) h2 = some ovs := dctO_ob (b2.get ne2 ho)
        have T : Two 4 kvs ovs := T
        have ndk : (kvs.map (·.1)).Nodup := by rw [T.kk]; exact w4_nodup
        have ndo : (ovs.map (·.1)).Nodup := by rw [T.ok]; exact w4_nodup
        have vk : ∀ p ∈ kvs, ∃ a, pyD p.2 = some a ∧ a.depth ≤ 60 ∧ PyData.eqv a a = true := fun p hp => by obtain ⟨z, e⟩ := T.kv p hp; rw [e]; exact py_int z
        have vo : ∀ p ∈ ovs, ∃ a, pyD p.2 = some a ∧ a.depth ≤ 60 ∧ PyData.eqv a a = true := fun p hp => by obtain ⟨z, y, e, _⟩ := T.ov p hp; rw [e]; exact py_pair z y
        walk_at "go"
        -- due
        refine rv (fNeA_str _ _ _) ⟨_, rfl, fun c => ?_, fun c => ?_⟩
        · have c' : ¬ w = "" := by simpa using c
          have hw4 : w ∈ W4 := hw.resolve_left c'
          obtain ⟨z, hz⟩ := (T.known hw).resolve_left c'
          obtain ⟨o, m, hom, ho4⟩ := (T.other hw).resolve_left c'
          have hv : val kvs w = z := by simp [val, c', hz, vI]
          have hp : put ovs w f = (o, f + m) := by simp [put, c', hom]
          walk_at "go"
          refine rv (fIx_dct dk hz) ?_
          walk_at "go"
          refine rv rfl ?_
          walk_at "go"
          refine rv (fDictA_dct dk) ?_
          walk_at "go"
          refine rv (fDictA_dct do_) ?_
          walk_at "go"
          refine ⟨_, _, rfl, ?_⟩
          walk_at "go"
          refine rv (value_spec (kvs := kvs) rfl (T.known hw)) ?_
          walk_at "go"
          refine rv (by rw [show val kvs w + f = f + z by omega]; exact same_int 3 _ _) ⟨_, rfl, fun z => absurd z (by decide), fun _ => ?_⟩
          walk_at "go"
          refine rv (fNeA_dicts rfl dk ndk vk) ⟨_, rfl, fun z => absurd z (by decide), fun _ => ?_⟩
          walk_at "go"
          refine rv (fNeA_str _ _ _) ⟨_, rfl, fun _ => ?_, fun c2 => absurd (c.symm.trans c2) (by simp)⟩
          walk_at "go"
          refine rv (fIx_dct do_ hom) ?_
          walk_at "go"
          refine rv rfl ?_
          walk_at "go"
          refine rv (fIx_dct do_ hom) ?_
          walk_at "go"
          refine rv rfl ?_
          walk_at "go"
          refine rv rfl ?_
          walk_at "go"
          refine rv rfl ?_
          walk_at "go"
          refine rv (put_spec (ovs := ovs) rfl ((T.other hw).imp id fun ⟨o, m, e, _⟩ => ⟨o, m, e⟩)) ?_
          walk_at "go"
          refine rv (by rw [hp, show f + m = m + f by omega]; exact same_pair 2 _ _ _) ⟨_, rfl, fun z => absurd z (by decide), fun _ => ?_⟩
          walk_at "go"
          refine rv (fNeA_dicts rfl do_ ndo vo) ⟨_, rfl, fun z => absurd z (by decide), fun _ => ?_⟩
          walk_at "go"
          refine rv (value_spec dk (T.known hw)) ?_
          walk_at "go"
          refine rv (fNeA_int _ _ _) ⟨_, rfl, fun q => absurd q (by simp; omega), fun _ => ?_⟩
          walk_at "go"
          refine rv (put_spec do_ ((T.other hw).imp id fun ⟨o, m, e, _⟩ => ⟨o, m, e⟩)) ?_
          walk_at "go"
          refine rv (by rw [hp, show f + m = m + f by omega]; exact fNeA_pair o (m + f) h2) ⟨_, rfl, fun z => absurd z (by decide), fun _ => ?_⟩
          walk_at "go"
          refine r_iseq ?_
          walk_at "go"
          refine ⟨_, _, rfl, ?_⟩
          refine rv (inner_comp T dk do_ _ rfl) ⟨by show 4 ≤ sizeLine; decide, ?_⟩
          walk_at "go"
          refine rv (inner_dict kvs ovs h2) ?_
          walk_at "go"
          refine rv (put_spec do_ ((T.other hw).imp id fun ⟨o, m, e, _⟩ => ⟨o, m, e⟩)) ?_
          walk_at "go"
          rw [hp]
          refine rv (value_spec dk (T.known ho4)) ?_
          walk_at "go"
          have hin : valD (innerD kvs ovs) (.inr w) = some (.int (val kvs o + m)) := by rw [inner_val hw4]; simp [iv, hom]
          refine rv (value_spec (kvs := innerD kvs ovs) rfl (.inr ⟨_, hin⟩)) ?_
          walk_at "go"
          have hv2 : val (innerD kvs ovs) w = val kvs o + m := by simp [val, c', hin, vI]
          refine rv (by rw [hv2, show val kvs o + (f + m) = val kvs o + m + f by omega]; exact same_int 3 _ _) ⟨_, rfl, fun z => absurd z (by decide), fun _ => ?_⟩
          walk_at "go"
          exact ⟨_, _, _, _, _, _, _, _, _, _, _, rfl, S2.up (by simp; omega)⟩
        · have c' : w = "" := by simpa using c
          subst c'
          have hv : val kvs "" = 0 := rfl
          have hp : put ovs "" f = (("" : Str), f) := rfl
          walk_at "go"
          refine rv (fDictA_dct dk) ?_
          walk_at "go"
          refine rv (fDictA_dct do_) ?_
          walk_at "go"
          refine ⟨_, _, rfl, ?_⟩
          walk_at "go"
          refine rv (value_spec (kvs := kvs) rfl (.inl rfl)) ?_
          walk_at "go"
          refine rv (by rw [show val kvs "" + f = f by omega]; exact same_int 3 _ _) ⟨_, rfl, fun z => absurd z (by decide), fun _ => ?_⟩
          walk_at "go"
          refine rv (fNeA_dicts rfl dk ndk vk) ⟨_, rfl, fun z => absurd z (by decide), fun _ => ?_⟩
          walk_at "go"
          refine rv (fNeA_str _ _ _) ⟨_, rfl, fun c2 => absurd c2 (by simp), fun _ => ?_⟩
          walk_at "go"
          refine rv (put_spec (ovs := ovs) rfl (.inl rfl)) ?_
          walk_at "go"
          refine rv (same_pair 2 _ _ _) ⟨_, rfl, fun z => absurd z (by decide), fun _ => ?_⟩
          walk_at "go"
          refine rv (fNeA_dicts rfl do_ ndo vo) ⟨_, rfl, fun z => absurd z (by decide), fun _ => ?_⟩
          walk_at "go"
          refine rv (value_spec dk (.inl rfl)) ?_
          walk_at "go"
          refine rv (fNeA_int _ _ _) ⟨_, rfl, fun q => absurd q (by simp; omega), fun _ => ?_⟩
          walk_at "go"
          refine rv (put_spec do_ (.inl rfl)) ?_
          walk_at "go"
          refine rv (fNeA_pair "" f h2) ⟨_, rfl, fun z => absurd z (by decide), fun _ => ?_⟩
          walk_at "go"
          refine r_iseq ?_
          walk_at "go"
          refine ⟨_, _, rfl, ?_⟩
          refine rv (inner_comp T dk do_ _ rfl) ⟨by show 4 ≤ sizeLine; decide, ?_⟩
          walk_at "go"
          refine rv (inner_dict kvs ovs h2) ?_
          walk_at "go"
          refine rv (put_spec do_ (.inl rfl)) ?_
          walk_at "go"
          refine rv (value_spec dk (.inl rfl)) ?_
          walk_at "go"
          refine rv (value_spec (kvs := innerD kvs ovs) rfl (.inl rfl)) ?_
          walk_at "go"
          refine rv (same_int 3 _ _) ⟨_, rfl, fun z => absurd z (by decide), fun _ => ?_⟩
          walk_at "go"
          exact ⟨_, _, _, _, _, _, _, _, _, _, _, rfl, S2.up (by simp; omega)⟩
    · rintro δ h ⟨v3, v4, v5, v6, v7, v8, v9, v10, v11, v12, v13, rfl, S⟩
      walk_at "go"
      refine rv rfl ?_
      walk_at "go"
      refine rv (put_spec (w := "") (f := 7) (ovs := []) rfl (.inl rfl)) ?_
      walk_at "go"
      refine rv rfl ?_
      walk_at "go"
      refine rv (same_pair 2 _ _ _) ⟨_, rfl, fun _ => ?_, fun z => absurd z (by decide)⟩
      walk_at "go"
      refine rv rfl ?_
      walk_at "go"
      refine rv rfl ?_
      walk_at "go"
      refine rv (value_spec (w := "") (f := -7) (kvs := []) rfl (.inl rfl)) ?_
      walk_at "go"
      refine rv rfl ?_
      walk_at "go"
      refine rv (same_int 3 _ _) ?_
      walk_at "go"
  obtain ⟨⟨d, h'⟩, ep, e2⟩ := e
  dsimp only at e2
  subst e2
  exact ⟨h', ep⟩
end Mi

open PySem PySem.W PyProof.Rows
set_option maxRecDepth 100000 in
set_option maxHeartbeats 0 in
theorem PySem.Challenge.cw_neverstuck_k01_terms_holds : PySem.Challenge.rw_neverstuck_k01_terms.Holds := by
  w_on; o_law; k_head; (case hw => w_witness2)
  k_fill
  refine Sm.walk (l := PySem.Challenge.rw_neverstuck_k01_terms) (k := 6) rfl rfl ⟨rfl, by decide, by decide⟩ (fun w h Y => PySem.W.kIn_of Y) ?F
  case F =>
    intro w mg fa h KX G hmg
    refine' Mi.all_mk KX G hmg ?a1 ?l1 ?c1 ?k1 ?a2 ?l2 ?c2 ?k2 ?a3 ?l3 ?c3 ?k3 ?a4 ?l4 ?c4 ?k4 ?a5 ?l5 ?c5 ?k5 ?a6 ?l6 ?c6 ?k6 ?a7 ?l7 ?c7 ?k7 ?a8 ?l8 ?c8 ?k8 ?a9 ?l9 ?c9 ?k9 ?z1 ?z2 ?z3 ?z4 ?z5 ?z6 ?z7 ?z8 ?z9 ?z10 ?z11 ?z12 Mi.law_true
    (case a1 => k_is); (case l1 => k_is); (case c1 => k_is); (case k1 => k_is); (case a2 => k_is); (case l2 => k_is)
    (case c2 => k_is); (case k2 => k_is); (case a3 => k_is); (case l3 => k_is); (case c3 => k_is); (case k3 => k_is)
    (case a4 => k_is); (case l4 => k_is); (case c4 => k_is); (case k4 => k_is); (case a5 => k_is); (case l5 => k_is)
    (case c5 => k_is); (case k5 => k_is); (case a6 => k_is); (case l6 => k_is); (case c6 => k_is); (case k6 => k_is)
    (case a7 => k_is); (case l7 => k_is); (case c7 => k_is); (case k7 => k_is); (case a8 => k_is); (case l8 => k_is)
    (case c8 => k_is); (case k8 => k_is); (case a9 => k_is); (case l9 => k_is); (case c9 => k_is); (case k9 => k_is)
    (case z1 => k_is); (case z2 => k_is); (case z3 => k_is); (case z4 => k_is); (case z5 => k_is); (case z6 => k_is)
    (case z7 => k_is); (case z8 => k_is); (case z9 => k_is); (case z10 => k_is); (case z11 => k_is); (case z12 => k_is)

