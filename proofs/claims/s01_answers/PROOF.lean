import PyProof.Rows.All
import Wide.All
import OpenK.AllK
import Wide.FinOn
import PyProof.EqAt
import PyProof.EqKinds
import PyProof.TupleCall
import Open.SpecLaws
import KE.OsHead
import KE.OsGo
import PySem.Challenge.RW_heartpacer_s01_answers
section
set_option Elab.async false
set_option linter.all false
set_option maxRecDepth 100000
/-! THE HAND LAYER, for ints, bools, texts, own classes, LISTS and tuples (index, slices, in, append, pop ..), calls, loops. Paste it whole ahead of your own text; what your proof does not reach may be deleted. -/
namespace L2
open PySem PySem.Spec PyProof.Rows

/-- a key: an int or a str -/
abbrev Key := Sum Int Str
def keyIs : Key → Value → Bool
  | .inl k, v => Value.isInt k v
  | .inr x, v => Value.isStrOf x v
def keyH (w : World) : Key → Int
  | .inl k => hashInt k
  | .inr x => hashStr w x
theorem keyIs_shape : ∀ {k : Key} {v : Value}, keyIs k v = true → (∃ i t, k = Sum.inl i ∧ v = Value.int i t) ∨ (∃ x t, k = Sum.inr x ∧ v = Value.str x t)
  | .inl i, v, h => by
    obtain ⟨t, e⟩ := Value.isInt_shape (k := i) (v := v) h
    exact .inl ⟨i, t, rfl, e⟩
  | .inr x, v, h => by
    obtain ⟨t, e⟩ := Value.isStrOf_shape (x := x) (v := v) h
    exact .inr ⟨x, t, rfl, e⟩
theorem keyIs_int (i : Int) (t : Tok) : keyIs (.inl i) (.int i t) = true := by simp [keyIs, Value.isInt]
theorem keyIs_str (x : Str) (t : Tok) : keyIs (.inr x) (.str x t) = true := by simp [keyIs, Value.isStrOf]
theorem key_ll (a b : Int) : decide ((Sum.inl a : Key) = Sum.inl b) = (a == b) := by
  by_cases e : a = b
  · subst e; simp
  · have h : ¬ (Sum.inl a : Key) = Sum.inl b := fun q => e (Sum.inl.inj q)
    rw [decide_eq_false h]
    exact (beq_eq_false_iff_ne.mpr e).symm
theorem key_rr (a b : Str) : decide ((Sum.inr a : Key) = Sum.inr b) = decide (a = b) := by
  by_cases e : a = b
  · subst e; simp
  · have h : ¬ (Sum.inr a : Key) = Sum.inr b := fun q => e (Sum.inr.inj q)
    rw [decide_eq_false h, decide_eq_false e]
theorem key_lr (a : Int) (b : Str) : decide ((Sum.inl a : Key) = Sum.inr b) = false := decide_eq_false (fun q => nomatch q)
theorem key_rl (a : Str) (b : Int) : decide ((Sum.inr a : Key) = Sum.inl b) = false := decide_eq_false (fun q => nomatch q)

def mixKind (prog : Program) (w : World) : PySem.KeyKind prog w Key where
  is := keyIs
  hash := keyH w
  inj := fun v a b ha hb => by
    rcases keyIs_shape ha with ⟨i, t, rfl, rfl⟩ | ⟨x, t, rfl, rfl⟩
    · rcases keyIs_shape hb with ⟨j, u, rfl, e⟩ | ⟨y, u, rfl, e⟩
      · injection e with e1 _; rw [e1]
      · exact nomatch e
    · rcases keyIs_shape hb with ⟨j, u, rfl, e⟩ | ⟨y, u, rfl, e⟩
      · exact nomatch e
      · injection e with e1 _; rw [e1]
  byValue := fun k v h => by
    rcases keyIs_shape h with ⟨i, t, rfl, rfl⟩ | ⟨x, t, rfl, rfl⟩ <;> rfl
  pyHash := fun hv h => by
    rcases keyIs_shape hv with ⟨i, t, rfl, rfl⟩ | ⟨x, t, rfl, rfl⟩
    · exact wpAny_pyHash_int h
    · exact wpAny_pyHash_str h
  eqBool := fun hu hv h => by
    rcases keyIs_shape hu with ⟨i, t, rfl, rfl⟩ | ⟨x, t, rfl, rfl⟩
    · rcases keyIs_shape hv with ⟨j, u, rfl, rfl⟩ | ⟨y, u, rfl, rfl⟩
      · rw [key_ll] at h; exact wpAny_eqBool_int h
      · rw [key_lr] at h; exact SeqAt.EqAt.int_str i t y u _ _ _ _ h
    · rcases keyIs_shape hv with ⟨j, u, rfl, rfl⟩ | ⟨y, u, rfl, rfl⟩
      · rw [key_rl] at h; exact SeqAt.EqAt.str_int x t j u _ _ _ _ h
      · rw [key_rr] at h; exact wpAny_eqBool_str h
  «strs» := fun k x t v h => by
    rcases keyIs_shape h with ⟨i, u, rfl, e⟩ | ⟨y, u, rfl, e⟩
    · exact nomatch e
    · injection e with e1 _
      subst e1
      cases v <;> rfl

theorem mixKind_is (prog : Program) (w : World) (k : Key) (v : Value) : (mixKind prog w).is k v = keyIs k v := rfl
theorem mixKind_int (prog : Program) (w : World) (i : Int) (t : Tok) : (mixKind prog w).is (.inl i) (.int i t) = true := keyIs_int i t
theorem mixKind_str (prog : Program) (w : World) (x : Str) (t : Tok) : (mixKind prog w).is (.inr x) (.str x t) = true := keyIs_str x t
end L2

namespace L2
open PySem PySem.Spec PyProof.Rows

/-- a value, without the heap -/
inductive V where
  | non | bl (b : Bool) | int (i : Int) | str (x : Str) | byt (b : Array UInt8) | flt (b : UInt64) | ref (a : Addr) | ty (n : String)
  deriving DecidableEq

def RelV : V → Value → Prop
  | .non, u => u = Value.none
  | .bl b, u => u = Value.bool b
  | .int i, u => ∃ t, u = Value.int i t
  | .str x, u => ∃ t, u = Value.str x t
  | .byt b, u => ∃ t, u = Value.bytes b t
  | .flt b, u => ∃ t, u = Value.float b t
  | .ref a, u => u = Value.ref a
  | .ty n, u => u = Value.type n

abbrev Vals : List V → List Value → Prop := Paired RelV
theorem Vals.length {xs : List V} {us : List Value} (r : Vals xs us) : xs.length = us.length := Paired.length r
theorem Vals.get : ∀ {xs : List V} {us : List Value} {i : Nat} {x : V}, Vals xs us → xs[i]? = some x → ∃ u, us[i]? = some u ∧ RelV x u
  | _, _, _, _, .nil, e => by simp at e
  | _, _, 0, _, .cons r _, e => by simp at e; subst e; exact ⟨_, rfl, r⟩
  | _, _, i + 1, x, .cons _ t, e => by
    obtain ⟨u, h1, h2⟩ := Vals.get (i := i) (x := x) t (by simpa using e)
    exact ⟨u, by simpa using h1, h2⟩
theorem Vals.set {x : V} {u : Value} (r : RelV x u) : ∀ {xs : List V} {us : List Value} (i : Nat), Vals xs us → Vals (xs.set i x) (us.set i u)
  | _, _, _, .nil => .nil
  | _, _, 0, .cons _ t => .cons r t
  | _, _, i + 1, .cons q t => .cons q (Vals.set r i t)
theorem Vals.append : ∀ {xs ys : List V} {us ws : List Value}, Vals xs us → Vals ys ws → Vals (xs ++ ys) (us ++ ws)
  | _, _, _, _, .nil, s => s
  | _, _, _, _, .cons r t, s => .cons r (Vals.append t s)
theorem Vals.take : ∀ {xs : List V} {us : List Value} (n : Nat), Vals xs us → Vals (xs.take n) (us.take n)
  | _, _, 0, _ => .nil
  | _, _, _ + 1, .nil => .nil
  | _, _, n + 1, .cons r t => .cons r (Vals.take n t)
theorem Vals.drop : ∀ {xs : List V} {us : List Value} (n : Nat), Vals xs us → Vals (xs.drop n) (us.drop n)
  | _, _, 0, r => r
  | _, _, _ + 1, .nil => .nil
  | _, _, n + 1, .cons _ t => Vals.drop n t
theorem Vals.none_of : ∀ {xs : List V} {us : List Value} {i : Nat}, Vals xs us → xs[i]? = none → us[i]? = none := fun {xs us i} r e => by
  have h1 := r.length
  have h2 : xs.length ≤ i := List.getElem?_eq_none_iff.mp e
  exact List.getElem?_eq_none_iff.mpr (by omega)

def RelO : Option V → Option Value → Prop
  | some v, some u => RelV v u
  | none, none => True
  | _, _ => False
def KV {κ : Type} : List (κ × V) → List (κ × Value) → Prop := Paired fun (p : κ × V) (q : κ × Value) => p.1 = q.1 ∧ RelV p.2 q.2

/-- a key of a dict (00_mix): an int or a text -/
def kV : Key → V
  | .inl i => .int i
  | .inr x => .str x

/-- what stands at a tracked address -/
inductive HO where
  /-- a list -/
  | lst (xs : List V)
  /-- a tuple (never changes) -/
  | tup (xs : List V)
  /-- a dict whose keys are ints and texts; one whose keys are tuples of ints and texts (the empty one is both) -/
  | dK (kvs : List (Key × V)) | dT (kvs : List (List Key × V))
  /-- a set of ints: its members, its size -/
  | set (S : Int → Bool) (n : Nat)
  /-- an instance of the class at C, its dict at dx, its attributes -/
  | ins (C dx : Addr) (fs : List (Str × V))
  /-- the dict of the instance at x -/
  | own (x : Addr)
  /-- the dict of an exception -/
  | xd (fs : List (Str × V))
  /-- a bound method, f of x -/
  | met (f x : Addr)
  /-- a range object lo, lo + 1, .. below hi -/
  | rng (lo hi : Int)
  /-- a thing that is known to the object (the script; a dict while a loop walks it): read, never written while it is so -/
  | frz (o : Obj) (u : HO)
  /-- a code object's table -/
  | tbl (ps : Array Value)
  /-- any other thing, by what is true of its one object (a def of one's own: SetO a S n := HO.ext fun h => ..) -/
  | ext (φ : Heap → Prop)

abbrev Hp := Addr → Option HO
def upd (H : Hp) (a : Addr) (o : HO) : Hp := fun b => if b = a then some o else H b
theorem upd_same {H : Hp} {a : Addr} {o : HO} : upd H a o a = some o := by unfold upd; rw [if_pos rfl]
theorem upd_ne {H : Hp} {a b : Addr} {o : HO} (h : b ≠ a) : upd H a o b = H b := by unfold upd; rw [if_neg h]
theorem upd_upd {H : Hp} {a : Addr} {o u : HO} : upd (upd H a o) a u = upd H a u := by
  funext b; unfold upd; split <;> rfl
/-- two objects of different content stand apart -/
theorem ne_of {H : Hp} {a b : Addr} {o u : HO} (h : H a = some o) (h' : H b = some u) (d : o ≠ u) : a ≠ b := by
  intro e; subst e; rw [h] at h'; exact d (Option.some.inj h')
theorem ne_of_none {H : Hp} {a b : Addr} {o : HO} (h : H a = some o) (h' : H b = none) : a ≠ b := by
  intro e; subst e; rw [h] at h'; cases h'

section
variable (P : Program) (w : World)
def ObjOk (H : Hp) (h : Heap) (a : Addr) : HO → Prop
  | .lst xs => xs.length ≤ sizeLine ∧ ∃ (its : List Value) (n : Nat), Vals xs its ∧ h.get? a = some { cls := .type "list", data := .seq its.toArray n }
  | .tup xs => xs.length ≤ sizeLine ∧ ∃ its : List Value, Vals xs its ∧ IsTup h a its.toArray
  | .dK kvs => kvs.length ≤ sizeLine ∧ (a == sysModules) = false ∧ ∃ vs, KV kvs vs ∧ h.DictOf (mixKind P w) a vs
  | .dT kvs => kvs.length ≤ sizeLine ∧ (a == sysModules) = false ∧ ∃ xs : List (List Key × Addr × Value),
      Paired (fun (p : List Key × V) (q : List Key × Addr × Value) => p.1 = q.1 ∧ H q.2.1 = some (.tup (p.1.map kV)) ∧ RelV p.2 q.2.2) kvs xs ∧
      ∃ o es ep, h.get? a = some o ∧ o.ExactDict ∧ o.data = .dict es ep ∧ es.toList = xs.map (entryOfKey (tupleKind (mixKind P w))) ∧ (xs.map (·.1)).Nodup
  | .set S n => h.SetOf (intKind P w) a S n
  | .ins C dx fs => H dx = some (.own a) ∧ fs.length ≤ 1000 ∧ dx ≠ a ∧ h.get? a = some (PySem.W.instObj C dx) ∧
      ∃ mA, h.Ns1 dx mA ∧ (∀ f, RelO (fs.lookup f) (mA f)) ∧ PySem.Within mA (fs.map (·.1))
  | .own _ => ∃ o, h.get? a = some o
  | .xd fs => ∃ mA, h.Ns1 a mA ∧ ∀ f, RelO (fs.lookup f) (mA f)
  | .rng lo hi => ∃ t u v, h.get? a = some { cls := .type "range", data := .fields #[.int lo t, .int hi u, .int 1 v] }
  | .frz o u => h.get? a = some o ∧ ObjOk H h a u
  | .tbl ps => h.get? a = some { cls := .none, data := .fields ps }
  | .met f x => h.get? a = some (PySem.W.methodObj (.ref f) (.ref x))
  | .ext φ => φ h ∧ (∃ o, h.get? a = some o) ∧ ∀ h1 h2 : Heap, φ h1 → (∀ o, h1.get? a = some o → h2.get? a = some o) → φ h2
/-- the abstract heap is held -/
def HOk (H : Hp) (h : Heap) : Prop := ∀ a o, H a = some o → ObjOk P w H h a o
end

section
variable {P : Program} {w : World} {H H' : Hp} {h h' : Heap} {a : Addr} {o : HO}
theorem ObjOk.lt (x : ObjOk P w H h a o) : a < h.objs.size := by
  cases o with
  | lst xs => obtain ⟨_, _, _, _, e⟩ := x; exact Heap.lt_size e
  | tup xs => obtain ⟨_, _, _, p⟩ := x; exact p.lt
  | dK kvs => obtain ⟨_, _, _, _, o, _, _, e, _⟩ := x; exact Heap.lt_size e
  | dT kvs => obtain ⟨_, _, _, _, o, _, _, e, _⟩ := x; exact Heap.lt_size e
  | set S n => obtain ⟨o, _, _, _, e, _⟩ := x; exact Heap.lt_size e
  | ins C dx fs => obtain ⟨_, _, _, e, _⟩ := x; exact Heap.lt_size e
  | own y => obtain ⟨_, e⟩ := x; exact Heap.lt_size e
  | xd fs => obtain ⟨_, ⟨_, _, _, e, _⟩, _⟩ := x; exact Heap.lt_size e
  | rng lo hi => obtain ⟨_, _, _, e⟩ := x; exact Heap.lt_size e
  | frz ob u => obtain ⟨e, _⟩ := x; exact Heap.lt_size e
  | tbl ps => exact Heap.lt_size (show h.get? a = some _ from x)
  | met f y => exact Heap.lt_size (show h.get? a = some _ from x)
  | ext φ => obtain ⟨_, ⟨_, e⟩, _⟩ := x; exact Heap.lt_size e
theorem Paired.mapP {α β : Type} {F G : α → β → Prop} : ∀ {l₁ : List α} {l₂ : List β}, Paired F l₁ l₂ → (∀ a b, F a b → G a b) → Paired G l₁ l₂
  | _, _, .nil, _ => .nil
  | _, _, .cons r t, f => .cons (f _ _ r) (Paired.mapP t f)
theorem Paired.imp' {α β : Type} {F G : α → β → Prop} (f : ∀ a b, F a b → G a b) {l₁ : List α} {l₂ : List β} (r : Paired F l₁ l₂) : Paired G l₁ l₂ := Paired.mapP r f
/-- what an object's description leans on: its own object, its own dict, the tuples -/
theorem ObjOk.stay (x : ObjOk P w H h a o) (k : ∀ b u, (b = a ∨ H b = some (.own a)) → h.get? b = some u → h'.get? b = some u)
    (ho : ∀ b, H b = some (.own a) → H' b = some (.own a)) (ht : ∀ b xs, H b = some (.tup xs) → H' b = some (.tup xs)) : ObjOk P w H' h' a o := by
  induction o with
  | lst xs => obtain ⟨z, its, n, r, e⟩ := x; exact ⟨z, its, n, r, k _ _ (.inl rfl) e⟩
  | tup xs => obtain ⟨z, its, r, ob, e, c⟩ := x; exact ⟨z, its, r, ob, k _ _ (.inl rfl) e, c⟩
  | dK kvs => obtain ⟨z, y, vs, r, ob, es, ep, e, c⟩ := x; exact ⟨z, y, vs, r, ob, es, ep, k _ _ (.inl rfl) e, c⟩
  | dT kvs =>
    obtain ⟨z, y, xs, r, ob, es, ep, e, c⟩ := x
    exact ⟨z, y, xs, Paired.mapP r fun p q z => ⟨z.1, ht _ _ z.2.1, z.2.2⟩, ob, es, ep, k _ _ (.inl rfl) e, c⟩
  | set S n => obtain ⟨ob, es, ep, t, e, c⟩ := x; exact ⟨ob, es, ep, t, k _ _ (.inl rfl) e, c⟩
  | ins C dx fs =>
    obtain ⟨d, z, ne, e, mA, ⟨od, es, ep, e2, c⟩, r⟩ := x
    exact ⟨ho _ d, z, ne, k _ _ (.inl rfl) e, mA, ⟨od, es, ep, k _ _ (.inr d) e2, c⟩, r⟩
  | own y => obtain ⟨ob, e⟩ := x; exact ⟨ob, k _ _ (.inl rfl) e⟩
  | xd fs => obtain ⟨mA, ⟨od, es, ep, e, c⟩, r⟩ := x; exact ⟨mA, ⟨od, es, ep, k _ _ (.inl rfl) e, c⟩, r⟩
  | rng lo hi => obtain ⟨t, u, v, e⟩ := x; exact ⟨t, u, v, k _ _ (.inl rfl) e⟩
  | frz ob u ih => obtain ⟨e, q⟩ := x; exact ⟨k _ _ (.inl rfl) e, ih q⟩
  | tbl ps =>
    have e : h.get? a = some { cls := .none, data := .fields ps } := x
    show h'.get? a = some { cls := .none, data := .fields ps }
    exact k a _ (.inl rfl) e
  | met f y =>
    have e : h.get? a = some (PySem.W.methodObj (.ref f) (.ref y)) := x
    show h'.get? a = some (PySem.W.methodObj (.ref f) (.ref y))
    exact k a _ (.inl rfl) e
  | ext φ => obtain ⟨p, ⟨o, e⟩, st⟩ := x; exact ⟨st _ _ p fun o q => k _ _ (.inl rfl) q, ⟨o, k _ _ (.inl rfl) e⟩, st⟩
theorem HOk.lt (x : HOk P w H h) (e : H a = some o) : a < h.objs.size := (x a o e).lt
theorem HOk.fresh (x : HOk P w H h) (e : h.objs.size ≤ a) : H a = none := by
  cases q : H a with
  | none => rfl
  | some u => exact absurd (Nat.lt_of_lt_of_le (x.lt q) e) (Nat.lt_irrefl _)
/-- every object of the heap is kept -/
theorem HOk.kept (x : HOk P w H h) (k : ∀ b u, h.get? b = some u → h'.get? b = some u) : HOk P w H h' := fun a o e =>
  (x a o e).stay (fun b u _ q => k b u q) (fun _ q => q) fun _ _ q => q
/-- a new object is laid and tracked -/
theorem HOk.laid (x : HOk P w H h) (k : ∀ b u, h.get? b = some u → h'.get? b = some u) (hp : h.objs.size ≤ a) (new : ObjOk P w (upd H a o) h' a o) : HOk P w (upd H a o) h' := fun b u e => by
  have hn := x.fresh hp
  by_cases hb : b = a
  · subst hb; rw [upd_same] at e; cases e; exact new
  · rw [upd_ne hb] at e
    exact (x b u e).stay (fun c v _ q => k c v q) (fun c q => by rw [upd_ne (ne_of_none q hn)]; exact q) fun c xs q => by rw [upd_ne (ne_of_none q hn)]; exact q
end

/-- what may be read as u: it is u, or a known u -/
def Rd (H : Hp) (a : Addr) (u : HO) : Prop := H a = some u ∨ ∃ o, H a = some (.frz o u)
theorem Rd.of {H : Hp} {a : Addr} {u : HO} (h : H a = some u) : Rd H a u := .inl h
theorem Rd.ok {P : Program} {w : World} {H : Hp} {h : Heap} {a : Addr} {u : HO} (r : Rd H a u) (x : HOk P w H h) : ObjOk P w H h a u := by
  rcases r with r | ⟨o, r⟩
  · exact x a u r
  · obtain ⟨_, q⟩ := x a _ r
    exact q
/-- what may be written -/
def Mut : Option HO → Prop
  | some (.lst _) => True
  | some (.dK _) => True
  | some (.dT _) => True
  | some (.set _ _) => True
  | some (.ins _ _ _) => True
  | some (.ext _) => True
  | _ => False
section
variable {P : Program} {w : World} {H : Hp} {h h' : Heap} {x e : Addr} {o' : HO}
/-- the object at e is changed: x itself, or the dict of the instance x -/
theorem HOk.write (ok : HOk P w H h) (mu : Mut (H x)) (he : e = x ∨ H e = some (.own x)) (k : ∀ b u, b ≠ e → h.get? b = some u → h'.get? b = some u) (heo : ∃ u, h'.get? e = some u)
    (new : ObjOk P w (upd H x o') h' x o') : HOk P w (upd H x o') h' := fun b u q => by
  have nown : ∀ c y, H c = some (.own y) → c ≠ x := fun c y r z => by subst z; rw [r] at mu; exact mu
  have ntup : ∀ c xs, H c = some (.tup xs) → c ≠ x := fun c xs r z => by subst z; rw [r] at mu; exact mu
  by_cases hb : b = x
  · subst hb; rw [upd_same] at q; cases q; exact new
  · rw [upd_ne hb] at q
    by_cases hbe : b = e
    · have q' : H b = some (.own x) := by
        rcases he with z | z
        · exact absurd (hbe.trans z) hb
        · rw [hbe]; exact z
      rw [q] at q'; cases q'
      obtain ⟨v, hv⟩ := heo
      exact ⟨v, by rw [hbe]; exact hv⟩
    · refine (ok b u q).stay (fun c v hc r => k c v ?_ r) (fun c r => by rw [upd_ne (nown c b r)]; exact r) fun c xs r => by rw [upd_ne (ntup c xs r)]; exact r
      rcases hc with rfl | hc
      · exact hbe
      · rintro rfl
        rcases he with z | z
        · exact nown c b hc z
        · rw [hc] at z; cases z; exact hb rfl
end

/-! ### kept unless tracked; of the frames at fs (the callers') the slots may change (an exception that passes writes there); of the records at ex (iterators) nothing is said -/
structure Un (fs ex : List Addr) (H H' : Hp) (h h' : Heap) : Prop where
  keep : ∀ b o, h.get? b = some o → H b = none → b ∉ fs → b ∉ ex → h'.get? b = some o
  slot : ∀ b o, h.get? b = some o → H b = none → b ∈ fs → b ∉ ex → ∃ sl, h'.get? b = some { o with slots := sl }
  free : ∀ b o, h.get? b = some o → H b = none → b ∉ ex → H' b = none
  there : ∀ b o, h.get? b = some o → b ∉ ex → ∃ o', h'.get? b = some o'
  tups : ∀ b xs, H b = some (.tup xs) → H' b = some (.tup xs)
  frzs : ∀ b o u, H b = some (.frz o u) → H' b = some (.frz o u)
  tbls : ∀ b ps, H b = some (.tbl ps) → ∃ more, H' b = some (.tbl (ps ++ more))
section
variable {fs fs' ex ex' : List Addr} {H H1 H2 : Hp} {h h1 h2 h' : Heap} {a x e : Addr} {o : HO}
theorem Un.any (u : Un fs ex H H1 h h1) {b : Addr} {ob : Obj} (q : h.get? b = some ob) (n : H b = none) (hx : b ∉ ex) : ∃ sl, h1.get? b = some { ob with slots := sl } := by
  by_cases hb : b ∈ fs
  · exact u.slot b ob q n hb hx
  · exact ⟨ob.slots, u.keep b ob q n hb hx⟩
theorem Un.trans (a : Un fs ex H H1 h h1) (b : Un fs ex H1 H2 h1 h2) : Un fs ex H H2 h h2 where
  keep := fun c ob q n hc hx => b.keep c ob (a.keep c ob q n hc hx) (a.free c ob q n hx) hc hx
  slot := fun c ob q n hc hx => by
    obtain ⟨sl, e1⟩ := a.slot c ob q n hc hx
    obtain ⟨sl', e2⟩ := b.slot c _ e1 (a.free c ob q n hx) hc hx
    exact ⟨sl', e2⟩
  free := fun c ob q n hx => by
    obtain ⟨o', e1⟩ := a.there c ob q hx
    exact b.free c o' e1 (a.free c ob q n hx) hx
  there := fun c ob q hx => by
    obtain ⟨o', e1⟩ := a.there c ob q hx
    exact b.there c o' e1 hx
  tups := fun c xs q => b.tups c xs (a.tups c xs q)
  frzs := fun c ob xs q => b.frzs c ob xs (a.frzs c ob xs q)
  tbls := fun c ps q => by
    obtain ⟨m1, e1⟩ := a.tbls c ps q
    obtain ⟨m2, e2⟩ := b.tbls c _ e1
    exact ⟨m1 ++ m2, by rw [e2, Array.append_assoc]⟩
theorem Un.kept (k : ∀ b u, h.get? b = some u → h'.get? b = some u) : Un fs ex H H h h' :=
  ⟨fun b ob q _ _ _ => k b ob q, fun b ob q _ _ _ => ⟨ob.slots, k b ob q⟩, fun _ _ _ n _ => n, fun b ob q _ => ⟨ob, k b ob q⟩, fun _ _ q => q, fun _ _ _ q => q, fun _ ps q => ⟨#[], by rw [q]; simp⟩⟩
theorem Un.refl : Un fs ex H H h h := Un.kept fun _ _ q => q
theorem Un.laid (k : ∀ b u, h.get? b = some u → h'.get? b = some u) (hp : h.objs.size ≤ a) (hn : H a = none) : Un fs ex H (upd H a o) h h' where
  keep := fun b u q _ _ _ => k b u q
  slot := fun b u q _ _ _ => ⟨u.slots, k b u q⟩
  free := fun b u q n _ => by rw [upd_ne (Nat.ne_of_lt (Nat.lt_of_lt_of_le (Heap.lt_size q) hp))]; exact n
  there := fun b u q _ => ⟨u, k b u q⟩
  tups := fun b xs q => by rw [upd_ne (ne_of_none q hn)]; exact q
  frzs := fun b u xs q => by rw [upd_ne (ne_of_none q hn)]; exact q
  tbls := fun b ps q => ⟨#[], by rw [upd_ne (ne_of_none q hn), q]; simp⟩
theorem Un.write (mu : Mut (H x)) (he : e = x ∨ H e = some (.own x)) (k : ∀ b u, b ≠ e → h.get? b = some u → h'.get? b = some u) (heo : ∃ u, h'.get? e = some u) : Un fs ex H (upd H x o) h h' := by
  have hx : ∀ b, H b = none → b ≠ x := fun b n z => by subst z; rw [n] at mu; exact mu
  have hb : ∀ b, H b = none → b ≠ e := fun b n z => by
    subst z
    rcases he with r | r
    · exact hx b n r
    · rw [n] at r; cases r
  have hm : ∀ b u, H b = some u → ¬ Mut (some u) → b ≠ x := fun b u q nm z => by subst z; rw [q] at mu; exact nm mu
  refine ⟨fun b u q n _ _ => k b u (hb b n) q, fun b u q n _ _ => ⟨u.slots, k b u (hb b n) q⟩, fun b u q n _ => by rw [upd_ne (hx b n)]; exact n, fun b u q _ => ?_,
    fun b xs q => by rw [upd_ne (hm b _ q fun z => z)]; exact q, fun b u xs q => by rw [upd_ne (hm b _ q fun z => z)]; exact q, fun b ps q => ⟨#[], by rw [upd_ne (hm b _ q fun z => z), q]; simp⟩⟩
  by_cases hbe : b = e
  · subst hbe; exact heo
  · exact ⟨u, k b u hbe q⟩
theorem Un.mono (u : Un fs ex H H1 h h1) (hs : ∀ b ∈ fs, b ∈ fs') (hx : ∀ b ∈ ex, b ∈ ex') : Un fs' ex' H H1 h h1 :=
  ⟨fun b ob q n hb he => u.keep b ob q n (fun z => hb (hs b z)) fun z => he (hx b z), fun _ _ q n _ he => u.any q n fun z => he (hx _ z), fun b ob q n he => u.free b ob q n fun z => he (hx b z), fun b ob q he => u.there b ob q fun z => he (hx b z), u.tups, u.frzs, u.tbls⟩
end

/-! ### the heap without what is tracked -/
def trk (h : Heap) (H : Hp) : List Addr := (List.range h.objs.size).filter fun a => (H a).isSome
def hidT (h : Heap) (H : Hp) : Heap := PySem.W.hideAll h (trk h H)
theorem hidT_size (h : Heap) (H : Hp) : (hidT h H).objs.size = h.objs.size := PySem.W.hideAll_size _ _
theorem hidT_get {h : Heap} {H : Hp} {b : Addr} {o : Obj} (e : h.get? b = some o) (n : H b = none) : (hidT h H).get? b = some o :=
  PySem.W.hideAll_get _ e fun hm => by
    have q : (H b).isSome = true := (List.mem_filter.mp hm).2
    rw [n] at q; simp at q
theorem of_hidT {h : Heap} {H : Hp} {b : Addr} {o : Obj} (e : (hidT h H).get? b = some o) : h.get? b = some o ∧ H b = none := by
  have e' : h.get? b = some o := PySem.W.of_hideAll (trk h H) e
  refine ⟨e', ?_⟩
  cases q : H b with
  | none => rfl
  | some x =>
    have hm : b ∈ trk h H := List.mem_filter.mpr ⟨List.mem_range.mpr (Heap.lt_size e'), by simp [q]⟩
    have z : (hidT h H).get? b = none := PySem.W.hideAll_none (trk h H) hm
    rw [z] at e; cases e

/-! ### OpenK's ledger, filled with every new object but one -/
def allNews (g h : Heap) (L : Addr) : List (Addr × Obj) := (List.range h.objs.size).filterMap fun a => if a = L ∨ (g.get? a).isSome = true then none else (h.get? a).map fun o => (a, o)
theorem mem_allNews {g h : Heap} {L a : Addr} {o : Obj} (h1 : a ≠ L) (h2 : g.get? a = none) (h3 : h.get? a = some o) : (a, o) ∈ allNews g h L :=
  List.mem_filterMap.mpr ⟨a, List.mem_range.mpr (Heap.lt_size h3), by simp [h1, h2, h3]⟩
theorem of_mem_allNews {g h : Heap} {L : Addr} {p : Addr × Obj} (hp : p ∈ allNews g h L) : p.1 ≠ L ∧ g.get? p.1 = none ∧ h.get? p.1 = some p.2 := by
  obtain ⟨b, _, e⟩ := List.mem_filterMap.mp hp
  split at e
  · cases e
  · rename_i hn
    cases q : h.get? b with
    | none => rw [q] at e; simp at e
    | some u =>
      rw [q] at e
      simp only [Option.map_some, Option.some.injEq] at e
      subst e
      refine ⟨fun z => hn (.inl z), ?_, q⟩
      show g.get? b = none
      cases r : g.get? b with
      | none => rfl
      | some v => exact (hn (.inr (by simp [r]))).elim
def rest (g h : Heap) (L d : Addr) : List (Addr × Obj) := (allNews g h L).filter fun p => decide (p.1 ≠ d)
theorem rest_ne {g h : Heap} {L d : Addr} : ∀ p ∈ rest g h L d, p.1 ≠ d := fun p hp => of_decide_eq_true (List.mem_filter.mp hp).2
theorem mem_rest {g h : Heap} {L d a : Addr} {o : Obj} (h1 : a ≠ L) (h2 : g.get? a = none) (h3 : h.get? a = some o) (h4 : a ≠ d) : (a, o) ∈ rest g h L d :=
  List.mem_filter.mpr ⟨mem_allNews h1 h2 h3, decide_eq_true h4⟩
theorem news_all {g h : Heap} {L : Addr} : News g L h (allNews g h L) := fun p hp => let ⟨a, b, c⟩ := of_mem_allNews hp; ⟨c, a, b⟩
theorem news_at {g h : Heap} {L d : Addr} {o : Obj} (h1 : d ≠ L) (h2 : g.get? d = none) (h3 : h.get? d = some o) : News g L h ((d, o) :: rest g h L d) := fun p hp => by
  rcases List.mem_cons.mp hp with rfl | hp
  · exact ⟨h3, h1, h2⟩
  · exact news_all p (List.mem_filter.mp hp).1
/-- behind a rule that changed d alone: all else but the frame is kept -/
theorem kept_of_news {g h h' : Heap} {L d : Addr} {m : Str → Option Value} (k : ∀ b o, g.get? b = some o → h.get? b = some o) (F : Fr g L h' m) (N : News g L h' (rest g h L d)) :
    ∀ b o, b ≠ L → b ≠ d → h.get? b = some o → h'.get? b = some o := fun b o h1 h2 e => by
  cases q : g.get? b with
  | some u =>
    have := k b u q
    rw [e] at this; cases this
    exact F.keep b _ q
  | none => exact (N (b, o) (mem_rest h1 q e h2)).1
end L2

namespace L2
open PySem PySem.Spec PyProof.Rows

/-- the module's facts, over the base: the heap at the law's entry without what is tracked there -/
structure Mod (K : PySem.W.Frag) (mg : Str → Option Value) (base : Heap) : Prop where
  kin : K.In base
  glob : base.Ns mainGlobals mg
  blt : ∃ mb, base.Ns builtinsNs mb ∧ ∀ x : Str, x ≠ "__name__" → mb x = bootBuiltins x
  nolimit : base.NoLimit

/-- the context: a def's body (or a comprehension's block) running. base: fixed through the whole law; s₀, H₀: the entry; outer: the frames whose slots others may change (a def's callers); stack: all frames that run;
   ex: iterators that were made ahead of the entry and are walked here (a comprehension's); fn: the names whose cells were made at the entry (a def: all; a comprehension's block: its own); calm: not within an except suite; pn: pins that every state bears; xe: what is wanted of an exception that leaves the code -/
structure Cx where
  prog : Program
  w : World
  K : PySem.W.Frag
  mg : Str → Option Value
  base : Heap
  A : Around
  N : List Str
  s_0 : Shared
  H_0 : Hp
  env : Env
  outer : List Env
  stack : List Env
  ex : List Addr
  fn : Str → Bool
  calm : Bool
  pn : List (Addr × Obj)
  xe : Value → Shared → Prop
/-- the callers' frames -/
def frs (l : List Env) : List Addr := l.filterMap (·.frame)
abbrev Cx.fs (X : Cx) : List Addr := frs X.outer

def Vis (sc : Scope) (x : Str) : Prop := sc.names.lookup x = some .local ∨ sc.names.lookup x = some .cell ∨ sc.names.lookup x = some .free
def Loc (sc : Scope) (x : Str) : Prop := sc.names.lookup x = some .local ∨ sc.names.lookup x = some .cell
def Look (env : Env) (h : Heap) (m : Str → Option Value) (x : Str) (u : Value) : Prop :=
  (env.kindOf x = some .local ∧ m x = some u) ∨ ((env.kindOf x = some .cell ∨ env.kindOf x = some .free) ∧ ∃ c, env.cells.lookup x = some c ∧ h.IsCell c (some u))

structure Cx.Ok (X : Cx) : Prop where
  mod : Mod X.K X.mg X.base
  kind : X.env.scope.kind = .function
  glob : X.env.globals = mainGlobals
  blt : X.env.builtins = builtinsNs
  above : X.s_0.heap.objs.size ≤ X.env.locals
  inj : ∀ x y c, X.env.cells.lookup x = some c → X.env.cells.lookup y = some c → x = y
  has : ∀ x, (X.env.kindOf x = some .cell ∨ X.env.kindOf x = some .free) → ∃ c, X.env.cells.lookup x = some c
  cab : ∀ x c, X.fn x = true → X.env.cells.lookup x = some c → X.s_0.heap.objs.size ≤ c
  hd : X.calm = true → X.A.handled = none
  frames : X.A.frames = some X.stack
  stk : X.stack = X.outer ∨ (X.stack = X.env :: X.outer ∧ X.env.frame = some X.env.locals)
  exf : ∀ b ∈ X.ex, b ≠ X.env.locals ∧ ∀ x c, X.env.cells.lookup x = some c → c ≠ b
  bs : ∀ b o, X.base.get? b = some o → X.s_0.heap.get? b = some o ∧ X.H_0 b = none
  bsz : X.base.objs.size ≤ X.s_0.heap.objs.size
  noex : ∀ b o, X.base.get? b = some o → b ∉ X.ex
  exfs : ∀ b ∈ X.ex, b ∉ X.fs
  funs : X.s_0.heap.FunFrames X.base X.outer
  frf : ∀ b ∈ X.fs, X.H_0 b = none

structure Inv (X : Cx) (pins : List (Addr × Obj)) (σ : List (Option V)) (H : Hp) (s : Shared) : Prop where
  ok : X.Ok
  os : s.os = X.s_0.os
  bare : AllBare s.gens
  base : Un X.fs X.ex X.H_0 H X.s_0.heap s.heap
  loc : ∃ m, s.heap.Ns X.env.locals m ∧ ∀ (i : Nat) (x : Str) (v : V), X.N[i]? = some x → σ[i]? = some (some v) → Vis X.env.scope x → ∃ u, RelV v u ∧ Look X.env s.heap m x u
  cell : ∀ x c, X.env.cells.lookup x = some c → ∃ v, s.heap.IsCell c v
  free : H X.env.locals = none
  freeC : ∀ x c, X.env.cells.lookup x = some c → H c = none
  pin : ∀ p ∈ X.pn ++ pins, s.heap.get? p.1 = some p.2 ∧ H p.1 = none ∧ p.1 ≠ X.env.locals ∧ p.1 ∉ X.fs ∧ ∀ v, p.2.data ≠ .cell v
  hok : HOk X.prog X.w H s.heap
  len : σ.length = X.N.length

section
variable {X : Cx} {pins : List (Addr × Obj)} {σ : List (Option V)} {H H' : Hp} {s : Shared} {h' : Heap}

theorem Cx.Ok.nofr (ok : X.Ok) {b : Addr} {o : Obj} (e : X.base.get? b = some o) : b ∉ X.fs := fun hb => by
  have := (ok.funs.mem hb).1
  rw [e] at this; cases this
theorem Inv.bs (I : Inv X pins σ H s) : ∀ b o, X.base.get? b = some o → s.heap.get? b = some o ∧ H b = none := fun b o e =>
  ⟨I.base.keep b o (I.ok.bs b o e).1 (I.ok.bs b o e).2 (I.ok.nofr e) (I.ok.noex b o e), I.base.free b o (I.ok.bs b o e).1 (I.ok.bs b o e).2 (I.ok.noex b o e)⟩
theorem Inv.bk (I : Inv X pins σ H s) : ∀ b o, X.base.get? b = some o → s.heap.get? b = some o := fun b o e => (I.bs b o e).1
theorem Inv.mod (I : Inv X pins σ H s) : Mod X.K X.mg X.base := I.ok.mod
theorem Inv.kIn (I : Inv X pins σ H s) : X.K.In s.heap := I.ok.mod.kin.keeps I.bk
theorem Inv.nolimit (I : Inv X pins σ H s) : s.heap.NoLimit := I.ok.mod.nolimit.keeps I.bk
/-- the frame over the base: for OpenK's rules (K.In X.base is I.mod.kin) -/
theorem Inv.fr (I : Inv X pins σ H s) : ∃ m, Fr X.base X.env.locals s.heap m :=
  let ⟨m, hn, _⟩ := I.loc
  ⟨m, hn, I.bk, Nat.le_trans I.ok.bsz I.ok.above⟩
theorem Inv.lt (I : Inv X pins σ H s) : X.env.locals < s.heap.objs.size := let ⟨_, hn, _⟩ := I.loc; hn.lt
theorem Inv.sz (I : Inv X pins σ H s) : X.s_0.heap.objs.size ≤ s.heap.objs.size := Nat.le_trans I.ok.above (Nat.le_of_lt I.lt)
theorem Inv.nofs (I : Inv X pins σ H s) {a : Addr} (h : s.heap.objs.size ≤ a) : a ∉ X.fs := fun hb => by
  obtain ⟨_, o, ho, _⟩ := I.ok.funs.mem hb
  exact absurd (Nat.lt_of_lt_of_le (Heap.lt_size ho) (Nat.le_trans I.sz h)) (Nat.lt_irrefl _)
theorem Inv.cne (I : Inv X pins σ H s) : ∀ x c, X.env.cells.lookup x = some c → c ≠ X.env.locals := fun x c e z => by
  obtain ⟨v, o, ho, hd⟩ := I.cell x c e
  obtain ⟨m, ⟨o', es, ep, ho', hd', _⟩, _⟩ := I.loc
  rw [z, ho'] at ho; cases ho; rw [hd'] at hd; cases hd
theorem Inv.funs (I : Inv X pins σ H s) : s.heap.FunFrames X.base X.outer := by
  have all : ∀ (l : List Env), (∀ b ∈ frs l, b ∈ X.fs) → X.s_0.heap.FunFrames X.base l → s.heap.FunFrames X.base l := by
    intro l
    induction l with
    | nil => intro _ _; trivial
    | cons env r ih =>
      intro hs hl
      obtain ⟨hk, ⟨L, o, hf, hn, ho, hd⟩, hr⟩ := hl
      have hL : L ∈ X.fs := hs L (by unfold frs; rw [List.filterMap_cons, hf]; exact List.mem_cons_self)
      obtain ⟨sl, e⟩ := I.base.slot L o ho (I.ok.frf L hL) hL fun z => I.ok.exfs L z hL
      exact ⟨hk, ⟨L, _, hf, hn, e, hd⟩, ih (fun b hb => hs b (by unfold frs; rw [List.filterMap_cons, hf]; exact List.mem_cons_of_mem _ hb)) hr⟩
  exact all X.outer (fun _ hb => hb) I.ok.funs

/-- the frames that run, for a call -/
theorem Inv.stack (I : Inv X pins σ H s) : s.heap.FunFrames X.base X.stack := by
  rcases I.ok.stk with e | ⟨e, hf⟩
  · rw [e]; exact I.funs
  · rw [e]
    obtain ⟨m, hn, _⟩ := I.loc
    refine .cons (by rw [I.ok.kind]; decide) hf hn ?_ I.funs
    exact Heap.get?_none_of_le (Nat.le_trans I.ok.bsz I.ok.above)
theorem Inv.stkSub (I : Inv X pins σ H s) : ∀ b ∈ frs X.stack, b ∈ X.env.locals :: X.fs := fun b hb => by
  rcases I.ok.stk with e | ⟨e, hf⟩
  · rw [e] at hb; exact List.mem_cons_of_mem _ hb
  · rw [e] at hb
    unfold frs at hb
    rw [List.filterMap_cons, hf] at hb
    exact hb
theorem Inv.stkFree (I : Inv X pins σ H s) : ∀ b ∈ frs X.stack, H b = none := fun b hb => by
  rcases List.mem_cons.mp (I.stkSub b hb) with e | hb
  · rw [e]; exact I.free
  · obtain ⟨_, o, ho, _⟩ := I.ok.funs.mem hb
    exact I.base.free b o ho (I.ok.frf b hb) fun z => I.ok.exfs b z hb

/-- THE STEP: the untracked objects but the frame and the records at ch are kept (the callers' frames up to slots), the frame's map is kept, the new abstract heap is held -/
theorem Inv.step {g' : Array GenState} {t' : Nat} {d' : Drawn} {ch : List Addr} (I : Inv X pins σ H s)
    (hch : ∀ b ∈ ch, (b ∈ X.ex ∨ X.s_0.heap.objs.size ≤ b) ∧ b ≠ X.env.locals ∧ (∀ x c, X.env.cells.lookup x = some c → c ≠ b) ∧ ∀ p ∈ X.pn ++ pins, p.1 ≠ b)
    (keep : ∀ b o, b ≠ X.env.locals → b ∉ X.fs → b ∉ ch → s.heap.get? b = some o → H b = none → h'.get? b = some o)
    (slot : ∀ b o, b ≠ X.env.locals → b ∈ X.fs → b ∉ ch → s.heap.get? b = some o → H b = none → ∃ sl, h'.get? b = some { o with slots := sl }) (free : ∀ b o, b ∉ ch → s.heap.get? b = some o → H b = none → H' b = none)
    (there : ∀ b o, b ∉ ch → s.heap.get? b = some o → ∃ o', h'.get? b = some o')
    (tups : ∀ b xs, H b = some (.tup xs) → H' b = some (.tup xs)) (frzs : ∀ b o u, H b = some (.frz o u) → H' b = some (.frz o u)) (tbls : ∀ b ps, H b = some (.tbl ps) → ∃ more, H' b = some (.tbl (ps ++ more)))
    (ns : ∀ m, s.heap.Ns X.env.locals m → h'.Ns X.env.locals m) (hok : HOk X.prog X.w H' h') (hg : AllBare g') :
    Inv X pins σ H' { s with heap := h', gens := g', drawn := d', toks := t' } := by
  have neL : ∀ b o, X.s_0.heap.get? b = some o → b ≠ X.env.locals := fun b o e => Nat.ne_of_lt (Nat.lt_of_lt_of_le (Heap.lt_size e) I.ok.above)
  have neC : ∀ b o, X.s_0.heap.get? b = some o → b ∉ X.ex → b ∉ ch := fun b o e hx hb => by
    rcases (hch b hb).1 with z | z
    · exact hx z
    · exact absurd (Nat.lt_of_lt_of_le (Heap.lt_size e) z) (Nat.lt_irrefl _)
  have cellK : ∀ x c, X.env.cells.lookup x = some c → ∀ v, s.heap.IsCell c v → h'.IsCell c v := fun x c e v ⟨o, ho, hd⟩ => by
    have nch : c ∉ ch := fun z => (hch c z).2.2.1 x c e rfl
    by_cases hc : c ∈ X.fs
    · obtain ⟨sl, q⟩ := slot c o (I.cne x c e) hc nch ho (I.freeC x c e)
      exact ⟨_, q, hd⟩
    · exact ⟨o, keep c o (I.cne x c e) hc nch ho (I.freeC x c e), hd⟩
  refine ⟨I.ok, I.os, hg, ⟨fun b o e n hb hx => ?_, fun b o e n hb hx => ?_, fun b o e n hx => ?_, fun b o e hx => ?_, fun b xs e => tups b xs (I.base.tups b xs e), fun b o xs e => frzs b o xs (I.base.frzs b o xs e), fun b ps e => ?_⟩, ?_, fun x c e => ?_, ?_, fun x c e => ?_, fun p hp => ?_, hok, I.len⟩
  · exact keep b o (neL b o e) hb (neC b o e hx) (I.base.keep b o e n hb hx) (I.base.free b o e n hx)
  · obtain ⟨sl, e1⟩ := I.base.slot b o e n hb hx
    obtain ⟨sl', e2⟩ := slot b _ (neL b o e) hb (neC b o e hx) e1 (I.base.free b o e n hx)
    exact ⟨sl', e2⟩
  · obtain ⟨o', e1⟩ := I.base.there b o e hx
    exact free b o' (neC b o e hx) e1 (I.base.free b o e n hx)
  · obtain ⟨o', e1⟩ := I.base.there b o e hx
    exact there b o' (neC b o e hx) e1
  · obtain ⟨m1, e1⟩ := I.base.tbls b ps e
    obtain ⟨m2, e2⟩ := tbls b _ e1
    exact ⟨m1 ++ m2, by rw [e2, Array.append_assoc]⟩
  · obtain ⟨m, hn, hl⟩ := I.loc
    refine ⟨m, ns m hn, fun i x v e1 e2 e3 => ?_⟩
    obtain ⟨u, r, l⟩ := hl i x v e1 e2 e3
    refine ⟨u, r, ?_⟩
    rcases l with l | ⟨k, c, e, z⟩
    · exact .inl l
    · exact .inr ⟨k, c, e, cellK x c e _ z⟩
  · obtain ⟨v, z⟩ := I.cell x c e
    exact ⟨v, cellK x c e v z⟩
  · obtain ⟨m, ⟨o, _, _, ho, _⟩, _⟩ := I.loc
    exact free _ o (fun z => (hch _ z).2.1 rfl) ho I.free
  · obtain ⟨v, o, ho, hd⟩ := I.cell x c e
    exact free c o (fun z => (hch c z).2.2.1 x c e rfl) ho (I.freeC x c e)
  · obtain ⟨e, n, ne, nf, d⟩ := I.pin p hp
    have nch : p.1 ∉ ch := fun z => (hch p.1 z).2.2.2 p hp rfl
    exact ⟨keep p.1 p.2 ne nf nch e n, free p.1 p.2 nch e n, ne, nf, d⟩
/-- .. where the frame's own object is kept too -/
theorem Inv.un {t' : Nat} (I : Inv X pins σ H s) (u : Un X.fs [] H H' s.heap h') (hok : HOk X.prog X.w H' h') : Inv X pins σ H' { s with heap := h', toks := t' } := by
  obtain ⟨m, ⟨o, es, ep, ho, r⟩, _⟩ := id I.loc
  obtain ⟨sl, hL⟩ := u.any ho I.free (by simp)
  exact I.step (g' := s.gens) (d' := s.drawn) (ch := []) (fun _ z => nomatch z) (fun b o _ hb _ e n => u.keep b o e n hb (by simp)) (fun b o _ hb _ e n => u.slot b o e n hb (by simp)) (fun b o _ e n => u.free b o e n (by simp)) (fun b o _ e => u.there b o e (by simp)) u.tups u.frzs u.tbls (fun m' hm => by
    obtain ⟨o', es', ep', ho', r'⟩ := hm
    rw [ho] at ho'; cases ho'
    exact ⟨_, es', ep', hL, r'⟩) hok I.bare
/-- behind a call (or a comprehension's block): the slots of this frame may have changed too, the records at ch may have turned -/
theorem Inv.call {g' : Array GenState} {t' : Nat} {d' : Drawn} {ch : List Addr} (I : Inv X pins σ H s) (u : Un (frs X.stack) ch H H' s.heap h') (hok : HOk X.prog X.w H' h') (hg : AllBare g')
    (hch : ∀ b ∈ ch, (b ∈ X.ex ∨ X.s_0.heap.objs.size ≤ b) ∧ b ≠ X.env.locals ∧ (∀ x c, X.env.cells.lookup x = some c → c ≠ b) ∧ ∀ p ∈ X.pn ++ pins, p.1 ≠ b) :
    Inv X pins σ H' { s with heap := h', gens := g', drawn := d', toks := t' } := by
  obtain ⟨m, ⟨o, es, ep, ho, r⟩, _⟩ := id I.loc
  obtain ⟨sl, hL⟩ := u.any ho I.free fun z => (hch _ z).2.1 rfl
  exact I.step (ch := ch) hch (fun b o hL hb hc e n => u.keep b o e n (fun z => (List.mem_cons.mp (I.stkSub b z)).elim hL hb) hc) (fun b o _ _ hc e n => u.any e n hc) (fun b o hc e n => u.free b o e n hc) (fun b o hc e => u.there b o e hc) u.tups u.frzs u.tbls (fun m' hm => by
    obtain ⟨o', es', ep', ho', r'⟩ := hm
    rw [ho] at ho'; cases ho'
    exact ⟨_, es', ep', hL, r'⟩) hok hg
/-- an untracked record of ours (an iterator) has turned -/
theorem Inv.turned {t' : Nat} {it : Addr} (I : Inv X pins σ H s) (k : ∀ b o, b ≠ it → s.heap.get? b = some o → h'.get? b = some o) (hn : H it = none) (hL : it ≠ X.env.locals)
    (h1 : it ∈ X.ex ∨ X.s_0.heap.objs.size ≤ it) (h2 : ∀ x c, X.env.cells.lookup x = some c → c ≠ it) (h3 : ∀ p ∈ X.pn ++ pins, p.1 ≠ it) : Inv X pins σ H { s with heap := h', toks := t' } := by
  have nit : ∀ b u, H b = some u → b ≠ it := fun b u e z => by rw [z, hn] at e; cases e
  refine I.step (g' := s.gens) (d' := s.drawn) (ch := [it]) (fun b hb => ?_) (fun b o _ _ hc e _ => k b o (fun z => hc (by simp [z])) e) (fun b o _ _ hc e _ => ⟨o.slots, k b o (fun z => hc (by simp [z])) e⟩) (fun _ _ _ _ n => n)
    (fun b o hc e => ⟨o, k b o (fun z => hc (by simp [z])) e⟩) (fun _ _ e => e) (fun _ _ _ e => e) (fun b ps e => ⟨#[], by rw [e]; simp⟩) (fun m hm => ?_) (fun b u e => ?_) I.bare
  · have e : b = it := by simpa using hb
    subst e
    exact ⟨h1, hL, h2, h3⟩
  · obtain ⟨o, es, ep, ho, r⟩ := hm
    exact ⟨o, es, ep, k _ o (Ne.symm hL) ho, r⟩
  · refine (I.hok b u e).stay (fun c v hc q => k c v ?_ q) (fun _ q => q) fun _ _ q => q
    rcases hc with z | z
    · rw [z]; exact nit b u e
    · exact nit c _ z
theorem Inv.tok (I : Inv X pins σ H s) (t : Nat) : Inv X pins σ H { s with toks := t } := I.un (h' := s.heap) (t' := t) Un.refl I.hok
/-- all objects kept -/
theorem Inv.kept {t' : Nat} (I : Inv X pins σ H s) (k : ∀ b u, s.heap.get? b = some u → h'.get? b = some u) : Inv X pins σ H { s with heap := h', toks := t' } := I.un (Un.kept k) (I.hok.kept k)
/-- a new object laid and tracked -/
theorem Inv.laid {a : Addr} {o : HO} {t' : Nat} (I : Inv X pins σ H s) (k : ∀ b u, s.heap.get? b = some u → h'.get? b = some u) (hp : s.heap.objs.size ≤ a) (new : ObjOk X.prog X.w (upd H a o) h' a o) :
    Inv X pins σ (upd H a o) { s with heap := h', toks := t' } := I.un (Un.laid k hp (I.hok.fresh hp)) (I.hok.laid k hp new)
/-- an object written -/
theorem Inv.write {x e : Addr} {o : HO} {t' : Nat} (I : Inv X pins σ H s) (mu : Mut (H x)) (he : e = x ∨ H e = some (.own x)) (k : ∀ b u, b ≠ e → s.heap.get? b = some u → h'.get? b = some u) (heo : ∃ u, h'.get? e = some u)
    (new : ObjOk X.prog X.w (upd H x o) h' x o) : Inv X pins σ (upd H x o) { s with heap := h', toks := t' } := I.un (Un.write mu he k heo) (I.hok.write mu he k heo new)
/-- forgetting slots, pins -/
theorem Inv.weak {σ' : List (Option V)} (I : Inv X pins σ H s) (hl : σ'.length = σ.length) (w : ∀ (i : Nat) v, σ'[i]? = some (some v) → σ[i]? = some (some v)) : Inv X pins σ' H s :=
  ⟨I.ok, I.os, I.bare, I.base, let ⟨m, hn, hl'⟩ := I.loc; ⟨m, hn, fun i x v e1 e2 e3 => hl' i x v e1 (w i v e2) e3⟩, I.cell, I.free, I.freeC, I.pin, I.hok, hl.trans I.len⟩
theorem Inv.pins_of {pins' : List (Addr × Obj)} (I : Inv X pins σ H s) (h : ∀ p ∈ pins', s.heap.get? p.1 = some p.2 ∧ H p.1 = none ∧ p.1 ≠ X.env.locals ∧ p.1 ∉ X.fs ∧ ∀ v, p.2.data ≠ .cell v) : Inv X pins' σ H s :=
  ⟨I.ok, I.os, I.bare, I.base, I.loc, I.cell, I.free, I.freeC, fun p hp => (List.mem_append.mp hp).elim (fun z => I.pin p (List.mem_append_left _ z)) (h p), I.hok, I.len⟩

theorem nodup_ix {N : List Str} (hN : N.Nodup) {i j : Nat} {x : Str} (a : N[i]? = some x) (b : N[j]? = some x) : i = j := by
  obtain ⟨h1, e1⟩ := List.getElem?_eq_some_iff.mp a
  obtain ⟨h2, e2⟩ := List.getElem?_eq_some_iff.mp b
  exact (List.getElem_inj hN).mp (e1.trans e2.symm)

/-- a name is stored; what changed -/
theorem store_ok2 {M : Model} {A : Around} {E : Value → Shared → Prop} {i : Nat} {x : Str} {v : V} {u : Value} {Q : Unit → Shared → Prop} (I : Inv X pins σ H s) (hN : X.N.Nodup) (hi : X.N[i]? = some x) (hx : Loc X.env.scope x) (r : RelV v u)
    (h : ∀ s', Inv X pins (σ.set i (some v)) H s' → (∃ a, Heap.SameBut a s.heap s'.heap ∧ (a = X.env.locals ∨ X.env.cells.lookup x = some a)) → Q () s') (hf : X.fn x = true ∨ X.env.scope.names.lookup x = some .local := by first | exact .inl rfl | exact .inr rfl | assumption) : wpAny M A (storeName X.env x u) Q E s := by
  obtain ⟨m, hn, hl⟩ := id I.loc
  have hcls : (X.env.scope.kind == .class || (X.env.scope.kind == .module && X.env.locals != X.env.globals)) = false := by rw [I.ok.kind]; rfl
  have hiσ : i < σ.length := by rw [I.len]; exact (List.getElem?_eq_some_iff.mp hi).1
  have cne := I.cne
  have tracked : ∀ {a : Addr} {h' : Heap}, (∃ o, s.heap.get? a = some o ∧ H a = none) → Heap.SameBut a s.heap h' → HOk X.prog X.w H h' := fun {a h'} ha hs b ob e => by
    obtain ⟨_, _, hfree⟩ := ha
    refine (I.hok b ob e).stay (fun c w' hc q => (hs.2 c ?_).trans q) (fun _ q => q) fun _ _ q => q
    rintro rfl
    rcases hc with rfl | hc
    · rw [hfree] at e; cases e
    · rw [hfree] at hc; cases hc
  rcases hx with hk | hk
  · refine wpAny_storeName_local hk hn (fun h' hn' hs => ?_) hcls
    obtain ⟨oL, _, _, hoL, _⟩ := id hn
    refine h _ ⟨I.ok, I.os, I.bare, ⟨fun b o e n hb hx => ?_, fun b o e n hb hx => ?_, I.base.free, fun b o e hx => ?_, I.base.tups, I.base.frzs, I.base.tbls⟩, ⟨_, hn', fun j y v' e1 e2 e3 => ?_⟩, fun y c e => ?_, I.free, I.freeC, fun p hp => ?_, tracked ⟨oL, hoL, I.free⟩ hs, by simpa using I.len⟩ ⟨_, hs, .inl rfl⟩
    · exact (hs.2 b (Nat.ne_of_lt (Nat.lt_of_lt_of_le (Heap.lt_size e) I.ok.above))).trans (I.base.keep b o e n hb hx)
    · obtain ⟨sl, e1⟩ := I.base.slot b o e n hb hx
      exact ⟨sl, (hs.2 b (Nat.ne_of_lt (Nat.lt_of_lt_of_le (Heap.lt_size e) I.ok.above))).trans e1⟩
    · obtain ⟨o', e1⟩ := I.base.there b o e hx
      exact ⟨o', (hs.2 b (Nat.ne_of_lt (Nat.lt_of_lt_of_le (Heap.lt_size e) I.ok.above))).trans e1⟩
    · by_cases hj : j = i
      · subst hj
        rw [hi] at e1; cases e1
        rw [List.getElem?_set_self hiσ] at e2
        cases e2
        exact ⟨u, r, .inl ⟨hk, by simp⟩⟩
      · rw [List.getElem?_set_ne (Ne.symm hj)] at e2
        obtain ⟨u', r', q⟩ := hl j y v' e1 e2 e3
        refine ⟨u', r', ?_⟩
        rcases q with ⟨k, e⟩ | ⟨k, c, e, z⟩
        · refine .inl ⟨k, ?_⟩
          have : y ≠ x := fun e => hj (nodup_ix hN e1 (e ▸ hi))
          simp [this, e]
        · exact .inr ⟨k, c, e, z.sameBut hs (cne y c e)⟩
    · obtain ⟨w', z⟩ := I.cell y c e
      exact ⟨w', z.sameBut hs (cne y c e)⟩
    · obtain ⟨e, n, ne, nf, d⟩ := I.pin p hp
      exact ⟨(hs.2 p.1 ne).trans e, n, ne, nf, d⟩
  · have hfn : X.fn x = true := by
      rcases hf with z | z
      · exact z
      · rw [z] at hk; cases hk
    obtain ⟨c, hc⟩ := I.ok.has x (.inl hk)
    obtain ⟨w', z⟩ := I.cell x c hc
    refine wpAny_storeName_cell I.ok.kind hk hc z (fun h' hc' hs => ?_)
    obtain ⟨oc, hoc, hocd⟩ := id z
    refine h { s with heap := h' } ⟨I.ok, I.os, I.bare, ⟨fun b o e n hb hx => ?_, fun b o e n hb hx => ?_, I.base.free, fun b o e hx => ?_, I.base.tups, I.base.frzs, I.base.tbls⟩, ⟨m, hn.sameBut hs (Ne.symm (cne x c hc)), fun j y v' e1 e2 e3 => ?_⟩, fun y c' e => ?_, I.free, I.freeC, fun p hp => ?_, tracked ⟨oc, hoc, I.freeC x c hc⟩ hs, by simpa using I.len⟩ ⟨c, hs, .inr hc⟩
    · exact (hs.2 b (Nat.ne_of_lt (Nat.lt_of_lt_of_le (Heap.lt_size e) (I.ok.cab x c hfn hc)))).trans (I.base.keep b o e n hb hx)
    · obtain ⟨sl, e1⟩ := I.base.slot b o e n hb hx
      exact ⟨sl, (hs.2 b (Nat.ne_of_lt (Nat.lt_of_lt_of_le (Heap.lt_size e) (I.ok.cab x c hfn hc)))).trans e1⟩
    · obtain ⟨o', e1⟩ := I.base.there b o e hx
      exact ⟨o', (hs.2 b (Nat.ne_of_lt (Nat.lt_of_lt_of_le (Heap.lt_size e) (I.ok.cab x c hfn hc)))).trans e1⟩
    · by_cases hj : j = i
      · subst hj
        rw [hi] at e1; cases e1
        rw [List.getElem?_set_self hiσ] at e2
        cases e2
        exact ⟨u, r, .inr ⟨.inl hk, c, hc, hc'⟩⟩
      · rw [List.getElem?_set_ne (Ne.symm hj)] at e2
        obtain ⟨u', r', q⟩ := hl j y v' e1 e2 e3
        refine ⟨u', r', ?_⟩
        rcases q with q | ⟨k, c', e, z'⟩
        · exact .inl q
        · refine .inr ⟨k, c', e, z'.sameBut hs ?_⟩
          rintro rfl
          exact hj (nodup_ix hN e1 (I.ok.inj _ _ _ e hc ▸ hi))
    · by_cases hcc : c' = c
      · subst hcc; exact ⟨_, hc'⟩
      · obtain ⟨w2, z2⟩ := I.cell y c' e
        exact ⟨w2, z2.sameBut hs hcc⟩
    · obtain ⟨e, n, ne, nf, d⟩ := I.pin p hp
      refine ⟨(hs.2 p.1 ?_).trans e, n, ne, nf, d⟩
      intro q
      rw [q, hoc] at e
      have q' : oc = p.2 := Option.some.inj e
      exact d w' (by rw [← q']; exact hocd)
theorem store_ok {M : Model} {A : Around} {E : Value → Shared → Prop} {i : Nat} {x : Str} {v : V} {u : Value} {Q : Unit → Shared → Prop} (I : Inv X pins σ H s) (hN : X.N.Nodup) (hi : X.N[i]? = some x) (hx : Loc X.env.scope x) (r : RelV v u)
    (h : ∀ s', Inv X pins (σ.set i (some v)) H s' → Q () s') (hf : X.fn x = true ∨ X.env.scope.names.lookup x = some .local := by first | exact .inl rfl | exact .inr rfl | assumption) : wpAny M A (storeName X.env x u) Q E s :=
  store_ok2 I hN hi hx r (fun s' I' _ => h s' I') hf
/-- behind a call or a block, the state as it is -/
theorem Inv.call' {s' : Shared} {ch : List Addr} (I : Inv X pins σ H s) (ho : s'.os = s.os) (u : Un (frs X.stack) ch H H' s.heap s'.heap) (hok : HOk X.prog X.w H' s'.heap) (hg : AllBare s'.gens)
    (hch : ∀ b ∈ ch, (b ∈ X.ex ∨ X.s_0.heap.objs.size ≤ b) ∧ b ≠ X.env.locals ∧ (∀ x c, X.env.cells.lookup x = some c → c ≠ b) ∧ ∀ p ∈ X.pn ++ pins, p.1 ≠ b) : Inv X pins σ H' s' := by
  obtain ⟨h', g', d', t', o'⟩ := s'
  have e : o' = s.os := ho
  subst e
  exact I.call (g' := g') (t' := t') (d' := d') u hok hg hch
end

/-! ### the judgements -/
/-- an exception: its class, its own dict's address (where it has one), the abstract heap behind it -/
abbrev XK := Value → Option Addr → Hp → Prop
abbrev St := List (Option V)
abbrev VK := V → Hp → Prop
/-- an expression's reading; a test's; an argument list's -/
abbrev TE := St → Hp → VK → Prop
abbrev TT := St → Hp → (Bool → Hp → Prop) → Prop
abbrev TA := St → Hp → (List V → Hp → Prop) → Prop
/-- what is wanted behind a statement -/
structure Ends where
  nx : St → Hp → Prop
  rt : VK
  bk : St → Hp → Prop := fun _ _ => False
  ct : St → Hp → Prop := fun _ _ => False
abbrev TS := Ends → St → Hp → Prop

def EP (X : Cx) (pins : List (Addr × Obj)) (σ : St) (Q : VK) (u : Value) (s' : Shared) : Prop := ∃ v H', Inv X pins σ H' s' ∧ RelV v u ∧ Q v H'
def TP (X : Cx) (pins : List (Addr × Obj)) (σ : St) (Q : Bool → Hp → Prop) (b : Bool) (s' : Shared) : Prop := ∃ H', Inv X pins σ H' s' ∧ Q b H'
def AP (X : Cx) (pins : List (Addr × Obj)) (σ : St) (Q : List V → Hp → Prop) (us : List Value) (s' : Shared) : Prop := ∃ vs H', Inv X pins σ H' s' ∧ Vals vs us ∧ Q vs H'
def SP (X : Cx) (pins : List (Addr × Obj)) (D : Ends) (f : Flow) (s' : Shared) : Prop :=
  match f with
  | .next => ∃ σ' H', Inv X pins σ' H' s' ∧ D.nx σ' H'
  | .brk => ∃ σ' H', Inv X pins σ' H' s' ∧ D.bk σ' H'
  | .cont => ∃ σ' H', Inv X pins σ' H' s' ∧ D.ct σ' H'
  | .ret u => ∃ v σ' H', Inv X pins σ' H' s' ∧ RelV v u ∧ D.rt v H'

def PE (X : Cx) (e : Expr) (t : TE) : Prop :=
  ∀ (pins : List (Addr × Obj)) (s : Shared) (σ : St) (H : Hp) (Q : VK), Inv X pins σ H s → t σ H Q → wpAny (model X.prog X.w) X.A (eval e X.env) (EP X pins σ Q) X.xe s
def PT (X : Cx) (e : Expr) (t : TT) : Prop :=
  ∀ (pins : List (Addr × Obj)) (s : Shared) (σ : St) (H : Hp) (Q : Bool → Hp → Prop), Inv X pins σ H s → t σ H Q → wpAny (model X.prog X.w) X.A (isTrue e X.env (eval e X.env)) (TP X pins σ Q) X.xe s
/-- a test whatever its 'whole' is (and, or) -/
def PW (X : Cx) (e : Expr) (t : TT) : Prop :=
  ∀ (whole : Sem Value) (pins : List (Addr × Obj)) (s : Shared) (σ : St) (H : Hp) (Q : Bool → Hp → Prop), Inv X pins σ H s → t σ H Q → wpAny (model X.prog X.w) X.A (isTrue e X.env whole) (TP X pins σ Q) X.xe s
theorem PW.pt {X : Cx} {e : Expr} {t : TT} (h : PW X e t) : PT X e t := h _
/-- an argument list (no star), from the left -/
def PA (X : Cx) (es : List Expr) (t : TA) : Prop :=
  ∀ (pos : Pos) (pins : List (Addr × Obj)) (s : Shared) (σ : St) (H : Hp) (Q : List V → Hp → Prop), Inv X pins σ H s → t σ H Q → wpAny (model X.prog X.w) X.A (spliced (backTo pos (starEach es X.env))) (AP X pins σ Q) X.xe s
def PS (X : Cx) (st : Stmt) (t : TS) : Prop :=
  ∀ (pins : List (Addr × Obj)) (s : Shared) (σ : St) (H : Hp) (D : Ends), Inv X pins σ H s → t D σ H → wpAny (model X.prog X.w) X.A (exec st X.env) (SP X pins D) X.xe s
def PSs (X : Cx) (st : List Stmt) (t : TS) : Prop :=
  ∀ (pins : List (Addr × Obj)) (s : Shared) (σ : St) (H : Hp) (D : Ends), Inv X pins σ H s → t D σ H → wpAny (model X.prog X.w) X.A (execs st X.env) (SP X pins D) X.xe s
/-- weaken the end -/
theorem thn {α : Type} {t : Sem α} {Q Q' : α → Shared → Prop} {M : Model} {A : Around} {E : Value → Shared → Prop} {s : Shared} (h : wpAny M A t Q E s) (hQ : ∀ a s, Q a s → Q' a s) : wpAny M A t Q' E s := wpAny_mono h hQ fun _ _ x => x
end L2

namespace L2
open PySem PySem.Spec PyProof.Rows
section
variable {X : Cx}

/-- two expressions in a row -/
theorem bin {a b : Expr} {ta tb : TE} (ha : PE X a ta) (hb : PE X b tb) {pins : List (Addr × Obj)} {s : Shared} {σ : St} {H : Hp} {R : V → V → Hp → Prop} (I : Inv X pins σ H s) (h : ta σ H fun x H1 => tb σ H1 fun y H2 => R x y H2)
    {α : Type} {Q : α → Shared → Prop} {f : Value → Value → Sem α}
    (hf : ∀ v u s2 x y H2, Inv X pins σ H2 s2 → RelV x v → RelV y u → R x y H2 → wpAny (model X.prog X.w) X.A (f v u) Q X.xe s2) :
    wpAny (model X.prog X.w) X.A (eval a X.env) (fun v s₁ => wpAny (model X.prog X.w) X.A (eval b X.env) (fun u s₂ => wpAny (model X.prog X.w) X.A (f v u) Q X.xe s₂) X.xe s₁) X.xe s := by
  refine thn (ha pins s σ H _ I h) fun v s1 ⟨x, H1, I1, r1, q1⟩ => ?_
  refine thn (hb pins s1 σ H1 _ I1 q1) fun u s2 ⟨y, H2, I2, r2, q2⟩ => ?_
  exact hf v u s2 x y H2 I2 r1 r2 q2

/-! ### names and constants -/
def tVar (i : Nat) : TE := fun σ H Q => ∃ v, σ[i]? = some (some v) ∧ Q v H
def tC (v : V) : TE := fun _ H Q => Q v H
theorem pe_var {i : Nat} {x : Str} {pos : Pos} (hN : X.N[i]? = some x) (hv : Vis X.env.scope x) (hd : (x == ("__debug__" : Str)) = false := by decide) (hcd : (x == ("__classdict__" : Str)) = false := by decide) : PE X (.Name x pos) (tVar i) := by
  intro pins s σ H Q I h
  obtain ⟨v, e, h⟩ := h
  obtain ⟨m, hn, hl⟩ := I.loc
  obtain ⟨u, r, l⟩ := hl i x v hN e hv
  have fin : EP X pins σ Q u s := ⟨v, H, I, r, h⟩
  rcases l with ⟨hk, hm⟩ | ⟨hk, c, hc, hcell⟩
  · exact wpAny_Name (wpAny_loadName_local I.ok.kind hk hn hm fin) hd
  · rcases hk with hk | hk
    · exact wpAny_Name (wpAny_loadName_cell I.ok.kind hk hc hcell fin) hd
    · exact wpAny_Name (wpAny_loadName_free I.ok.kind hk hc hcell fin hcd) hd
theorem pe_int {i j pos} : PE X (.Constant (.int i) j pos) (tC (.int i)) := fun _ _ _ H _ I h => wpAny_Constant_int ⟨.int i, H, I.tok _, ⟨_, rfl⟩, h⟩
theorem pe_bl {b j pos} : PE X (.Constant (.bool b) j pos) (tC (.bl b)) := fun _ _ _ H _ I h => Constant_bool ⟨.bl b, H, I, rfl, h⟩
theorem pe_non {j pos} : PE X (.Constant .none j pos) (tC .non) := fun _ _ _ H _ I h => Constant_none ⟨.non, H, I, rfl, h⟩
theorem pe_str {x j pos} : PE X (.Constant (.str x) j pos) (tC (.str x)) := fun _ _ _ H _ I h => Calls.Constant_str ⟨.str x, H, I.tok _, ⟨_, rfl⟩, h⟩

/-- a global name of the def -/
def Gl (X : Cx) (x : Str) : Prop := X.env.kindOf x = some .globalImplicit
theorem ld_glob {E : Value → Shared → Prop} {pins : List (Addr × Obj)} {s : Shared} {σ : St} {H : Hp} {x : Str} {u : Value} {pos : Pos} {Q : Value → Shared → Prop} (I : Inv X pins σ H s) (hg : Gl X x) (hm : X.mg x = some u) (h : Q u s)
    (hd : (x == ("__debug__" : Str)) = false := by decide) : wpAny (model X.prog X.w) X.A (eval (.Name x pos) X.env) Q E s :=
  Calls.Name_function_global I.ok.kind hg (Calls.loadGlobal_global (by rw [I.ok.glob]; exact I.mod.glob.keeps I.bk) hm h) hd
theorem ld_blt {E : Value → Shared → Prop} {pins : List (Addr × Obj)} {s : Shared} {σ : St} {H : Hp} {x : Str} {u : Value} {pos : Pos} {Q : Value → Shared → Prop} (I : Inv X pins σ H s) (hg : Gl X x) (hm : X.mg x = none) (hv : bootBuiltins x = some u) (h : Q u s)
    (hn : x ≠ "__name__" := by decide) (hd : (x == ("__debug__" : Str)) = false := by decide) : wpAny (model X.prog X.w) X.A (eval (.Name x pos) X.env) Q E s := by
  obtain ⟨mb, h1, h2⟩ := I.mod.blt
  exact Calls.Name_function_global I.ok.kind hg (Calls.loadGlobal_builtin (by rw [I.ok.glob]; exact I.mod.glob.keeps I.bk) hm (by rw [I.ok.blt]; exact h1.keeps I.bk) ((h2 x hn).trans hv) h) hd
/-- a module's constant, a class, a function, as a value -/
theorem pe_glob {x : Str} {v : V} {u : Value} {pos : Pos} (hg : Gl X x) (hm : X.mg x = some u) (r : RelV v u) (hd : (x == ("__debug__" : Str)) = false := by decide) : PE X (.Name x pos) (tC v) :=
  fun _ _ _ H _ I h => ld_glob I hg hm ⟨v, H, I, r, h⟩ hd
theorem pe_bltn {x : Str} {v : V} {u : Value} {pos : Pos} (hg : Gl X x) (hm : X.mg x = none) (hv : bootBuiltins x = some u) (r : RelV v u) (hn : x ≠ "__name__" := by decide) (hd : (x == ("__debug__" : Str)) = false := by decide) : PE X (.Name x pos) (tC v) :=
  fun _ _ _ H _ I h => ld_blt I hg hm hv ⟨v, H, I, r, h⟩ hn hd

/-! ### arithmetic -/
/-- two ints -/
def t2I (ta tb : TE) (k : Int → Int → Hp → Prop) : St → Hp → Prop := fun σ H => ta σ H fun x H1 => tb σ H1 fun y H2 => ∃ i j, x = .int i ∧ y = .int j ∧ k i j H2
def tAdd (ta tb : TE) : TE := fun σ H Q => t2I ta tb (fun i j H2 => Q (.int (i + j)) H2) σ H
def tSub (ta tb : TE) : TE := fun σ H Q => t2I ta tb (fun i j H2 => Q (.int (i - j)) H2) σ H
/-- the left factor below 2^64 -/
def tMul (ta tb : TE) : TE := fun σ H Q => t2I ta tb (fun i j H2 => (-(2 ^ 64) < i ∧ i < 2 ^ 64) ∧ Q (.int (i * j)) H2) σ H
variable {a b : Expr} {ta tb : TE} {pos : Pos}
theorem pe_add (ha : PE X a ta) (hb : PE X b tb) : PE X (.BinOp a .Add b pos) (tAdd ta tb) := by
  intro pins s σ H Q I h
  refine wpAny_BinOp (bin ha hb I h fun v u s2 x y H2 I2 rx ry q => ?_)
  obtain ⟨i, j, rfl, rfl, q⟩ := q
  obtain ⟨t, rfl⟩ := rx
  obtain ⟨t', rfl⟩ := ry
  exact add_int ⟨.int _, H2, I2.tok _, ⟨_, rfl⟩, q⟩
theorem pe_sub (ha : PE X a ta) (hb : PE X b tb) : PE X (.BinOp a .Sub b pos) (tSub ta tb) := by
  intro pins s σ H Q I h
  refine wpAny_BinOp (bin ha hb I h fun v u s2 x y H2 I2 rx ry q => ?_)
  obtain ⟨i, j, rfl, rfl, q⟩ := q
  obtain ⟨t, rfl⟩ := rx
  obtain ⟨t', rfl⟩ := ry
  exact sub_int ⟨.int _, H2, I2.tok _, ⟨_, rfl⟩, q⟩
theorem pe_mul (ha : PE X a ta) (hb : PE X b tb) : PE X (.BinOp a .Mult b pos) (tMul ta tb) := by
  intro pins s σ H Q I h
  refine wpAny_BinOp (bin ha hb I h fun v u s2 x y H2 I2 rx ry q => ?_)
  obtain ⟨i, j, rfl, rfl, ⟨q1, q2⟩, q⟩ := q
  obtain ⟨t, rfl⟩ := rx
  obtain ⟨t', rfl⟩ := ry
  exact mul_int ⟨.int _, H2, I2.tok _, ⟨_, rfl⟩, q⟩ (.of_left (intBits_le_64 q1 q2))

/-! ### comparisons -/
def PC (X : Cx) (op : CmpOp) (a b : Expr) (t : TE) : Prop :=
  ∀ (pins : List (Addr × Obj)) (s : Shared) (σ : St) (H : Hp) (Q : VK), Inv X pins σ H s → t σ H Q →
    wpAny (model X.prog X.w) X.A (eval a X.env) (fun v s₁ => wpAny (model X.prog X.w) X.A (eval b X.env) (fun u s₂ => wpAny (model X.prog X.w) X.A (compareOp op v u) (EP X pins σ Q) X.xe s₂) X.xe s₁) X.xe s
theorem nobehind (b : Expr) {op : CmpOp} (h : op ≠ .In) (h2 : op ≠ .NotIn) : behindInMarks op b = false := by
  have e1 : (op == CmpOp.In) = false := by cases op <;> first | rfl | exact absurd rfl h
  have e2 : (op == CmpOp.NotIn) = false := by cases op <;> first | rfl | exact absurd rfl h2
  cases b <;> simp [behindInMarks, e1, e2]
def tCmp (p : Int → Int → Bool) (ta tb : TE) : TE := fun σ H Q => t2I ta tb (fun i j H2 => Q (.bl (p i j)) H2) σ H
abbrev tLt : TE → TE → TE := tCmp fun i j => decide (i < j)
abbrev tLe : TE → TE → TE := tCmp fun i j => decide (i ≤ j)
abbrev tGt : TE → TE → TE := tCmp fun i j => decide (j < i)
abbrev tGe : TE → TE → TE := tCmp fun i j => decide (j ≤ i)
abbrev tEqI : TE → TE → TE := tCmp fun i j => decide (i = j)
abbrev tNeI : TE → TE → TE := tCmp fun i j => !decide (i = j)
/-- a comparison of two ints, by its rule -/
theorem pc_int {op : CmpOp} {p : Int → Int → Bool} (ha : PE X a ta) (hb : PE X b tb)
    (rule : ∀ (i j : Int) (t u : Tok) (Q : Value → Shared → Prop) (s : Shared), Q (.bool (p i j)) s → wpAny (model X.prog X.w) X.A (compareOp op (.int i t) (.int j u)) Q X.xe s) : PC X op a b (tCmp p ta tb) := by
  intro pins s σ H Q I h
  refine bin ha hb I h fun v u s2 x y H2 I2 rx ry q => ?_
  obtain ⟨i, j, rfl, rfl, q⟩ := q
  obtain ⟨t, rfl⟩ := rx
  obtain ⟨t', rfl⟩ := ry
  exact rule i j t t' _ s2 ⟨.bl _, H2, I2, rfl, q⟩
theorem pc_lt (ha : PE X a ta) (hb : PE X b tb) : PC X .Lt a b (tLt ta tb) := pc_int ha hb fun _ _ _ _ _ _ h => lt_int h
theorem pc_le (ha : PE X a ta) (hb : PE X b tb) : PC X .LtE a b (tLe ta tb) := pc_int ha hb fun _ _ _ _ _ _ h => le_int h
theorem pc_gt (ha : PE X a ta) (hb : PE X b tb) : PC X .Gt a b (tGt ta tb) := pc_int ha hb fun _ _ _ _ _ _ h => gt_int h
theorem pc_ge (ha : PE X a ta) (hb : PE X b tb) : PC X .GtE a b (tGe ta tb) := pc_int ha hb fun _ _ _ _ _ _ h => ge_int h
theorem pc_eqI (ha : PE X a ta) (hb : PE X b tb) : PC X .Eq a b (tEqI ta tb) := pc_int ha hb fun _ _ _ _ _ _ h => eq_int (by rw [Bool.beq_eq_decide_eq]; exact h)
theorem pc_neI (ha : PE X a ta) (hb : PE X b tb) : PC X .NotEq a b (tNeI ta tb) := pc_int ha hb fun _ _ _ _ _ _ h => ne_int (by rw [bne, Bool.beq_eq_decide_eq]; exact h)
/-- is None -/
def tIsN (ta : TE) : TE := fun σ H Q => ta σ H fun x H1 => Q (.bl (decide (x = .non))) H1
def tNotN (ta : TE) : TE := fun σ H Q => ta σ H fun x H1 => Q (.bl (!decide (x = .non))) H1
theorem RelV.none_iff {x : V} {v : Value} (r : RelV x v) : (v == Value.none) = decide (x = .non) := by
  cases x with
  | non => cases r; rfl
  | bl _ => cases r; rfl
  | int _ => obtain ⟨t, rfl⟩ := r; rfl
  | str _ => obtain ⟨t, rfl⟩ := r; rfl
  | byt _ => obtain ⟨t, rfl⟩ := r; rfl
  | flt _ => obtain ⟨t, rfl⟩ := r; rfl
  | ref _ => cases r; rfl
  | ty _ => cases r; rfl
theorem pc_isN {j pos'} (ha : PE X a ta) : PC X .Is a (.Constant .none j pos') (tIsN ta) := by
  intro pins s σ H Q I h
  refine thn (ha pins s σ H _ I h) fun v s1 ⟨x, H1, I1, r1, q1⟩ => ?_
  exact Constant_none (is_none_gen ⟨.bl _, H1, I1, by rw [r1.none_iff]; rfl, q1⟩)
theorem pc_notN {j pos'} (ha : PE X a ta) : PC X .IsNot a (.Constant .none j pos') (tNotN ta) := by
  intro pins s σ H Q I h
  refine thn (ha pins s σ H _ I h) fun v s1 ⟨x, H1, I1, r1, q1⟩ => ?_
  exact Constant_none (isnot_none_gen ⟨.bl _, H1, I1, by rw [r1.none_iff]; rfl, q1⟩)
/-- a comparison as a value, as a test -/
def tB (t : TE) : TT := fun σ H Q => t σ H fun x H1 => ∃ c, x = .bl c ∧ Q c H1
theorem pe_cmp {op : CmpOp} {t : TE} (h : PC X op a b t) (h1 : behindInMarks op b = false := by first | exact nobehind _ (by decide) (by decide) | rfl) : PE X (.Compare a [op] [b] pos) t := fun pins s σ H Q I hw => wpAny_Compare1 (h pins s σ H Q I hw) h1
theorem pt_cmp {op : CmpOp} {t : TE} (h : PC X op a b t) (h1 : behindInMarks op b = false := by first | exact nobehind _ (by decide) (by decide) | rfl) : PT X (.Compare a [op] [b] pos) (tB t) := by
  intro pins s σ H Q I hw
  refine wpAny_isTrue_Compare1 (thn (h pins s σ H _ I hw) fun v s1 h1 => thn h1 fun u s2 h2 => thn h2 fun c s3 ⟨x, H1, I1, r1, q1⟩ => ?_) h1
  obtain ⟨d, rfl, q⟩ := q1
  cases r1
  exact wpAny_truthy_bool ⟨H1, I1, q⟩
/-- an expression whose value is a bool, as a test -/
theorem pt_val {e : Expr} {t : TE} (h : PE X e t) (he : ∀ whole, isTrue e X.env whole = (do let v ← whole; standAt e.pos; holding [v] (truthy v)) := by intro _; rfl) : PT X e (tB t) := by
  intro pins s σ H Q I hw
  refine isTrue_plain (thn (h pins s σ H _ I hw) fun v s1 ⟨x, H1, I1, r1, q1⟩ => ?_) (he _)
  obtain ⟨d, rfl, q⟩ := q1
  cases r1
  exact wpAny_truthy_bool ⟨H1, I1, q⟩

/-! ### and, or, not -/
variable {tA tB' : TT} {rest : List Expr}
def tAnd (t u : TT) : TT := fun σ H Q => t σ H fun c H1 => if c = true then u σ H1 Q else Q false H1
def tOr (t u : TT) : TT := fun σ H Q => t σ H fun c H1 => if c = true then Q true H1 else u σ H1 Q
def tNot (t : TT) : TT := fun σ H Q => t σ H fun c H1 => Q (!c) H1
theorem pw_and1 (ha : PT X a tA) : PW X (.BoolOp .And [a] pos) tA := by
  intro wh pins s σ H Q I h
  refine isTrue_and (thn (ha pins s σ H Q I h) fun c s1 e => ?_)
  cases c with
  | true => exact isTrue_and_nil e
  | false => exact e
theorem pw_or1 (ha : PT X a tA) : PW X (.BoolOp .Or [a] pos) tA := by
  intro wh pins s σ H Q I h
  refine isTrue_or (thn (ha pins s σ H Q I h) fun c s1 e => ?_)
  cases c with
  | false => exact isTrue_or_nil e
  | true => exact e
theorem pw_and (ha : PT X a tA) (hb : PW X (.BoolOp .And (b :: rest) pos) tB') : PW X (.BoolOp .And (a :: b :: rest) pos) (tAnd tA tB') := by
  intro wh pins s σ H Q I h
  refine isTrue_and (thn (ha pins s σ H _ I h) fun c s1 ⟨H1, I1, q1⟩ => ?_)
  cases c with
  | true => exact hb wh pins s1 σ H1 Q I1 q1
  | false => exact ⟨H1, I1, q1⟩
theorem pw_or (ha : PT X a tA) (hb : PW X (.BoolOp .Or (b :: rest) pos) tB') : PW X (.BoolOp .Or (a :: b :: rest) pos) (tOr tA tB') := by
  intro wh pins s σ H Q I h
  refine isTrue_or (thn (ha pins s σ H _ I h) fun c s1 ⟨H1, I1, q1⟩ => ?_)
  cases c with
  | true => exact ⟨H1, I1, q1⟩
  | false => exact hb wh pins s1 σ H1 Q I1 q1
theorem pt_not (ha : PT X a tA) : PT X (.UnaryOp .Not a pos) (tNot tA) := by
  intro pins s σ H Q I h
  exact isTrue_not (ha pins s σ H (fun c H1 => Q (!c) H1) I h)
/-- .. as values (bools) -/
def tAndV (ta tb : TE) : TE := fun σ H Q => ta σ H fun x H1 => ∃ c, x = .bl c ∧ if c = true then tb σ H1 Q else Q (.bl false) H1
def tOrV (ta tb : TE) : TE := fun σ H Q => ta σ H fun x H1 => ∃ c, x = .bl c ∧ if c = true then Q (.bl true) H1 else tb σ H1 Q
def tNotV (ta : TE) : TE := fun σ H Q => ta σ H fun x H1 => ∃ c, x = .bl c ∧ Q (.bl (!c)) H1
theorem pe_one {op} {t : TE} (h : PE X a t) : PE X (.BoolOp op [a] pos) t := fun pins s σ H Q I hw => BoolOp_one (h pins s σ H Q I hw)
theorem pe_and (ha : PE X a ta) (hb : PE X (.BoolOp .And (b :: rest) pos) tb) : PE X (.BoolOp .And (a :: b :: rest) pos) (tAndV ta tb) := by
  intro pins s σ H Q I h
  refine BoolOp_and (thn (ha pins s σ H _ I h) fun v s1 ⟨x, H1, I1, r1, q1⟩ => ?_)
  obtain ⟨c, rfl, q1⟩ := q1
  cases r1
  refine wpAny_truthy_bool ?_
  cases c with
  | true => exact hb pins s1 σ H1 Q I1 q1
  | false => exact ⟨.bl false, H1, I1, rfl, q1⟩
theorem pe_or (ha : PE X a ta) (hb : PE X (.BoolOp .Or (b :: rest) pos) tb) : PE X (.BoolOp .Or (a :: b :: rest) pos) (tOrV ta tb) := by
  intro pins s σ H Q I h
  refine BoolOp_or (thn (ha pins s σ H _ I h) fun v s1 ⟨x, H1, I1, r1, q1⟩ => ?_)
  obtain ⟨c, rfl, q1⟩ := q1
  cases r1
  refine wpAny_truthy_bool ?_
  cases c with
  | false => exact hb pins s1 σ H1 Q I1 q1
  | true => exact ⟨.bl true, H1, I1, rfl, q1⟩
theorem pe_not (ha : PE X a ta) : PE X (.UnaryOp .Not a pos) (tNotV ta) := by
  intro pins s σ H Q I h
  refine UnaryOp_ (thn (ha pins s σ H _ I h) fun v s1 ⟨x, H1, I1, r1, q1⟩ => ?_)
  obtain ⟨c, rfl, q1⟩ := q1
  cases r1
  exact not_of (wpAny_truthy_bool ⟨.bl (!c), H1, I1, rfl, q1⟩)
/-- a if t else b -/
def tIf (t : TT) (ta tb : TE) : TE := fun σ H Q => t σ H fun c H1 => if c = true then ta σ H1 Q else tb σ H1 Q
theorem pe_ifExp {c : Expr} (hc : PT X c tA) (ha : PE X a ta) (hb : PE X b tb) : PE X (.IfExp c a b pos) (tIf tA ta tb) := by
  intro pins s σ H Q I h
  refine wpAny_IfExp (thn (hc pins s σ H _ I h) fun d s1 ⟨H1, I1, q1⟩ => ?_)
  cases d with
  | true => exact ha pins s1 σ H1 Q I1 q1
  | false => exact hb pins s1 σ H1 Q I1 q1
end
end L2

namespace L2
open PySem PySem.Spec PyProof.Rows

/-! ### a list, a tuple that is read: tracked, frozen, or an object of the module -/
def SqL (K : PySem.W.Frag) (H : Hp) (a : Addr) (xs : List V) : Prop :=
  Rd H a (.lst xs) ∨
    ∃ (o : Obj) (its : Array Value) (n : Nat), K.lookup a = some o ∧ o.cls = .type "list" ∧ o.dict = none ∧ o.data = .seq its n ∧ its.size ≤ sizeLine ∧ Vals xs its.toList
def SqT (K : PySem.W.Frag) (H : Hp) (a : Addr) (xs : List V) : Prop :=
  Rd H a (.tup xs) ∨
    ∃ (o : Obj) (its : Array Value) (n : Nat), K.lookup a = some o ∧ o.cls = .type "tuple" ∧ o.data = .seq its n ∧ its.size ≤ sizeLine ∧ Vals xs its.toList
def absV : Value → Option V
  | .none => some .non
  | .bool b => some (.bl b)
  | .int i _ => some (.int i)
  | .str x _ => some (.str x)
  | .bytes b _ => some (.byt b)
  | .float b _ => some (.flt b)
  | .ref a => some (.ref a)
  | .type n => some (.ty n)
  | _ => none
theorem RelV.abs {x : V} {u : Value} (r : RelV x u) : absV u = some x := by
  cases x with
  | non => cases r; rfl
  | bl _ => cases r; rfl
  | int _ => obtain ⟨t, rfl⟩ := r; rfl
  | str _ => obtain ⟨t, rfl⟩ := r; rfl
  | byt _ => obtain ⟨t, rfl⟩ := r; rfl
  | flt _ => obtain ⟨t, rfl⟩ := r; rfl
  | ref _ => cases r; rfl
  | ty _ => cases r; rfl
theorem RelV.inj {x y : V} {u : Value} (r : RelV x u) (q : RelV y u) : x = y := Option.some.inj (r.abs.symm.trans q.abs)
theorem Vals.inj : ∀ {xs ys : List V} {us : List Value}, Vals xs us → Vals ys us → xs = ys
  | _, _, _, .nil, .nil => rfl
  | _, _, _, .cons r t, .cons r' t' => by rw [r.inj r', Vals.inj t t']
section
variable {X : Cx} {pins : List (Addr × Obj)} {σ : St} {H : Hp} {s : Shared} {a : Addr} {xs ys : List V}
theorem SqL.of {K : PySem.W.Frag} (h : H a = some (.lst xs)) : SqL K H a xs := .inl (.inl h)
theorem SqT.of {K : PySem.W.Frag} (h : H a = some (.tup xs)) : SqT K H a xs := .inl (.inl h)
theorem Inv.list (I : Inv X pins σ H s) (h : SqL X.K H a xs) : ∃ its : List Value, Vals xs its ∧ PlainL s.heap a its.toArray ∧ xs.length ≤ sizeLine := by
  rcases h with h | ⟨o, its, n, hk, hc, hd, hs, hz, r⟩
  · obtain ⟨z, its, n, r, e⟩ := h.ok I.hok
    exact ⟨its, r, ⟨_, n, e, rfl, rfl, rfl⟩, z⟩
  · refine ⟨its.toList, r, ⟨o, n, I.kIn a o hk, hc, hd, by simpa using hs⟩, ?_⟩
    have e := r.length
    simp only [Array.length_toList] at e
    omega
theorem Inv.tuple (I : Inv X pins σ H s) (h : SqT X.K H a xs) : ∃ its : List Value, Vals xs its ∧ IsTup s.heap a its.toArray ∧ xs.length ≤ sizeLine := by
  rcases h with h | ⟨o, its, n, hk, hc, hs, hz, r⟩
  · obtain ⟨z, its, r, p⟩ := h.ok I.hok
    exact ⟨its, r, p, z⟩
  · refine ⟨its.toList, r, ⟨o, I.kIn a o hk, hc, n, by simpa using hs⟩, ?_⟩
    have e := r.length
    simp only [Array.length_toList] at e
    omega
theorem Inv.list_inj (I : Inv X pins σ H s) (h : SqL X.K H a xs) (h' : SqL X.K H a ys) : xs = ys := by
  obtain ⟨its, r, ⟨o, n, e, _, _, d⟩, _⟩ := I.list h
  obtain ⟨its', r', ⟨o', n', e', _, _, d'⟩, _⟩ := I.list h'
  rw [e] at e'; cases e'
  rw [d] at d'
  injection d' with d1 _
  have : its = its' := by simpa using congrArg Array.toList d1
  subst this
  exact r.inj r'
theorem Inv.tuple_inj (I : Inv X pins σ H s) (h : SqT X.K H a xs) (h' : SqT X.K H a ys) : xs = ys := by
  obtain ⟨its, r, ⟨o, e, _, n, d⟩, _⟩ := I.tuple h
  obtain ⟨its', r', ⟨o', e', _, n', d'⟩, _⟩ := I.tuple h'
  rw [e] at e'; cases e'
  rw [d] at d'
  injection d' with d1 _
  have : its = its' := by simpa using congrArg Array.toList d1
  subst this
  exact r.inj r'
end

/-! ### another wish about exceptions -/
abbrev Cx.wish (X : Cx) (E : Value → Shared → Prop) : Cx := { X with xe := E }
/-- no exception leaves -/
abbrev Cx.nox (X : Cx) : Cx := X.wish fun _ _ => False
theorem Cx.Ok.wish {X : Cx} (ok : X.Ok) (E : Value → Shared → Prop) : (X.wish E).Ok :=
  ⟨ok.mod, ok.kind, ok.glob, ok.blt, ok.above, ok.inj, ok.has, ok.cab, ok.hd, ok.frames, ok.stk, ok.exf, ok.bs, ok.bsz, ok.noex, ok.exfs, ok.funs, ok.frf⟩
theorem Cx.Ok.unwish {X : Cx} {E : Value → Shared → Prop} (ok : (X.wish E).Ok) : X.Ok :=
  ⟨ok.mod, ok.kind, ok.glob, ok.blt, ok.above, ok.inj, ok.has, ok.cab, ok.hd, ok.frames, ok.stk, ok.exf, ok.bs, ok.bsz, ok.noex, ok.exfs, ok.funs, ok.frf⟩
section
variable {X : Cx} {pins : List (Addr × Obj)} {σ : St} {H : Hp} {s : Shared} {E : Value → Shared → Prop}
theorem Inv.wish (I : Inv X pins σ H s) (E : Value → Shared → Prop) : Inv (X.wish E) pins σ H s := ⟨I.ok.wish E, I.os, I.bare, I.base, I.loc, I.cell, I.free, I.freeC, I.pin, I.hok, I.len⟩
theorem Inv.unwish (I : Inv (X.wish E) pins σ H s) : Inv X pins σ H s := ⟨I.ok.unwish, I.os, I.bare, I.base, I.loc, I.cell, I.free, I.freeC, I.pin, I.hok, I.len⟩
theorem SP.unwish {D : Ends} {f : Flow} {s' : Shared} (h : SP (X.wish E) pins D f s') : SP X pins D f s' := by
  cases f with
  | next => obtain ⟨σ', H', I, q⟩ := h; exact ⟨σ', H', I.unwish, q⟩
  | brk => obtain ⟨σ', H', I, q⟩ := h; exact ⟨σ', H', I.unwish, q⟩
  | cont => obtain ⟨σ', H', I, q⟩ := h; exact ⟨σ', H', I.unwish, q⟩
  | ret u => obtain ⟨v, σ', H', I, r, q⟩ := h; exact ⟨v, σ', H', I.unwish, r, q⟩
theorem PE.nox {e : Expr} {t : TE} (h : PE X.nox e t) : PE X e t := fun pins s σ H Q I hw =>
  wpAny_mono (h pins s σ H Q (I.wish _) hw) (fun _ _ ⟨v, H', I', r, q⟩ => ⟨v, H', I'.unwish, r, q⟩) fun _ _ z => False.elim z
theorem PT.nox {e : Expr} {t : TT} (h : PT X.nox e t) : PT X e t := fun pins s σ H Q I hw =>
  wpAny_mono (h pins s σ H Q (I.wish _) hw) (fun _ _ ⟨H', I', q⟩ => ⟨H', I'.unwish, q⟩) fun _ _ z => False.elim z
theorem PSs.nox {st : List Stmt} {t : TS} (h : PSs X.nox st t) : PSs X st t := fun pins s σ H D I hw =>
  wpAny_mono (h pins s σ H D (I.wish _) hw) (fun _ _ q => q.unwish) fun _ _ z => False.elim z
end

/-! ### blocks and small statements -/
section
variable {X : Cx} {st : Stmt} {rest : List Stmt} {t u : TS} {e : Expr} {te : TE} {pos : Pos}
def tNext : TS := fun D σ H => D.nx σ H
def tSeq (t u : TS) : TS := fun D σ H => t { D with nx := u D } σ H
theorem pss_nil : PSs X [] tNext := fun _ _ σ H _ I h => wpAny_execs_nil ⟨σ, H, I, h⟩
theorem pss_cons (h1 : PS X st t) (h2 : PSs X rest u) : PSs X (st :: rest) (tSeq t u) := by
  intro pins s σ H D I h
  refine wpAny_execs_cons (thn (h1 pins s σ H { D with nx := u D } I h) fun f s1 q => ?_)
  cases f with
  | next =>
    obtain ⟨σ', H', I', q⟩ := q
    exact h2 pins s1 σ' H' D I' q
  | ret v => exact q
  | brk => exact q
  | cont => exact q
theorem pss_one (h1 : PS X st t) : PSs X [st] t := by
  intro pins s σ H D I h
  refine wpAny_execs_cons (thn (h1 pins s σ H D I h) fun f s1 q => ?_)
  cases f with
  | next => exact wpAny_execs_nil q
  | ret v => exact q
  | brk => exact q
  | cont => exact q
def tBreak : TS := fun D σ H => D.bk σ H
def tCont : TS := fun D σ H => D.ct σ H
theorem ps_pass : PS X (.Pass pos) tNext := fun _ _ σ H _ I h => wpAny_Pass ⟨σ, H, I, h⟩
theorem ps_break : PS X (.Break pos) tBreak := fun _ _ σ H _ I h => wpAny_Break ⟨σ, H, I, h⟩
theorem ps_continue : PS X (.Continue pos) tCont := fun _ _ σ H _ I h => wpAny_Continue ⟨σ, H, I, h⟩
/-- in a def's body nothing is shown -/
theorem Inv.quiet {pins : List (Addr × Obj)} {σ : St} {H : Hp} {s : Shared} (I : Inv X pins σ H s) : interactive X.env = false := by simp [interactive, I.ok.kind]
/-- a docstring -/
theorem ps_doc {x j pos pos'} : PS X (.Expr (.Constant (.str x) j pos) pos') tNext := fun _ s σ H _ I h => wpAny_Expr (Calls.Constant_str (show SP X _ _ .next { s with toks := s.toks + 1 } from ⟨σ, H, I.tok _, h⟩)) I.quiet
/-- an expression whose value is dropped -/
def tDrop (te : TE) : TS := fun D σ H => te σ H fun _ H1 => D.nx σ H1
theorem ps_expr (he : PE X e te) (hs : swapsWith e none pos.line X.env = pure false := by rfl) : PS X (.Expr e pos) (tDrop te) := by
  intro pins s σ H D I h
  exact wpAny_Expr_any (thn (he pins s σ H _ I h) fun v s1 ⟨x, H1, I1, r1, q1⟩ => ⟨σ, H1, I1, q1⟩) I.quiet hs
def tRet (te : TE) : TS := fun D σ H => te σ H D.rt
theorem ps_ret (he : PE X e te) : PS X (.Return (some e) pos) (tRet te) := by
  intro pins s σ H D I h
  exact wpAny_Return_some (thn (he pins s σ H _ I h) fun v s1 ⟨x, H1, I1, r1, q1⟩ => ⟨x, σ, H1, I1, r1, q1⟩)
def tRetN : TS := fun D _ H => D.rt .non H
theorem ps_retN : PS X (.Return none pos) tRetN := fun _ _ σ H _ I h => wpAny_Return_none ⟨.non, σ, H, I, rfl, h⟩
def tIfS (c : TT) (t u : TS) : TS := fun D σ H => c σ H fun b H1 => if b = true then t D σ H1 else u D σ H1
theorem ps_if {c : Expr} {a b : List Stmt} {tc : TT} (hc : PT X c tc) (ha : PSs X a t) (hb : PSs X b u) : PS X (.If c a b pos) (tIfS tc t u) := by
  intro pins s σ H D I h
  refine wpAny_If (thn (hc pins s σ H _ I h) fun d s1 ⟨H1, I1, q1⟩ => ?_)
  cases d with
  | true => exact ha pins s1 σ H1 D I1 q1
  | false => exact hb pins s1 σ H1 D I1 q1
/-- code that the proof never comes to -/
def tNever : TS := fun _ _ _ => False
theorem ps_never : PS X st tNever := fun _ _ _ _ _ _ h => h.elim
theorem pss_never {sts : List Stmt} : PSs X sts tNever := fun _ _ _ _ _ _ h => h.elim
end

/-! ### targets -/
abbrev TG := V → St → Hp → (St → Hp → Prop) → Prop
abbrev TGs := List V → St → Hp → (St → Hp → Prop) → Prop
def PG (X : Cx) (target : Expr) (t : TG) : Prop :=
  ∀ (pins : List (Addr × Obj)) (s : Shared) (σ : St) (H : Hp) (v : V) (u : Value) (Q : St → Hp → Prop), Inv X pins σ H s → RelV v u → t v σ H Q →
    wpAny (model X.prog X.w) X.A (assign target X.env u) (fun _ s' => ∃ σ' H', Inv X pins σ' H' s' ∧ Q σ' H') X.xe s
/-- several targets, one after another -/
def PGs (X : Cx) (ts : List Expr) (t : TGs) : Prop :=
  ∀ (pins : List (Addr × Obj)) (s : Shared) (σ : St) (H : Hp) (vs : List V) (us : List Value) (Q : St → Hp → Prop), Inv X pins σ H s → Vals vs us → t vs σ H Q →
    wpAny (model X.prog X.w) X.A (assignInOrder ((assignEach ts X.env).map (·.2)) us) (fun _ s' => ∃ σ' H', Inv X pins σ' H' s' ∧ Q σ' H') X.xe s
/-- o[i] = v, by values -/
abbrev TSet := V → V → V → Hp → (Hp → Prop) → Prop
def PSet (X : Cx) (t : TSet) : Prop :=
  ∀ (pins : List (Addr × Obj)) (s : Shared) (σ : St) (H : Hp) (o i v : V) (ov iv u : Value) (Q : Hp → Prop), Inv X pins σ H s → RelV o ov → RelV i iv → RelV v u → t o i v H Q →
    wpAny (model X.prog X.w) X.A (setItem ov iv u) (fun _ s' => ∃ H', Inv X pins σ H' s' ∧ Q H') X.xe s
/-- a op= b, by values -/
abbrev TIp := V → V → Hp → VK → Prop
def PIp (X : Cx) (op : Operator) (t : TIp) : Prop :=
  ∀ (pins : List (Addr × Obj)) (s : Shared) (σ : St) (H : Hp) (x y : V) (v u : Value) (Q : VK), Inv X pins σ H s → RelV x v → RelV y u → t x y H Q →
    wpAny (model X.prog X.w) X.A (inplaceOp op v u) (EP X pins σ Q) X.xe s
section
variable {X : Cx} {pos : Pos}
def gName (i : Nat) : TG := fun v σ H Q => Q (σ.set i (some v)) H
theorem pg_name {i : Nat} {x : Str} (hN : X.N.Nodup) (hi : X.N[i]? = some x) (hx : Loc X.env.scope x) (hf : X.fn x = true ∨ X.env.scope.names.lookup x = some .local := by first | exact .inl rfl | exact .inr rfl | assumption) : PG X (.Name x pos) (gName i) := by
  intro pins s σ H v u Q I r h
  exact wpAny_assign_Name (store_ok I hN hi hx r (fun s' I' => ⟨_, H, I', h⟩) hf)
def gNil : TGs := fun vs σ H Q => vs = [] ∧ Q σ H
def gCons (t : TG) (u : TGs) : TGs := fun vs σ H Q => ∃ v r, vs = v :: r ∧ t v σ H fun σ' H' => u r σ' H' Q
theorem pgs_nil : PGs X [] gNil := by
  intro pins s σ H vs us Q I r h
  obtain ⟨e, h⟩ := h
  subst e
  cases r
  exact assignInOrder_nil ⟨σ, H, I, h⟩
theorem pgs_cons {e : Expr} {es : List Expr} {t : TG} {u : TGs} (h1 : PG X e t) (h2 : PGs X es u)
    (hs : (assignEach (e :: es) X.env).map (·.2) = assign e X.env :: (assignEach es X.env).map (·.2) := by rfl) : PGs X (e :: es) (gCons t u) := by
  intro pins s σ H vs us Q I r h
  obtain ⟨v, vr, e1, h⟩ := h
  subst e1
  cases r with
  | cons r rr =>
    rw [hs]
    refine assignInOrder_cons (thn (h1 pins s σ H _ _ _ I r h) fun _ s1 ⟨σ1, H1, I1, q1⟩ => ?_)
    exact h2 pins s1 σ1 H1 _ _ Q I1 rr q1
/-- (a, b, ..) = a tuple of that length -/
def gTup (K : PySem.W.Frag) (n : Nat) (t : TGs) : TG := fun v σ H Q => ∃ a xs, v = .ref a ∧ SqT K H a xs ∧ xs.length = n ∧ t xs σ H Q
theorem pg_tup {es : List Expr} {k : Nat} {t : TGs} {n : Nat} (hc : X.calm = true) (h : PGs X es t)
    (hn : (assignEach es X.env).length = n := by rfl) (hst : (assignEach es X.env).findIdx? (·.1) = none := by rfl) : PG X (.Tuple es k pos) (gTup X.K n t) := by
  intro pins s σ H v u Q I r hw
  obtain ⟨a, xs, e1, hq, hl, hw⟩ := hw
  subst e1
  cases r
  obtain ⟨its, rv, ht, hz⟩ := I.tuple hq
  refine assign_Tuple_tuple (I.ok.hd hc) ht (by simp [hn, ← hl, rv.length]) hst fun h' hx => ?_
  have I1 : Inv X pins σ H { s with heap := h' } := I.kept (t' := s.toks) fun b o e => hx b o (Nat.ne_of_lt (Heap.lt_size e)) e
  exact h pins _ σ H xs _ Q I1 (by simpa using rv) hw
/-- o[i] = .. -/
def gSub (to ti : TE) (t : TSet) : TG := fun v σ H Q => to σ H fun o H1 => ti σ H1 fun i H2 => t o i v H2 fun H3 => Q σ H3
theorem pg_sub {o i : Expr} {to ti : TE} {t : TSet} (ho : PE X o to) (hi : PE X i ti) (hs : PSet X t)
    (ha : ∀ v, assign (.Subscript o i pos) X.env v = (do
      let ov ← holding [v] (eval o X.env)
      let iv ← holding [v, ov] (eval i X.env)
      standAt pos
      holding [v, ov, iv] (setItem ov iv v)
      release [v, ov, iv] []) := by intro _; rfl) : PG X (.Subscript o i pos) (gSub to ti t) := by
  intro pins s σ H v u Q I r h
  rw [ha]
  refine wpAny_bind (wpAny_holding (thn (ho pins s σ H _ I h) fun ov s1 ⟨x, H1, I1, r1, q1⟩ => ?_))
  refine wpAny_bind (wpAny_holding (thn (hi pins s1 σ H1 _ I1 q1) fun iv s2 ⟨y, H2, I2, r2, q2⟩ => ?_))
  refine wpAny_bind (wpAny_standAt (wpAny_bind (wpAny_holding (thn (hs pins s2 σ H2 x y v ov iv u _ I2 r1 r2 r q2) fun _ s3 ⟨H3, I3, q3⟩ => ?_))))
  exact wpAny_release ⟨σ, H3, I3, q3⟩
/-- target = value -/
def tAsg (te : TE) (g : TG) : TS := fun D σ H => te σ H fun x H1 => g x σ H1 D.nx
theorem ps_asg {tg e : Expr} {te : TE} {g : TG} (he : PE X e te) (hg : PG X tg g) (hs : swapsWithSole [tg] e pos.line X.env = pure false := by rfl) (hw : swappedStores [tg] e X.env = pure none := by rfl)
    (h1 : (assignEach [tg] X.env).map (·.2) = [assign tg X.env] := by rfl) : PS X (.Assign [tg] e pos) (tAsg te g) := by
  intro pins s σ H D I h
  refine wpAny_Assign_stores (thn (he pins s σ H _ I h) fun v s1 ⟨x, H1, I1, r1, q1⟩ => ?_) hs hw
  rw [h1]
  exact thn (hg pins s1 σ H1 x v _ I1 r1 q1) fun _ s2 q => q
/-- name = value -/
theorem ps_set {i : Nat} {x : Str} {e : Expr} {te : TE} {pos' : Pos} (hN : X.N.Nodup) (hi : X.N[i]? = some x) (hx : Loc X.env.scope x) (he : PE X e te) (hs : swapsWith e (some (.Name x pos')) pos.line X.env = pure false := by rfl) (hf : X.fn x = true ∨ X.env.scope.names.lookup x = some .local := by first | exact .inl rfl | exact .inr rfl | assumption) :
    PS X (.Assign [.Name x pos'] e pos) (tAsg te (gName i)) := by
  intro pins s σ H D I h
  refine wpAny_Assign_Name (thn (he pins s σ H _ I h) fun v s1 ⟨y, H1, I1, r1, q1⟩ => ?_) hs
  exact store_ok I1 hN hi hx r1 (fun s2 I2 => ⟨_, H1, I2, q1⟩) hf
/-- a, b = x, y with plain local names: stored from the right; the pair itself is not tracked (the opening rows as in PyProof/Rows/TupAssign.lean:23) -/
def tPar (i j : Nat) (ta : TA) : TS := fun D σ H => ta σ H fun vs H1 => ∃ v w, vs = [v, w] ∧ D.nx ((σ.set i (some v)).set j (some w)) H1
theorem ps_par {i j : Nat} {x y : Str} {a b : Expr} {ta : TA} {px py pt : Pos} {kt k2 pt2} (hc : X.calm = true) (hN : X.N.Nodup) (hi : X.N[i]? = some x) (hj : X.N[j]? = some y) (hij : i ≠ j)
    (hx : X.env.scope.names.lookup x = some .local) (hy : X.env.scope.names.lookup y = some .local) (ha : PA X [a, b] ta)
    (hw : swappedStores [.Tuple [.Name x px, .Name y py] kt pt] (.Tuple [a, b] k2 pt2) X.env = pure (some [x, y]))
    (hs : swapsWithSole [.Tuple [.Name x px, .Name y py] kt pt] (.Tuple [a, b] k2 pt2) pos.line X.env = pure false := by rfl) :
    PS X (.Assign [.Tuple [.Name x px, .Name y py] kt pt] (.Tuple [a, b] k2 pt2) pos) (tPar i j ta) := by
  intro pins s σ H D I h
  rw [exec_Assign_arm]
  refine wpAny_bind (wpAny_standAt ?_)
  rw [hs]
  refine wpAny_bind (wpAny_pure ?_)
  rw [if_neg (by decide)]
  refine wpAny_bind (Tuple_ (thn (ha _ pins s σ H _ I h) fun us s1 ⟨vs, H1, I1, r1, q1⟩ => ?_))
  obtain ⟨v, w, e1, q1⟩ := q1
  subst e1
  obtain ⟨u1, u2, rfl, rv, rw'⟩ : ∃ u1 u2, us = [u1, u2] ∧ RelV v u1 ∧ RelV w u2 := by
    cases r1 with
    | cons p q =>
      cases q with
      | cons p' q' =>
        cases q'
        exact ⟨_, _, rfl, p, p'⟩
  refine wpAny_newObj_type ?_ (by show 2 ≤ sizeLine; decide)
  have I2 : Inv X pins σ H1 { s1 with heap := s1.heap.push { cls := .type "tuple", data := .seq [u1, u2].toArray } } := I1.kept (t' := s1.toks) fun b o e => Heap.get?_push_of_some _ e
  rw [hw]
  refine wpAny_bind (wpAny_pure ?_)
  show wpAny (model X.prog X.w) X.A (do rule "assign.swapped-stores"; let items ← unpackItems (.ref s1.heap.objs.size) 2 none; assignInOrder [fun v => bindName X.env y v, fun v => bindName X.env x v] items.reverse; pure Flow.next) _ _ _
  refine wpAny_bind (wpAny_rule (wpAny_bind (unpackItems_tuple (items := #[u1, u2]) (I.ok.hd hc) (IsTup.new s1.heap _) fun h' hx' => ?_)))
  have I3 := I2.kept (h' := h') (t' := s1.toks) fun b o e => hx' b o (Nat.ne_of_lt (Heap.lt_size e)) e
  show wpAny _ _ (assignInOrder [fun v => bindName X.env y v, fun v => bindName X.env x v] [u2, u1] >>= fun _ => pure Flow.next) _ _ _
  refine wpAny_bind (assignInOrder_cons (wpAny_bindName (store_ok I3 hN hj (.inl hy) rw' (fun s2 I4 => ?_) (.inr hy))))
  refine assignInOrder_cons (wpAny_bindName (store_ok I4 hN hi (.inl hx) rv (fun s3 I5 => assignInOrder_nil (wpAny_pure ?_)) (.inr hx)))
  rw [List.set_comm _ _ (Ne.symm hij)] at I5
  exact ⟨_, H1, I5, q1⟩
/-- name op= e -/
def tAug (i : Nat) (te : TE) (ti : TIp) : TS := fun D σ H => ∃ x, σ[i]? = some (some x) ∧ te σ H fun y H1 => ti x y H1 fun z H2 => D.nx (σ.set i (some z)) H2
theorem ps_aug {i : Nat} {x : Str} {e : Expr} {te : TE} {op : Operator} {ti : TIp} {pos' : Pos} (hN : X.N.Nodup) (hi : X.N[i]? = some x) (hx : Loc X.env.scope x) (he : PE X e te) (ho : PIp X op ti) (hf : X.fn x = true ∨ X.env.scope.names.lookup x = some .local := by first | exact .inl rfl | exact .inr rfl | assumption) :
    PS X (.AugAssign (.Name x pos') op e pos) (tAug i te ti) := by
  intro pins s σ H D I h
  obtain ⟨v, e1, h⟩ := h
  obtain ⟨m, hn, hl⟩ := I.loc
  have vis : Vis X.env.scope x := by rcases hx with k | k; exact .inl k; exact .inr (.inl k)
  obtain ⟨u, r, l⟩ := hl i x v hi e1 vis
  refine wpAny_AugAssign_Name ?_
  have go : wpAny (model X.prog X.w) X.A (eval e X.env) (fun w s₂ => wpAny (model X.prog X.w) X.A (inplaceOp op u w) (fun r s₃ => wpAny (model X.prog X.w) X.A (storeName X.env x r) (fun _ => SP X pins D .next) X.xe s₃) X.xe s₂) X.xe s := by
    refine thn (he pins s σ H _ I h) fun w s1 ⟨y, H1, I1, r1, q1⟩ => ?_
    refine thn (ho pins s1 σ H1 v y u w _ I1 r r1 q1) fun z s2 ⟨zv, H2, I2, r2, q2⟩ => ?_
    exact store_ok I2 hN hi hx r2 (fun s3 I3 => ⟨_, H2, I3, q2⟩) hf
  rcases l with ⟨hk, hm⟩ | ⟨hk, c, hc, hcell⟩
  · exact wpAny_loadName_local I.ok.kind hk hn hm go
  · rcases hk with hk | hk
    · exact wpAny_loadName_cell I.ok.kind hk hc hcell go
    · rcases hx with k | k
      · have : X.env.scope.names.lookup x = some .free := hk
        rw [k] at this; cases this
      · have : X.env.scope.names.lookup x = some .free := hk
        rw [k] at this; cases this
/-- o[i] op= e -/
def tAugS (to ti te : TE) (tget : V → V → Hp → VK → Prop) (tip : TIp) (tset : TSet) : TS := fun D σ H => to σ H fun o H1 => ti σ H1 fun i H2 => tget o i H2 fun x H3 => te σ H3 fun y H4 => tip x y H4 fun z H5 => tset o i z H5 fun H6 => D.nx σ H6
/-- o[i], by values -/
def PGet (X : Cx) (t : V → V → Hp → VK → Prop) : Prop :=
  ∀ (pins : List (Addr × Obj)) (s : Shared) (σ : St) (H : Hp) (o i : V) (ov iv : Value) (Q : VK), Inv X pins σ H s → RelV o ov → RelV i iv → t o i H Q →
    wpAny (model X.prog X.w) X.A (getItem ov iv) (EP X pins σ Q) X.xe s
theorem ps_augS {o i e : Expr} {to ti te : TE} {tget : V → V → Hp → VK → Prop} {tip : TIp} {tset : TSet} {op : Operator} {tpos : Pos} (ho : PE X o to) (hi : PE X i ti) (hg : PGet X tget) (he : PE X e te) (hp : PIp X op tip) (hs : PSet X tset)
    (ha : ∀ ov iv new, augStore i ov iv new = (do holding [new, ov, iv] (setItem ov iv new); release [new, ov, iv] []; pure .next) := by intros; rfl) : PS X (.AugAssign (.Subscript o i tpos) op e pos) (tAugS to ti te tget tip tset) := by
  intro pins s σ H D I h
  refine wpAny_AugAssign_SubscriptAny (thn (ho pins s σ H _ I h) fun ov s1 ⟨x1, H1, I1, r1, q1⟩ => ?_) ha
  refine thn (hi pins s1 σ H1 _ I1 q1) fun iv s2 ⟨x2, H2, I2, r2, q2⟩ => ?_
  refine thn (hg pins s2 σ H2 x1 x2 ov iv _ I2 r1 r2 q2) fun old s3 ⟨x3, H3, I3, r3, q3⟩ => ?_
  refine thn (he pins s3 σ H3 _ I3 q3) fun v s4 ⟨x4, H4, I4, r4, q4⟩ => ?_
  refine thn (hp pins s4 σ H4 x3 x4 old v _ I4 r3 r4 q4) fun new s5 ⟨x5, H5, I5, r5, q5⟩ => ?_
  exact thn (hs pins s5 σ H5 x1 x2 x5 ov iv new _ I5 r1 r2 r5 q5) fun _ s6 ⟨H6, I6, q6⟩ => ⟨σ, H6, I6, q6⟩
/-- ints -/
def ipI (f : Int → Int → Int) : TIp := fun x y H Q => ∃ i j, x = .int i ∧ y = .int j ∧ Q (.int (f i j)) H
theorem ip_add : PIp X .Add (ipI fun i j => i + j) := by
  intro pins s σ H x y v u Q I r1 r2 h
  obtain ⟨i, j, e1, e2, q⟩ := h
  subst e1; subst e2
  obtain ⟨t, rfl⟩ := r1
  obtain ⟨t', rfl⟩ := r2
  exact iadd_int ⟨.int _, H, I.tok _, ⟨_, rfl⟩, q⟩
theorem ip_sub : PIp X .Sub (ipI fun i j => i - j) := by
  intro pins s σ H x y v u Q I r1 r2 h
  obtain ⟨i, j, e1, e2, q⟩ := h
  subst e1; subst e2
  obtain ⟨t, rfl⟩ := r1
  obtain ⟨t', rfl⟩ := r2
  exact isub_int ⟨.int _, H, I.tok _, ⟨_, rfl⟩, q⟩
end

/-! ### while -/
section
variable {X : Cx} {pos : Pos}
/-- the invariant W with its measure -/
def tWhile (c : TT) (tb : TS) : TS := fun D σ H => ∃ W : Nat → St → Hp → Prop, (∃ m, W m σ H) ∧ ∀ m σ H, W m σ H →
  c σ H fun b H1 => if b = true then ∃ N : St → Hp → Prop, (∀ σ' H', N σ' H' → ∃ m', m' < m ∧ W m' σ' H') ∧ tb { D with nx := N, ct := N, bk := D.nx } σ H1 else D.nx σ H1
theorem ps_while {c : Expr} {body : List Stmt} {tc : TT} {tb : TS} (hp : PassesOwn (model X.prog X.w) X.A X.env X.xe) (hc : PT X c tc) (hb : PSs X body tb) : PS X (.While c body [] pos) (tWhile tc tb) := by
  intro pins s σ H D I h
  obtain ⟨W, ⟨m0, w0⟩, turn⟩ := h
  refine wpAny_While (codeAny_whileLoop (fun n s' => ∃ σ' H', Inv X pins σ' H' s' ∧ W n σ' H') ?_ m0 ⟨σ, H, I, w0⟩)
  rintro n s1 ⟨σ1, H1, I1, w1⟩
  refine wpAny_passesOwn hp (thn (hc pins s1 σ1 H1 _ I1 (turn n σ1 H1 w1)) fun b s2 ⟨H2, I2, q2⟩ => ?_)
  cases b with
  | true =>
    obtain ⟨N, hN, q2⟩ := q2
    rw [if_pos rfl]
    refine wpAny_passesOwn hp (thn (hb pins s2 σ1 H2 _ I2 q2) fun f s3 q3 => ?_)
    cases f with
    | next =>
      obtain ⟨σ3, H3, I3, n3⟩ := q3
      obtain ⟨m', hm, w3⟩ := hN σ3 H3 n3
      exact ⟨m', hm, σ3, H3, I3, w3⟩
    | cont =>
      obtain ⟨σ3, H3, I3, n3⟩ := q3
      obtain ⟨m', hm, w3⟩ := hN σ3 H3 n3
      exact ⟨m', hm, σ3, H3, I3, w3⟩
    | brk => exact q3
    | ret v => exact q3
  | false =>
    rw [if_neg Bool.false_ne_true]
    exact wpAny_execs_nil ⟨σ1, H2, I2, q2⟩
end

/-! ### what a loop or a comprehension walks -/
/-- at turn i: it yields x (the heap may grow), or it stops -/
structure It where
  go : Nat → Hp → Prop
  yld : Nat → Hp → V → Hp → Prop
  stop : Nat → Hp → Prop
/-- the iterator's own objects may turn: they are not the frame's, not pinned, younger than the entry (or a comprehension's own) -/
def FpOk (X : Cx) (pins : List (Addr × Obj)) (H : Hp) (b : Addr) : Prop :=
  H b = none ∧ b ≠ X.env.locals ∧ b ∉ X.fs ∧ (b ∈ X.ex ∨ X.s_0.heap.objs.size ≤ b) ∧ (∀ x c, X.env.cells.lookup x = some c → c ≠ b) ∧ ∀ p ∈ X.pn ++ pins, p.1 ≠ b
theorem Inv.fpOk {X : Cx} {pins : List (Addr × Obj)} {σ : St} {H H' : Hp} {s : Shared} {b : Addr} (I : Inv X pins σ H s) (hb : s.heap.objs.size ≤ b) (hn : H' b = none) : FpOk X pins H' b := by
  refine ⟨hn, Nat.ne_of_gt (Nat.lt_of_lt_of_le I.lt hb), I.nofs hb, .inr (Nat.le_trans I.sz hb), fun x c e z => ?_, fun p hp z => ?_⟩
  · obtain ⟨v, q⟩ := I.cell x c e
    exact absurd (Nat.lt_of_lt_of_le q.lt (by rw [z]; exact hb)) (Nat.lt_irrefl _)
  · exact absurd (Nat.lt_of_lt_of_le (Heap.lt_size (I.pin p hp).1) (by rw [z]; exact hb)) (Nat.lt_irrefl _)
structure Turn (P : Program) (w : World) (K : PySem.W.Frag) (tg : Expr) (J : It) (fp : List Addr) (it : Addr) (tn : Nat → Heap → Prop) : Prop where
  mem : it ∈ fp
  obj : ∀ i h, tn i h → ∀ b ∈ fp, ∃ o, h.get? b = some o ∧ ∀ v, o.data ≠ .cell v
  keep : ∀ i h h', tn i h → (∀ b ∈ fp, ∀ o, h.get? b = some o → h'.get? b = some o) → tn i h'
  item : ∀ (X : Cx), X.prog = P → X.w = w → X.K = K → X.calm = true → ∀ (i : Nat) (pins : List (Addr × Obj)) (s : Shared) (σ : St) (H : Hp) (E : Value → Shared → Prop), Inv X pins σ H s → (∀ b ∈ fp, FpOk X pins H b) → tn i s.heap → J.go i H →
    wpAny (model P w) X.A (pyNext (.ref it)) (fun r s1 => ∃ u, r = some u ∧
      wpAny (model P w) X.A (letOwnedTupleGo tg (.ref it) u) (fun _ s2 => ∃ x H', Inv X pins σ H' s2 ∧ RelV x u ∧ J.yld i H x H' ∧ tn (i + 1) s2.heap ∧ ∀ b ∈ fp, H' b = none) E s1) E s
  done : ∀ (X : Cx), X.prog = P → X.w = w → X.K = K → X.calm = true → ∀ (i : Nat) (pins : List (Addr × Obj)) (s : Shared) (σ : St) (H : Hp) (E : Value → Shared → Prop), Inv X pins σ H s → (∀ b ∈ fp, FpOk X pins H b) → tn i s.heap → J.stop i H →
    wpAny (model P w) X.A (pyNext (.ref it)) (fun r s1 => r = none ∧ Inv X pins σ H s1) E s
  self : ∀ (A : Around) (i : Nat) (s : Shared) (Q : Value → Shared → Prop) (E : Value → Shared → Prop), tn i s.heap → Q (.ref it) s → wpAny (model P w) A (pyIter (.ref it)) Q E s
abbrev TI := St → Hp → (It → Hp → Prop) → Prop
/-- an iterator has come -/
def PIE (X : Cx) (pins : List (Addr × Obj)) (σ : St) (tg : Expr) (R : It → Hp → Prop) (itv : Value) (s2 : Shared) : Prop :=
  ∃ (it : Addr) (fp : List Addr) (tn : Nat → Heap → Prop) (J : It) (H' : Hp), itv = .ref it ∧ Inv X pins σ H' s2 ∧ Turn X.prog X.w X.K tg J fp it tn ∧ tn 0 s2.heap ∧ (∀ b ∈ fp, FpOk X pins H' b) ∧ R J H'
def PI (X : Cx) (tg iter : Expr) (wi : TI) : Prop :=
  ∀ (pins : List (Addr × Obj)) (s : Shared) (σ : St) (H : Hp) (R : It → Hp → Prop), Inv X pins σ H s → wi σ H R →
    wpAny (model X.prog X.w) X.A (eval iter X.env) (fun v s1 => wpAny (model X.prog X.w) X.A (pyIter v) (PIE X pins σ tg R) X.xe s1) X.xe s

/-- the step ahead of the store is nothing for an iterator that keeps no tuple -/
theorem go_of {M : Model} {A : Around} {E : Value → Shared → Prop} {s : Shared} {tg : Expr} {it : Addr} {u : Value} {o : Obj} {n : String} {vs : Array Value} {Q : Unit → Shared → Prop} (ho : s.heap.get? it = some o) (hc : o.cls = .type n) (hd : o.data = .fields vs)
    (hn : ["enumerate", "zip", "dict_itemiterator", "dict_reverseitemiterator", "odict_iterator", "itertools.zip_longest", "itertools.pairwise"].contains n = false) (hQ : Q () s) : wpAny M A (letOwnedTupleGo tg (.ref it) u) Q E s := by
  unfold letOwnedTupleGo
  cases tg <;> first
    | exact wpAny_pure hQ
    | (cases u <;> first
        | exact wpAny_pure hQ
        | (refine wpAny_bind (wpAny_load ho ?_)
           rw [hc, hd]
           show wpAny M A (if (["enumerate", "zip", "dict_itemiterator", "dict_reverseitemiterator", "odict_iterator", "itertools.zip_longest", "itertools.pairwise"].contains n && vs[0]? == some (rawInt _)) = true then _ else _) Q E s
           rw [if_neg (by intro h; rw [hn, Bool.false_and] at h; cases h)]
           exact wpAny_pure hQ))

/-- the list at a, as it stands at each turn (a loop may append to it) -/
def Itl (K : PySem.W.Frag) (a : Addr) : It :=
  ⟨fun i H => ∃ xs x, SqL K H a xs ∧ xs[i]? = some x, fun i H x H' => H' = H ∧ ∀ xs, SqL K H a xs → xs[i]? = some x, fun i H => ∃ xs, SqL K H a xs ∧ xs.length ≤ i⟩
def Itt (K : PySem.W.Frag) (a : Addr) : It :=
  ⟨fun i H => ∃ xs x, SqT K H a xs ∧ xs[i]? = some x, fun i H x H' => H' = H ∧ ∀ xs, SqT K H a xs → xs[i]? = some x, fun i H => ∃ xs, SqT K H a xs ∧ xs.length ≤ i⟩
/-- lo, lo + 1, .. (n of them) -/
def Itr (lo : Int) (n : Nat) : It := ⟨fun i _ => i < n, fun i H x H' => H' = H ∧ x = .int (lo + i), fun i _ => n ≤ i⟩
theorem turn_list {P : Program} {w : World} {K : PySem.W.Frag} {tg : Expr} (a it : Addr) : Turn P w K tg (Itl K a) [it] it (fun i h => h.IsListIter it a i) where
  mem := by simp
  obj := fun i h st b hb => by
    have e : b = it := by simpa using hb
    subst e
    obtain ⟨o, e, c, d⟩ := st
    exact ⟨o, e, fun v z => by rw [d] at z; cases z⟩
  keep := fun i h h' st k => st.at fun o e => k it (by simp) o e
  item := by
    intro X hP hw hK hc i pins s σ H E I hf st hg
    subst hP hw hK
    obtain ⟨xs, x, hq, hx⟩ := hg
    obtain ⟨its, rv, p, hz⟩ := I.list hq
    obtain ⟨u, hu, ru⟩ := rv.get hx
    obtain ⟨f0, f1, f2, f3, f4, f5⟩ := hf it (by simp)
    refine wpAny_pyNext_list_item st p.isList (x := u) (by simpa using hu) fun h' st' sb => ?_
    have I1 : Inv X pins σ H { s with heap := h' } := I.turned (t' := s.toks) (fun b o hb e => (sb.2 b hb).trans e) f0 f1 f3 f4 f5
    obtain ⟨o, e, c, d⟩ := id st'
    exact ⟨u, rfl, go_of (s := { s with heap := h' }) e c d (by decide) ⟨x, H, I1, ru, ⟨rfl, fun ys hy => by rw [I.list_inj hy hq]; exact hx⟩, st', fun b hb => (hf b hb).1⟩⟩
  done := by
    intro X hP hw hK hc i pins s σ H E I hf st hg
    subst hP hw hK
    obtain ⟨xs, hq, hx⟩ := hg
    obtain ⟨its, rv, p, hz⟩ := I.list hq
    obtain ⟨f0, f1, f2, f3, f4, f5⟩ := hf it (by simp)
    have hl := rv.length
    exact wpAny_pyNext_list_end (I.ok.hd hc) st p.isList (by simp; omega) fun h' eb => ⟨rfl, I.turned (t' := s.toks) (fun b o hb e => eb b o hb e) f0 f1 f3 f4 f5⟩
  self := fun _ _ _ _ _ st h => wpAny_pyIter_listiter st h
theorem turn_tuple {P : Program} {w : World} {K : PySem.W.Frag} {tg : Expr} (a it : Addr) : Turn P w K tg (Itt K a) [it] it (fun i h => h.IsTupleIter it a i) where
  mem := by simp
  obj := fun i h st b hb => by
    have e : b = it := by simpa using hb
    subst e
    obtain ⟨o, e, c, d⟩ := st
    exact ⟨o, e, fun v z => by rw [d] at z; cases z⟩
  keep := fun i h h' st k => st.at fun o e => k it (by simp) o e
  item := by
    intro X hP hw hK hc i pins s σ H E I hf st hg
    subst hP hw hK
    obtain ⟨xs, x, hq, hx⟩ := hg
    obtain ⟨its, rv, p, hz⟩ := I.tuple hq
    obtain ⟨u, hu, ru⟩ := rv.get hx
    obtain ⟨f0, f1, f2, f3, f4, f5⟩ := hf it (by simp)
    refine wpAny_pyNext_tuple_item st (show s.heap.IsTuple a its.toArray from p) (x := u) (by simpa using hu) fun h' st' sb => ?_
    have I1 : Inv X pins σ H { s with heap := h' } := I.turned (t' := s.toks) (fun b o hb e => (sb.2 b hb).trans e) f0 f1 f3 f4 f5
    obtain ⟨o, e, c, d⟩ := id st'
    exact ⟨u, rfl, go_of (s := { s with heap := h' }) e c d (by decide) ⟨x, H, I1, ru, ⟨rfl, fun ys hy => by rw [I.tuple_inj hy hq]; exact hx⟩, st', fun b hb => (hf b hb).1⟩⟩
  done := by
    intro X hP hw hK hc i pins s σ H E I hf st hg
    subst hP hw hK
    obtain ⟨xs, hq, hx⟩ := hg
    obtain ⟨its, rv, p, hz⟩ := I.tuple hq
    obtain ⟨f0, f1, f2, f3, f4, f5⟩ := hf it (by simp)
    have hl := rv.length
    exact wpAny_pyNext_tuple_end (I.ok.hd hc) st (show s.heap.IsTuple a its.toArray from p) (by simp; omega) fun h' eb => ⟨rfl, I.turned (t' := s.toks) (fun b o hb e => eb b o hb e) f0 f1 f3 f4 f5⟩
  self := fun _ _ _ _ _ st h => wpAny_pyIter_tupleiter st h
theorem turn_range {P : Program} {w : World} {K : PySem.W.Frag} {tg : Expr} (it : Addr) (lo : Int) (n : Nat) : Turn P w K tg (Itr lo n) [it] it (fun i h => IsRangeIter h it (lo + (i : Nat) * 1) ((n : Int) - (i : Nat)) 1) where
  mem := by simp
  obj := fun i h st b hb => by
    have e : b = it := by simpa using hb
    subst e
    exact ⟨_, st, fun v z => by
      have z' : Data.fields _ = Data.cell v := z
      cases z'⟩
  keep := fun i h h' st k => k it (by simp) _ st
  item := by
    intro X hP hw hK hc i pins s σ H E I hf st hg
    subst hP hw hK
    obtain ⟨f0, f1, f2, f3, f4, f5⟩ := hf it (by simp)
    have W := Walks.range (prog := X.prog) (w := X.w) (I.ok.hd hc) it lo 1 n
    refine W.item i s _ _ hg st fun v h' tk hv st' kk => ?_
    obtain ⟨t, rfl⟩ := hv
    have I1 : Inv X pins σ H { s with heap := h', toks := tk } := I.turned (fun b o hb e => kk b o (by simpa using hb) e) f0 f1 f3 f4 f5
    refine ⟨_, rfl, go_of (s := { s with heap := h', toks := tk }) (n := "range_iterator") st' rfl rfl (by decide) ⟨.int (lo + i), H, I1, ⟨t, ?_⟩, ⟨rfl, rfl⟩, st', fun b hb => (hf b hb).1⟩⟩
    rw [Int.mul_one]
  done := by
    intro X hP hw hK hc i pins s σ H E I hf st hg
    subst hP hw hK
    obtain ⟨f0, f1, f2, f3, f4, f5⟩ := hf it (by simp)
    exact wpAny_pyNext_range_end (I.ok.hd hc) st (by have : n ≤ i := hg; omega) fun h' eb => ⟨rfl, I.turned (t' := s.toks) (fun b o hb e => eb b o hb e) f0 f1 f3 f4 f5⟩
  self := fun _ _ _ _ _ st h => wpAny_pyIter_rangeiter st h
end L2

namespace L2
open PySem PySem.Spec PyProof.Rows
section
variable {X : Cx} {tg : Expr}
def iList (K : PySem.W.Frag) (tl : TE) : TI := fun σ H R => tl σ H fun x H1 => ∃ a, x = .ref a ∧ (∃ xs, SqL K H1 a xs) ∧ R (Itl K a) H1
def iTup (K : PySem.W.Frag) (tl : TE) : TI := fun σ H R => tl σ H fun x H1 => ∃ a, x = .ref a ∧ (∃ xs, SqT K H1 a xs) ∧ R (Itt K a) H1
theorem pi_list {l : Expr} {tl : TE} (hl : PE X l tl) : PI X tg l (iList X.K tl) := by
  intro pins s σ H R I h
  refine thn (hl pins s σ H _ I h) fun v s1 ⟨x, H1, I1, r1, q1⟩ => ?_
  obtain ⟨a, e, ⟨xs, hq⟩, q⟩ := q1
  subst e
  cases r1
  obtain ⟨its, rv, p, hz⟩ := I1.list hq
  refine wpAny_pyIter_list p.isList ?_
  refine ⟨s1.heap.objs.size, [s1.heap.objs.size], _, _, H1, rfl, I1.kept (t' := s1.toks) fun b o e => Heap.get?_push_of_some _ e, turn_list a _, ⟨_, Heap.get?_push_size _ rfl, rfl, rfl⟩, fun b hb => ?_, q⟩
  have e : b = s1.heap.objs.size := by simpa using hb
  subst e
  exact I1.fpOk (Nat.le_refl _) (I1.hok.fresh (Nat.le_refl _))
theorem pi_tup {l : Expr} {tl : TE} (hl : PE X l tl) : PI X tg l (iTup X.K tl) := by
  intro pins s σ H R I h
  refine thn (hl pins s σ H _ I h) fun v s1 ⟨x, H1, I1, r1, q1⟩ => ?_
  obtain ⟨a, e, ⟨xs, hq⟩, q⟩ := q1
  subst e
  cases r1
  obtain ⟨its, rv, p, hz⟩ := I1.tuple hq
  refine wpAny_pyIter_tuple (show s1.heap.IsTuple a its.toArray from p) ?_
  refine ⟨s1.heap.objs.size, [s1.heap.objs.size], _, _, H1, rfl, I1.kept (t' := s1.toks) fun b o e => Heap.get?_push_of_some _ e, turn_tuple a _, ⟨_, Heap.get?_push_size _ rfl, rfl, rfl⟩, fun b hb => ?_, q⟩
  have e : b = s1.heap.objs.size := by simpa using hb
  subst e
  exact I1.fpOk (Nat.le_refl _) (I1.hok.fresh (Nat.le_refl _))
/-- a range object just made, walked -/
theorem range_it {pins : List (Addr × Obj)} {σ : St} {H : Hp} {s : Shared} {R : It → Hp → Prop} {E : Value → Shared → Prop} {lo hi : Int} {t u v : Tok} {tk : Nat} (I : Inv X pins σ H s) (h1 : -(2 ^ 62) ≤ lo) (h2 : lo < 2 ^ 62) (h3 : -(2 ^ 62) ≤ hi) (h4 : hi < 2 ^ 62)
    (q : R (Itr lo (hi - lo).toNat) H) : wpAny (model X.prog X.w) X.A (pyIter (.ref s.heap.objs.size)) (PIE X pins σ tg R) E { s with heap := s.heap.push { cls := .type "range", data := .fields #[.int lo t, .int hi u, .int 1 v] }, toks := tk } := by
  refine wpAny_pyIter_range (IsRange.new ..) (small_one h1 h2 h3 h4) ?_
  have I1 : Inv X pins σ H { s with heap := s.heap.push { cls := .type "range", data := .fields #[.int lo t, .int hi u, .int 1 v] }, toks := tk } := I.kept fun b o e => Heap.get?_push_of_some _ e
  refine ⟨(s.heap.push { cls := .type "range", data := .fields #[.int lo t, .int hi u, .int 1 v] }).objs.size, [(s.heap.push { cls := .type "range", data := .fields #[.int lo t, .int hi u, .int 1 v] }).objs.size], _, _, H, rfl,
    I1.kept (t' := tk) fun b o e => Heap.get?_push_of_some _ e, turn_range _ lo (hi - lo).toNat, ?_, fun b hb => ?_, q⟩
  · have e1 : lo + ((0 : Nat) : Int) * 1 = lo := by simp
    have e2 : (((hi - lo).toNat : Nat) : Int) - ((0 : Nat) : Int) = Builtin.Range.rangeSize lo hi 1 := by rw [rangeSize_one]; split <;> omega
    show IsRangeIter _ _ (lo + ((0 : Nat) : Int) * 1) ((((hi - lo).toNat : Nat) : Int) - ((0 : Nat) : Int)) 1
    rw [e1, e2]
    exact Heap.get?_push_size _ rfl
  · have e : b = (s.heap.push { cls := .type "range", data := .fields #[.int lo t, .int hi u, .int 1 v] }).objs.size := by simpa using hb
    subst e
    exact I1.fpOk (Nat.le_refl _) (I1.hok.fresh (Nat.le_refl _))
def iRng1 (ta : TA) : TI := fun σ H R => ta σ H fun vs H1 => ∃ j : Int, vs = [.int j] ∧ -(2 ^ 62) ≤ j ∧ j < 2 ^ 62 ∧ R (Itr 0 j.toNat) H1
def iRng2 (ta : TA) : TI := fun σ H R => ta σ H fun vs H1 => ∃ i j : Int, vs = [.int i, .int j] ∧ (-(2 ^ 62) ≤ i ∧ i < 2 ^ 62 ∧ -(2 ^ 62) ≤ j ∧ j < 2 ^ 62) ∧ R (Itr i (j - i).toNat) H1
theorem pi_range1 {a : Expr} {ta : TA} {p pos : Pos} (hg : Gl X "range") (hm : X.mg "range" = none) (ha : PA X [a] ta) (hs : starEach [a] X.env = [(false, eval a X.env)] := by rfl) : PI X tg (.Call (.Name "range" p) [a] [] pos) (iRng1 ta) := by
  intro pins s σ H R I h
  refine Call_ (ld_blt I hg hm boot_range (PyProof.Rows.callWith_type1 (thn (ha pos pins s σ H _ I h) fun us s1 ⟨vs, H1, I1, r1, q1⟩ => ?_) hs rfl))
  obtain ⟨j, e, q1, q2, q⟩ := q1
  subst e
  cases r1 with
  | cons r rr =>
    cases rr
    obtain ⟨t, rfl⟩ := r
    exact call_range_1 (range_it I1 (by omega) (by omega) q1 q2 (by simpa using q))
theorem pi_range2 {a b : Expr} {ta : TA} {p pos : Pos} (hg : Gl X "range") (hm : X.mg "range" = none) (ha : PA X [a, b] ta) (hs : starEach [a, b] X.env = [(false, eval a X.env), (false, eval b X.env)] := by rfl) (hs2 : starEach [b] X.env = [(false, eval b X.env)] := by rfl) :
    PI X tg (.Call (.Name "range" p) [a, b] [] pos) (iRng2 ta) := by
  intro pins s σ H R I h
  refine Call_ (ld_blt I hg hm boot_range (PyProof.Rows.callWith_type1 (thn (ha pos pins s σ H _ I h) fun us s1 ⟨vs, H1, I1, r1, q1⟩ => ?_) (by rw [hs, hs2]) (by rw [hs2]; rfl)))
  obtain ⟨i, j, e, ⟨q1, q2, q3, q4⟩, q⟩ := q1
  subst e
  cases r1 with
  | cons r rr =>
    cases rr with
    | cons r' rr =>
      cases rr
      obtain ⟨t, rfl⟩ := r
      obtain ⟨t', rfl⟩ := r'
      exact call_range_2 (range_it I1 q1 q2 q3 q4 q)

/-! ### for -/
/-- W: the invariant by the turn and a measure; N: what the body is to reach -/
def tFor (wi : TI) (g : TG) (tb : TS) : TS := fun D σ H => wi σ H fun J H1 => ∃ W : Nat → Nat → St → Hp → Prop, (∃ m, W 0 m σ H1) ∧ ∀ i m σ H, W i m σ H →
  (J.stop i H ∧ D.nx σ H) ∨ (J.go i H ∧ ∃ N : St → Hp → Prop, (∀ σ' H', N σ' H' → ∃ m', m' < m ∧ W (i + 1) m' σ' H') ∧ ∀ x H', J.yld i H x H' → g x σ H' fun σ2 H2 => tb { D with nx := N, ct := N, bk := D.nx } σ2 H2)
/-- the records at fp as they stand -/
def pinsAt (fp : List Addr) (h : Heap) : List (Addr × Obj) := fp.filterMap fun b => (h.get? b).map fun o => (b, o)
theorem mem_pinsAt {fp : List Addr} {h : Heap} {b : Addr} {o : Obj} (hb : b ∈ fp) (e : h.get? b = some o) : (b, o) ∈ pinsAt fp h := List.mem_filterMap.mpr ⟨b, hb, by rw [e]; rfl⟩
theorem of_pinsAt {fp : List Addr} {h : Heap} {p : Addr × Obj} (hp : p ∈ pinsAt fp h) : p.1 ∈ fp ∧ h.get? p.1 = some p.2 := by
  obtain ⟨b, hb, e⟩ := List.mem_filterMap.mp hp
  cases q : h.get? b with
  | none => rw [q] at e; cases e
  | some o =>
    rw [q] at e
    have e' : (b, o) = p := Option.some.inj e
    subst e'
    exact ⟨hb, q⟩
theorem Inv.pinned {pins : List (Addr × Obj)} {σ : St} {H : Hp} {s : Shared} {fp : List Addr} (I : Inv X pins σ H s) (hf : ∀ b ∈ fp, FpOk X pins H b) (ho : ∀ b ∈ fp, ∃ o, s.heap.get? b = some o ∧ ∀ v, o.data ≠ .cell v) : Inv X (pins ++ pinsAt fp s.heap) σ H s :=
  I.pins_of fun p hp => (List.mem_append.mp hp).elim (fun z => I.pin p (List.mem_append_right _ z)) fun z => by
    obtain ⟨hb, e⟩ := of_pinsAt z
    obtain ⟨f0, f1, f2, _⟩ := hf p.1 hb
    obtain ⟨o, e', d⟩ := ho p.1 hb
    rw [e] at e'; cases e'
    exact ⟨e, f0, f1, f2, d⟩
theorem Inv.unpinned {pins pl : List (Addr × Obj)} {σ : St} {H : Hp} {s : Shared} (I : Inv X (pins ++ pl) σ H s) : Inv X pins σ H s := I.pins_of fun p hp => I.pin p (List.mem_append_right _ (List.mem_append_left _ hp))
theorem ps_for {iter : Expr} {body : List Stmt} {wi : TI} {g : TG} {tb : TS} {pos : Pos} (hp : PassesOwn (model X.prog X.w) X.A X.env X.xe) (hc : X.calm = true) (hi : PI X tg iter wi) (hg : PG X tg g) (hb : PSs X body tb)
    (hs : ∀ x, foldedSetIterable iter X.env x = pure x := by intro _; rfl) : PS X (.For tg iter body [] pos) (tFor wi g tb) := by
  intro pins s σ H D I h
  refine wpAny_For (thn (hi pins s σ H _ I h) fun v s1 h1 => thn h1 fun itv s2 h2 => ?_) hs
  obtain ⟨it, fp, tn, J, H2, e, I2, T, st2, f2, W, ⟨m0, w0⟩, turn⟩ := h2
  subst e
  -- what stays true of the iterator's objects through the loop
  have stat : ∀ {H' : Hp}, (∀ b ∈ fp, H' b = none) → ∀ b ∈ fp, FpOk X pins H' b := fun hn b hb => ⟨hn b hb, (f2 b hb).2⟩
  refine codeAny_forLoop_any (fun n s' => ∃ i σ' H', Inv X pins σ' H' s' ∧ tn i s'.heap ∧ (∀ b ∈ fp, H' b = none) ∧ W i n σ' H') ?_ m0 ⟨0, σ, H2, I2, st2, fun b hb => (f2 b hb).1, w0⟩
  rintro n s3 ⟨i, σ3, H3, I3, st3, fr3, w3⟩
  rcases turn i n σ3 H3 w3 with ⟨stop, qn⟩ | ⟨go, N, hN, step⟩
  · refine wpAny_passesOwn hp (thn (T.done X rfl rfl rfl hc i pins s3 σ3 H3 X.xe I3 (stat fr3) st3 stop) fun r s4 ⟨hr, I4⟩ => ?_)
    subst hr
    exact wpAny_execs_nil ⟨σ3, H3, I4, qn⟩
  · refine wpAny_passesOwn hp (thn (T.item X rfl rfl rfl hc i pins s3 σ3 H3 X.xe I3 (stat fr3) st3 go) fun r s4 ⟨u, hr, h4⟩ => ?_)
    subst hr
    refine wpAny_passesOwn hp (thn h4 fun _ s5 ⟨x, H5, I5, r5, y5, st5, fr5⟩ => ?_)
    have I5' := I5.pinned (stat fr5) (T.obj _ _ st5)
    refine wpAny_passesOwn hp (thn (hg _ s5 σ3 H5 x u _ I5' r5 (step x H5 y5)) fun _ s6 ⟨σ6, H6, I6, q6⟩ => ?_)
    refine wpAny_passesOwn hp (thn (hb _ s6 σ6 H6 _ I6 q6) fun f s7 q7 => ?_)
    have again : ∀ {σ7 : St} {H7 : Hp}, Inv X (pins ++ pinsAt fp s5.heap) σ7 H7 s7 → N σ7 H7 → ∃ m, m < n ∧ ∃ i σ' H', Inv X pins σ' H' s7 ∧ tn i s7.heap ∧ (∀ b ∈ fp, H' b = none) ∧ W i m σ' H' := fun {σ7 H7} I7 n7 => by
      obtain ⟨m', hm, w7⟩ := hN σ7 H7 n7
      refine ⟨m', hm, i + 1, σ7, H7, I7.unpinned, T.keep _ _ _ st5 fun b hb o e => (I7.pin (b, o) (List.mem_append_right _ (List.mem_append_right _ (mem_pinsAt hb e)))).1, fun b hb => ?_, w7⟩
      obtain ⟨o, e, d⟩ := T.obj _ _ st5 b hb
      exact (I7.pin (b, o) (List.mem_append_right _ (List.mem_append_right _ (mem_pinsAt hb e)))).2.1
    cases f with
    | next => obtain ⟨σ7, H7, I7, n7⟩ := q7; exact again I7 n7
    | cont => obtain ⟨σ7, H7, I7, n7⟩ := q7; exact again I7 n7
    | brk => obtain ⟨σ7, H7, I7, q7⟩ := q7; exact ⟨σ7, H7, I7.unpinned, q7⟩
    | ret v => obtain ⟨x7, σ7, H7, I7, r7, q7⟩ := q7; exact ⟨x7, σ7, H7, I7.unpinned, r7, q7⟩
end

/-! ### the forms one uses -/
/-- over a list that the body leaves as it is -/
theorem for_list {K : PySem.W.Frag} {a : Addr} {xs : List V} {g : TG} {tb : TS} {D : Ends} {σ : St} {H : Hp} (Pv : Nat → St → Hp → Prop) (h0 : Pv 0 σ H) (hl : ∀ i σ H, i ≤ xs.length → Pv i σ H → SqL K H a xs)
    (hs : ∀ i x σ H, xs[i]? = some x → Pv i σ H → g x σ H fun σ2 H2 => tb { D with nx := Pv (i + 1), ct := Pv (i + 1), bk := D.nx } σ2 H2) (hd : ∀ σ H, Pv xs.length σ H → D.nx σ H) :
    ∃ W : Nat → Nat → St → Hp → Prop, (∃ m, W 0 m σ H) ∧ ∀ i m σ H, W i m σ H →
      ((Itl K a).stop i H ∧ D.nx σ H) ∨ ((Itl K a).go i H ∧ ∃ N : St → Hp → Prop, (∀ σ' H', N σ' H' → ∃ m', m' < m ∧ W (i + 1) m' σ' H') ∧ ∀ x H', (Itl K a).yld i H x H' → g x σ H' fun σ2 H2 => tb { D with nx := N, ct := N, bk := D.nx } σ2 H2) := by
  refine ⟨fun i m σ H => m = xs.length - i ∧ i ≤ xs.length ∧ Pv i σ H, ⟨xs.length, by simp, Nat.zero_le _, h0⟩, ?_⟩
  rintro i m σ H ⟨rfl, hi, p⟩
  have q := hl i σ H hi p
  by_cases hlt : i < xs.length
  · refine .inr ⟨⟨xs, xs[i], q, by simp [hlt]⟩, Pv (i + 1), fun σ' H' p' => ⟨xs.length - (i + 1), by omega, rfl, hlt, p'⟩, fun x H' y => ?_⟩
    obtain ⟨e, y⟩ := y
    subst e
    exact hs i x σ _ (y xs q) p
  · have e : i = xs.length := by omega
    subst e
    exact .inl ⟨⟨xs, q, Nat.le_refl _⟩, hd σ H p⟩
theorem for_tup {K : PySem.W.Frag} {a : Addr} {xs : List V} {g : TG} {tb : TS} {D : Ends} {σ : St} {H : Hp} (Pv : Nat → St → Hp → Prop) (h0 : Pv 0 σ H) (hl : ∀ i σ H, i ≤ xs.length → Pv i σ H → SqT K H a xs)
    (hs : ∀ i x σ H, xs[i]? = some x → Pv i σ H → g x σ H fun σ2 H2 => tb { D with nx := Pv (i + 1), ct := Pv (i + 1), bk := D.nx } σ2 H2) (hd : ∀ σ H, Pv xs.length σ H → D.nx σ H) :
    ∃ W : Nat → Nat → St → Hp → Prop, (∃ m, W 0 m σ H) ∧ ∀ i m σ H, W i m σ H →
      ((Itt K a).stop i H ∧ D.nx σ H) ∨ ((Itt K a).go i H ∧ ∃ N : St → Hp → Prop, (∀ σ' H', N σ' H' → ∃ m', m' < m ∧ W (i + 1) m' σ' H') ∧ ∀ x H', (Itt K a).yld i H x H' → g x σ H' fun σ2 H2 => tb { D with nx := N, ct := N, bk := D.nx } σ2 H2) := by
  refine ⟨fun i m σ H => m = xs.length - i ∧ i ≤ xs.length ∧ Pv i σ H, ⟨xs.length, by simp, Nat.zero_le _, h0⟩, ?_⟩
  rintro i m σ H ⟨rfl, hi, p⟩
  have q := hl i σ H hi p
  by_cases hlt : i < xs.length
  · refine .inr ⟨⟨xs, xs[i], q, by simp [hlt]⟩, Pv (i + 1), fun σ' H' p' => ⟨xs.length - (i + 1), by omega, rfl, hlt, p'⟩, fun x H' y => ?_⟩
    obtain ⟨e, y⟩ := y
    subst e
    exact hs i x σ _ (y xs q) p
  · have e : i = xs.length := by omega
    subst e
    exact .inl ⟨⟨xs, q, Nat.le_refl _⟩, hd σ H p⟩
theorem for_range {lo : Int} {n : Nat} {g : TG} {tb : TS} {D : Ends} {σ : St} {H : Hp} (Pv : Nat → St → Hp → Prop) (h0 : Pv 0 σ H)
    (hs : ∀ i σ H, i < n → Pv i σ H → g (.int (lo + i)) σ H fun σ2 H2 => tb { D with nx := Pv (i + 1), ct := Pv (i + 1), bk := D.nx } σ2 H2) (hd : ∀ σ H, Pv n σ H → D.nx σ H) :
    ∃ W : Nat → Nat → St → Hp → Prop, (∃ m, W 0 m σ H) ∧ ∀ i m σ H, W i m σ H →
      ((Itr lo n).stop i H ∧ D.nx σ H) ∨ ((Itr lo n).go i H ∧ ∃ N : St → Hp → Prop, (∀ σ' H', N σ' H' → ∃ m', m' < m ∧ W (i + 1) m' σ' H') ∧ ∀ x H', (Itr lo n).yld i H x H' → g x σ H' fun σ2 H2 => tb { D with nx := N, ct := N, bk := D.nx } σ2 H2) := by
  refine ⟨fun i m σ H => m = n - i ∧ i ≤ n ∧ Pv i σ H, ⟨n, by simp, Nat.zero_le _, h0⟩, ?_⟩
  rintro i m σ H ⟨rfl, hi, p⟩
  by_cases hlt : i < n
  · refine .inr ⟨hlt, Pv (i + 1), fun σ' H' p' => ⟨n - (i + 1), by omega, rfl, hlt, p'⟩, fun x H' y => ?_⟩
    obtain ⟨e, y⟩ := y
    subst e y
    exact hs i σ _ hlt p
  · have e : i = n := by omega
    subst e
    exact .inl ⟨Nat.le_refl _, hd σ H p⟩
/-- while, by a word and a measure of the state -/
theorem while_by {c : TT} {tb : TS} {D : Ends} {σ : St} {H : Hp} (Pv : St → Hp → Prop) (μ : St → Hp → Nat) (h0 : Pv σ H)
    (hs : ∀ σ H, Pv σ H → c σ H fun b H1 => if b = true then tb { D with nx := fun σ' H' => Pv σ' H' ∧ μ σ' H' < μ σ H, ct := fun σ' H' => Pv σ' H' ∧ μ σ' H' < μ σ H, bk := D.nx } σ H1 else D.nx σ H1)
    (mono : ∀ σ H Q Q', (∀ b H1, Q b H1 → Q' b H1) → c σ H Q → c σ H Q') : tWhile c tb D σ H := by
  refine ⟨fun m σ H => m = μ σ H ∧ Pv σ H, ⟨_, rfl, h0⟩, ?_⟩
  rintro m σ H ⟨rfl, p⟩
  refine mono σ H _ _ (fun b H1 q => ?_) (hs σ H p)
  cases b with
  | true => exact ⟨_, fun σ' H' ⟨p', l⟩ => ⟨_, l, rfl, p'⟩, q⟩
  | false => exact q
end L2

namespace L2
open PySem PySem.Spec PyProof.Rows

abbrev R2 := V → V → Hp → VK → Prop
/-- a two-place operation on values: f is binaryOp op, inplaceOp op or compareOp op -/
def OpR (X : Cx) (f : Value → Value → Sem Value) (r : R2) : Prop :=
  ∀ (pins : List (Addr × Obj)) (s : Shared) (σ : St) (H : Hp) (x y : V) (v u : Value) (Q : VK), Inv X pins σ H s → RelV x v → RelV y u → r x y H Q →
    wpAny (model X.prog X.w) X.A (f v u) (EP X pins σ Q) X.xe s
/-- a one-place operation -/
def UnR (X : Cx) (f : Value → Sem Value) (r : V → Hp → VK → Prop) : Prop :=
  ∀ (pins : List (Addr × Obj)) (s : Shared) (σ : St) (H : Hp) (x : V) (v : Value) (Q : VK), Inv X pins σ H s → RelV x v → r x H Q →
    wpAny (model X.prog X.w) X.A (f v) (EP X pins σ Q) X.xe s
/-- a call of a value that is known (a builtin, a type) with values -/
def CallR (X : Cx) (f : Value) (r : List V → Hp → VK → Prop) : Prop :=
  ∀ (pins : List (Addr × Obj)) (s : Shared) (σ : St) (H : Hp) (xs : List V) (us : List Value) (Q : VK), Inv X pins σ H s → Vals xs us → r xs H Q →
    wpAny (model X.prog X.w) X.A (call f us) (EP X pins σ Q) X.xe s
/-- a value's truth -/
def TruR (X : Cx) (r : V → Hp → (Bool → Hp → Prop) → Prop) : Prop :=
  ∀ (pins : List (Addr × Obj)) (s : Shared) (σ : St) (H : Hp) (x : V) (v : Value) (Q : Bool → Hp → Prop), Inv X pins σ H s → RelV x v → r x H Q →
    wpAny (model X.prog X.w) X.A (truthy v) (TP X pins σ Q) X.xe s

def tOp (r : R2) (ta tb : TE) : TE := fun σ H Q => ta σ H fun x H1 => tb σ H1 fun y H2 => r x y H2 Q
def tUn (r : V → Hp → VK → Prop) (ta : TE) : TE := fun σ H Q => ta σ H fun x H1 => r x H1 Q
/-- ints in, under C, and a value out -/
def rI (C : Int → Int → Prop) (g : Int → Int → V) : R2 := fun x y H Q => ∃ i j, x = .int i ∧ y = .int j ∧ C i j ∧ Q (g i j) H
def rI0 (g : Int → Int → V) : R2 := fun x y H Q => ∃ i j, x = .int i ∧ y = .int j ∧ Q (g i j) H
def rU (g : Int → V) : V → Hp → VK → Prop := fun x H Q => ∃ i, x = .int i ∧ Q (g i) H

section
variable {X : Cx} {a b c : Expr} {ta tb tc : TE} {pos : Pos}

theorem binT (ha : PE X a ta) (hb : PE X b tb) {pins : List (Addr × Obj)} {s : Shared} {σ : St} {H : Hp} {R : V → V → Hp → Prop} (I : Inv X pins σ H s)
    (h : ta σ H fun x H1 => tb σ H1 fun y H2 => R x y H2) {Q : Value → Shared → Prop} {f : Value → Value → Sem Value}
    (hf : ∀ v u s2 x y H2, Inv X pins σ H2 s2 → RelV x v → RelV y u → R x y H2 → wpAny (model X.prog X.w) X.A (f v u) Q X.xe s2) :
    wpAny (model X.prog X.w) X.A (eval a X.env) (fun v s₁ => wpAny (model X.prog X.w) X.A (eval b X.env) (fun u s₂ => wpAny (model X.prog X.w) X.A (f v u) Q X.xe s₂) X.xe s₁) X.xe s := by
  refine thn (ha pins s σ H _ I h) fun v s1 ⟨x, H1, I1, r1, q1⟩ => ?_
  refine thn (hb pins s1 σ H1 _ I1 q1) fun u s2 ⟨y, H2, I2, r2, q2⟩ => ?_
  exact hf v u s2 x y H2 I2 r1 r2 q2

theorem pe_op {op : Operator} {r : R2} (ho : OpR X (binaryOp op) r) (ha : PE X a ta) (hb : PE X b tb) : PE X (.BinOp a op b pos) (tOp r ta tb) := by
  intro pins s σ H Q I h
  exact wpAny_BinOp (binT ha hb I h fun v u s2 x y H2 I2 rx ry q => ho pins s2 σ H2 x y v u Q I2 rx ry q)
theorem pe_un {op : UnaryOp} {r : V → Hp → VK → Prop} (ho : UnR X (unaryOp op) r) (ha : PE X a ta) : PE X (.UnaryOp op a pos) (tUn r ta) := by
  intro pins s σ H Q I h
  exact UnaryOp_ (thn (ha pins s σ H _ I h) fun v s1 ⟨x, H1, I1, r1, q1⟩ => ho pins s1 σ H1 x v Q I1 r1 q1)
/-- a op= e at a name: the name's slot i -/
theorem augR {op : Operator} {r : R2} (ho : OpR X (inplaceOp op) r) {pins : List (Addr × Obj)} {s : Shared} {σ : St} {H : Hp} {x y : V} {v u : Value} {Q : VK} (I : Inv X pins σ H s)
    (rx : RelV x v) (ry : RelV y u) (q : r x y H Q) : wpAny (model X.prog X.w) X.A (inplaceOp op v u) (EP X pins σ Q) X.xe s := ho pins s σ H x y v u Q I rx ry q

/-! ### ints -/
theorem opI {f : Value → Value → Sem Value} {C : Int → Int → Prop} {g : Int → Int → Int}
    (rule : ∀ (i j : Int) (t u : Tok) (s : Shared) (Q : Value → Shared → Prop) (E : Value → Shared → Prop), C i j → Q (.int (g i j) s.toks) { s with toks := s.toks + 1 } → wpAny (model X.prog X.w) X.A (f (.int i t) (.int j u)) Q E s) :
    OpR X f (rI C fun i j => .int (g i j)) := by
  intro pins s σ H x y v u Q I rx ry h
  obtain ⟨i, j, rfl, rfl, hc, q⟩ := h
  obtain ⟨t, rfl⟩ := rx
  obtain ⟨t', rfl⟩ := ry
  exact rule i j t t' s _ _ hc ⟨.int (g i j), H, I.tok _, ⟨_, rfl⟩, q⟩
theorem opI0 {f : Value → Value → Sem Value} {g : Int → Int → Int}
    (rule : ∀ (i j : Int) (t u : Tok) (s : Shared) (Q : Value → Shared → Prop) (E : Value → Shared → Prop), Q (.int (g i j) s.toks) { s with toks := s.toks + 1 } → wpAny (model X.prog X.w) X.A (f (.int i t) (.int j u)) Q E s) :
    OpR X f (rI0 fun i j => .int (g i j)) := by
  intro pins s σ H x y v u Q I rx ry h
  obtain ⟨i, j, rfl, rfl, q⟩ := h
  obtain ⟨t, rfl⟩ := rx
  obtain ⟨t', rfl⟩ := ry
  exact rule i j t t' s _ _ ⟨.int (g i j), H, I.tok _, ⟨_, rfl⟩, q⟩
theorem opB0 {f : Value → Value → Sem Value} {g : Int → Int → Bool}
    (rule : ∀ (i j : Int) (t u : Tok) (s : Shared) (Q : Value → Shared → Prop) (E : Value → Shared → Prop), Q (.bool (g i j)) s → wpAny (model X.prog X.w) X.A (f (.int i t) (.int j u)) Q E s) :
    OpR X f (rI0 fun i j => .bl (g i j)) := by
  intro pins s σ H x y v u Q I rx ry h
  obtain ⟨i, j, rfl, rfl, q⟩ := h
  obtain ⟨t, rfl⟩ := rx
  obtain ⟨t', rfl⟩ := ry
  exact rule i j t t' s _ _ ⟨.bl (g i j), H, I, rfl, q⟩

def CDiv (i j : Int) : Prop := 0 < j ∧ j < 1073741824
def CDivN (i j : Int) : Prop := j ≠ 0 ∧ j.natAbs < 1073741824
def CPow (i j : Int) : Prop := 0 ≤ j ∧ j ≤ 1000000 ∧ i.natAbs < 2 ^ 64
def CMul (i j : Int) : Prop := (-(2 ^ 64) < i ∧ i < 2 ^ 64) ∨ (-(2 ^ 64) < j ∧ j < 2 ^ 64)
theorem CMul.ok {i j : Int} (h : CMul i j) : IntMulOk i j := by
  rcases h with ⟨h1, h2⟩ | ⟨h1, h2⟩
  · exact .of_left (intBits_le_64 h1 h2)
  · exact .of_right (intBits_le_64 h1 h2)
theorem two_pow_nn (k : Nat) : (0 : Int) ≤ 2 ^ k := by
  rw [two_pow_cast]
  exact Int.natCast_nonneg _

theorem op_add : OpR X (binaryOp .Add) (rI0 fun i j => .int (i + j)) := opI0 fun _ _ _ _ _ _ _ q => add_int q
theorem op_sub : OpR X (binaryOp .Sub) (rI0 fun i j => .int (i - j)) := opI0 fun _ _ _ _ _ _ _ q => sub_int q
theorem op_mul : OpR X (binaryOp .Mult) (rI CMul fun i j => .int (i * j)) := opI fun _ _ _ _ _ _ _ hc q => mul_int q hc.ok
/-- // by a positive divisor -/
theorem op_fdiv : OpR X (binaryOp .FloorDiv) (rI CDiv fun i j => .int (i / j)) := opI fun i j _ _ _ _ _ hc q => by
  have h1 : (0 : Int) < j := hc.1
  have h2 : j < 1073741824 := hc.2
  exact floordiv_int (by omega) (by rw [Int.fdiv_eq_ediv_of_nonneg i (by omega)]; exact q) (.inl (PyProof.noPylong_small (by omega)))
theorem op_fdivN : OpR X (binaryOp .FloorDiv) (rI CDivN fun i j => .int (i.fdiv j)) := opI fun _ _ _ _ _ _ _ hc q => floordiv_int hc.1 q (.inl (PyProof.noPylong_small hc.2))
/-- % by a positive divisor of any size -/
theorem op_mod : OpR X (binaryOp .Mod) (rI (fun _ j => 0 < j) fun i j => .int (i % j)) := opI fun i j _ _ _ _ _ hc q => by
  have h1 : (0 : Int) < j := hc
  exact mod_int' (by omega) (by rw [Int.fmod_eq_emod_of_nonneg i (by omega)]; exact q)
theorem op_modN : OpR X (binaryOp .Mod) (rI (fun _ j => j ≠ 0) fun i j => .int (i.fmod j)) := opI fun _ _ _ _ _ _ _ hc q => mod_int' hc q
theorem op_pow : OpR X (binaryOp .Pow) (rI CPow fun i j => .int (i ^ j.toNat)) := opI fun _ _ _ _ _ _ _ hc q => pow_int_small hc.1 hc.2.1 hc.2.2 q
theorem op_shl : OpR X (binaryOp .LShift) (rI CPow fun i j => .int (i * 2 ^ j.toNat)) := opI fun _ _ _ _ _ _ _ hc q => lshift_int_small hc.1 hc.2.1 hc.2.2 q
theorem op_shr : OpR X (binaryOp .RShift) (rI (fun _ j => 0 ≤ j) fun i j => .int (i / 2 ^ j.toNat)) := opI fun i j _ _ _ _ _ hc q =>
  rshift_int hc (by rw [Int.fdiv_eq_ediv_of_nonneg i (two_pow_nn _)]; exact q)
theorem op_and : OpR X (binaryOp .BitAnd) (rI0 fun i j => .int (Builtin.bitAnd i j)) := opI0 fun _ _ _ _ _ _ _ q => and_int q
theorem op_or : OpR X (binaryOp .BitOr) (rI0 fun i j => .int (Builtin.bitOr i j)) := opI0 fun _ _ _ _ _ _ _ q => or_int q
theorem op_xor : OpR X (binaryOp .BitXor) (rI0 fun i j => .int (Builtin.bitXor i j)) := opI0 fun _ _ _ _ _ _ _ q => xor_int q

theorem iop_add : OpR X (inplaceOp .Add) (rI0 fun i j => .int (i + j)) := opI0 fun _ _ _ _ _ _ _ q => iadd_int q
theorem iop_sub : OpR X (inplaceOp .Sub) (rI0 fun i j => .int (i - j)) := opI0 fun _ _ _ _ _ _ _ q => isub_int q
theorem iop_mul : OpR X (inplaceOp .Mult) (rI CMul fun i j => .int (i * j)) := opI fun _ _ _ _ _ _ _ hc q => imul_int q hc.ok
theorem iop_fdiv : OpR X (inplaceOp .FloorDiv) (rI CDiv fun i j => .int (i / j)) := opI fun i j _ _ _ _ _ hc q => by
  have h1 : (0 : Int) < j := hc.1
  have h2 : j < 1073741824 := hc.2
  exact ifloordiv_int (by omega) (by rw [Int.fdiv_eq_ediv_of_nonneg i (by omega)]; exact q) (.inl (PyProof.noPylong_small (by omega)))
theorem iop_mod : OpR X (inplaceOp .Mod) (rI (fun _ j => 0 < j) fun i j => .int (i % j)) := opI fun i j _ _ _ _ _ hc q => by
  have h1 : (0 : Int) < j := hc
  exact imod_int (by omega) (by rw [Int.fmod_eq_emod_of_nonneg i (by omega)]; exact q)
theorem iop_shl : OpR X (inplaceOp .LShift) (rI CPow fun i j => .int (i * 2 ^ j.toNat)) := opI fun _ _ _ _ _ _ _ hc q => ilshift_int_small hc.1 hc.2.1 hc.2.2 q
theorem iop_shr : OpR X (inplaceOp .RShift) (rI (fun _ j => 0 ≤ j) fun i j => .int (i / 2 ^ j.toNat)) := opI fun i j _ _ _ _ _ hc q =>
  irshift_int hc (by rw [Int.fdiv_eq_ediv_of_nonneg i (two_pow_nn _)]; exact q)
theorem iop_and : OpR X (inplaceOp .BitAnd) (rI0 fun i j => .int (Builtin.bitAnd i j)) := opI0 fun _ _ _ _ _ _ _ q => iand_int q
theorem iop_or : OpR X (inplaceOp .BitOr) (rI0 fun i j => .int (Builtin.bitOr i j)) := opI0 fun _ _ _ _ _ _ _ q => ior_int q
theorem iop_xor : OpR X (inplaceOp .BitXor) (rI0 fun i j => .int (Builtin.bitXor i j)) := opI0 fun _ _ _ _ _ _ _ q => ixor_int q

theorem unI {f : Value → Sem Value} {g : Int → Int}
    (rule : ∀ (i : Int) (t : Tok) (s : Shared) (Q : Value → Shared → Prop) (E : Value → Shared → Prop), Q (.int (g i) s.toks) { s with toks := s.toks + 1 } → wpAny (model X.prog X.w) X.A (f (.int i t)) Q E s) :
    UnR X f (rU fun i => .int (g i)) := by
  intro pins s σ H x v Q I rx h
  obtain ⟨i, rfl, q⟩ := h
  obtain ⟨t, rfl⟩ := rx
  exact rule i t s _ _ ⟨.int (g i), H, I.tok _, ⟨_, rfl⟩, q⟩
theorem un_neg : UnR X (unaryOp .USub) (rU fun i => .int (-i)) := unI fun _ _ _ _ _ q => neg_int q
theorem un_inv : UnR X (unaryOp .Invert) (rU fun i => .int (Builtin.bitNot i)) := unI fun _ _ _ _ _ q => invert_int q

/-! ### bools among ints: n += (a < b) -/
theorem op_add_ib : OpR X (binaryOp .Add) (fun x y H Q => ∃ i k, x = .int i ∧ y = .bl k ∧ Q (.int (i + b2i k)) H) := by
  intro pins s σ H x y v u Q I rx ry h
  obtain ⟨i, k, rfl, rfl, q⟩ := h
  obtain ⟨t, rfl⟩ := rx
  cases ry
  exact add_int_bool ⟨.int (i + b2i k), H, I.tok _, ⟨_, rfl⟩, q⟩
end

/-! ### comparisons -/
/-- the scalars that == tells apart as data does -/
def scal : V → V → Bool
  | .non, .non => true | .non, .int _ => true | .int _, .non => true | .non, .bl _ => true | .bl _, .non => true | .non, .str _ => true | .str _, .non => true
  | .int _, .int _ => true | .bl _, .bl _ => true | .str _, .str _ => true | .byt _, .byt _ => true
  | .int _, .str _ => true | .str _, .int _ => true | .bl _, .str _ => true | .str _, .bl _ => true
  | _, _ => false
def rEq : R2 := fun x y H Q => scal x y = true ∧ Q (.bl (decide (x = y))) H
def rNe : R2 := fun x y H Q => scal x y = true ∧ Q (.bl (!decide (x = y))) H

theorem dec_int {i j : Int} : decide (V.int i = V.int j) = (i == j) := by
  rw [Bool.eq_iff_iff]
  simp
theorem dec_bl {i j : Bool} : decide (V.bl i = V.bl j) = (i == j) := by
  rw [Bool.eq_iff_iff]
  simp
theorem dec_str {i j : Str} : decide (V.str i = V.str j) = (i == j) := by
  rw [Bool.eq_iff_iff]
  simp
theorem dec_byt {i j : Array UInt8} : decide (V.byt i = V.byt j) = (i.toList == j.toList) := by
  rw [Bool.eq_iff_iff]
  cases i
  cases j
  simp

section
variable {X : Cx} {a b c : Expr} {ta tb tc : TE} {pos : Pos}
theorem fin_bl {pins : List (Addr × Obj)} {σ : St} {H : Hp} {s : Shared} {Q : VK} {k k' : Bool} (I : Inv X pins σ H s) (q : Q (.bl k) H) (e : k = k') : EP X pins σ Q (.bool k') s := by
  subst e
  exact ⟨.bl k, H, I, rfl, q⟩
theorem op_eq : OpR X (compareOp .Eq) rEq := by
  intro pins s σ H x y v u Q I rx ry h
  obtain ⟨hs, q⟩ := h
  cases x with
  | non =>
    cases rx
    cases y with
    | non => cases ry; exact PySem.EqNone.eq_none_none (fin_bl I q (by simp))
    | bl j => cases ry; exact PySem.EqNone.eq_none_bool (fin_bl I q (by simp))
    | int j => obtain ⟨t', rfl⟩ := ry; exact PySem.EqNone.eq_none_int (fin_bl I q (by simp))
    | str j => obtain ⟨t', rfl⟩ := ry; exact PySem.EqNone.eq_none_str (fin_bl I q (by simp))
    | _ => exact absurd (show false = true from hs) Bool.false_ne_true
  | bl i =>
    cases rx
    cases y with
    | non => cases ry; exact PySem.EqNone.eq_bool_none (fin_bl I q (by simp))
    | bl j => cases ry; exact eq_bool (fin_bl I q dec_bl)
    | str j => obtain ⟨t', rfl⟩ := ry; exact PySem.EqMixed.eq_bool_str (fin_bl I q (by simp))
    | _ => exact absurd (show false = true from hs) Bool.false_ne_true
  | int i =>
    obtain ⟨t, rfl⟩ := rx
    cases y with
    | non => cases ry; exact PySem.EqNone.eq_int_none (fin_bl I q (by simp))
    | int j => obtain ⟨t', rfl⟩ := ry; exact eq_int (fin_bl I q dec_int)
    | str j => obtain ⟨t', rfl⟩ := ry; exact PySem.EqMixed.eq_int_str (fin_bl I q (by simp))
    | _ => exact absurd (show false = true from hs) Bool.false_ne_true
  | str i =>
    obtain ⟨t, rfl⟩ := rx
    cases y with
    | non => cases ry; exact PySem.EqNone.eq_str_none (fin_bl I q (by simp))
    | bl j => cases ry; exact PySem.EqMixed.eq_str_bool (fin_bl I q (by simp))
    | int j => obtain ⟨t', rfl⟩ := ry; exact PySem.EqMixed.eq_str_int (fin_bl I q (by simp))
    | str j => obtain ⟨t', rfl⟩ := ry; exact eq_str (fin_bl I q dec_str)
    | _ => exact absurd (show false = true from hs) Bool.false_ne_true
  | byt i =>
    obtain ⟨t, rfl⟩ := rx
    cases y with
    | byt j => obtain ⟨t', rfl⟩ := ry; exact PySem.W.eq_bytes (fin_bl I q dec_byt)
    | _ => exact absurd (show false = true from hs) Bool.false_ne_true
  | _ => cases y <;> exact absurd (show false = true from hs) Bool.false_ne_true
theorem op_ne : OpR X (compareOp .NotEq) rNe := by
  intro pins s σ H x y v u Q I rx ry h
  obtain ⟨hs, q⟩ := h
  cases x with
  | non =>
    cases rx
    cases y with
    | non => cases ry; exact PySem.EqNone.ne_none_none (fin_bl I q (by simp))
    | bl j => cases ry; exact PySem.EqNone.ne_none_bool (fin_bl I q (by simp))
    | int j => obtain ⟨t', rfl⟩ := ry; exact PySem.EqNone.ne_none_int (fin_bl I q (by simp))
    | str j => obtain ⟨t', rfl⟩ := ry; exact PySem.EqNone.ne_none_str (fin_bl I q (by simp))
    | _ => exact absurd (show false = true from hs) Bool.false_ne_true
  | bl i =>
    cases rx
    cases y with
    | non => cases ry; exact PySem.EqNone.ne_bool_none (fin_bl I q (by simp))
    | bl j => cases ry; exact ne_bool (fin_bl I q (congrArg not dec_bl))
    | str j => obtain ⟨t', rfl⟩ := ry; exact PySem.EqMixed.ne_bool_str (fin_bl I q (by simp))
    | _ => exact absurd (show false = true from hs) Bool.false_ne_true
  | int i =>
    obtain ⟨t, rfl⟩ := rx
    cases y with
    | non => cases ry; exact PySem.EqNone.ne_int_none (fin_bl I q (by simp))
    | int j => obtain ⟨t', rfl⟩ := ry; exact ne_int (fin_bl I q (congrArg not dec_int))
    | str j => obtain ⟨t', rfl⟩ := ry; exact PySem.EqMixed.ne_int_str (fin_bl I q (by simp))
    | _ => exact absurd (show false = true from hs) Bool.false_ne_true
  | str i =>
    obtain ⟨t, rfl⟩ := rx
    cases y with
    | non => cases ry; exact PySem.EqNone.ne_str_none (fin_bl I q (by simp))
    | bl j => cases ry; exact PySem.EqMixed.ne_str_bool (fin_bl I q (by simp))
    | int j => obtain ⟨t', rfl⟩ := ry; exact PySem.EqMixed.ne_str_int (fin_bl I q (by simp))
    | str j => obtain ⟨t', rfl⟩ := ry; exact ne_str (fin_bl I q (congrArg not dec_str))
    | _ => exact absurd (show false = true from hs) Bool.false_ne_true
  | byt i =>
    obtain ⟨t, rfl⟩ := rx
    cases y with
    | byt j => obtain ⟨t', rfl⟩ := ry; exact PySem.W.ne_bytes (fin_bl I q (congrArg not dec_byt))
    | _ => exact absurd (show false = true from hs) Bool.false_ne_true
  | _ => cases y <;> exact absurd (show false = true from hs) Bool.false_ne_true

theorem op_lt : OpR X (compareOp .Lt) (rI0 fun i j => .bl (decide (i < j))) := opB0 fun _ _ _ _ _ _ _ q => lt_int q
theorem op_le : OpR X (compareOp .LtE) (rI0 fun i j => .bl (decide (i ≤ j))) := opB0 fun _ _ _ _ _ _ _ q => le_int q
theorem op_gt : OpR X (compareOp .Gt) (rI0 fun i j => .bl (decide (j < i))) := opB0 fun _ _ _ _ _ _ _ q => gt_int q
theorem op_ge : OpR X (compareOp .GtE) (rI0 fun i j => .bl (decide (j ≤ i))) := opB0 fun _ _ _ _ _ _ _ q => ge_int q
theorem op_lt_str : OpR X (compareOp .Lt) (fun x y H Q => ∃ i j, x = .str i ∧ y = .str j ∧ Q (.bl (decide (i.cps.toList < j.cps.toList))) H) := by
  intro pins s σ H x y v u Q I rx ry h
  obtain ⟨i, j, rfl, rfl, q⟩ := h
  obtain ⟨t, rfl⟩ := rx
  obtain ⟨t', rfl⟩ := ry
  exact lt_str (fin_bl I q rfl)
/-- the one string within the other -/
theorem op_in_str : OpR X (compareOp .In) (fun x y H Q => ∃ i j, x = .str i ∧ y = .str j ∧ Q (.bl (!(Builtin.Str.occurrences j i 0 j.length 1).isEmpty)) H) := by
  intro pins s σ H x y v u Q I rx ry h
  obtain ⟨i, j, rfl, rfl, q⟩ := h
  obtain ⟨t, rfl⟩ := rx
  obtain ⟨t', rfl⟩ := ry
  exact in_str (fin_bl I q rfl)

/-- is None, is not None: the right side a value none -/
theorem op_isN : OpR X (compareOp .Is) (fun x y H Q => y = .non ∧ Q (.bl (decide (x = .non))) H) := by
  intro pins s σ H x y v u Q I rx ry h
  obtain ⟨rfl, q⟩ := h
  cases ry
  refine is_none_gen (fin_bl I q ?_)
  cases x <;> first
    | (cases rx; rfl)
    | (obtain ⟨t, rfl⟩ := rx; rfl)
theorem op_notN : OpR X (compareOp .IsNot) (fun x y H Q => y = .non ∧ Q (.bl (!decide (x = .non))) H) := by
  intro pins s σ H x y v u Q I rx ry h
  obtain ⟨rfl, q⟩ := h
  cases ry
  refine isnot_none_gen (fin_bl I q ?_)
  cases x <;> first
    | (cases rx; rfl)
    | (obtain ⟨t, rfl⟩ := rx; rfl)

theorem op_notin_str : OpR X (compareOp .NotIn) (fun x y H Q => ∃ i j, x = .str i ∧ y = .str j ∧ Q (.bl (!(!(Builtin.Str.occurrences j i 0 j.length 1).isEmpty))) H) := by
  intro pins s σ H x y v u Q I rx ry h
  obtain ⟨i, j, rfl, rfl, q⟩ := h
  obtain ⟨t, rfl⟩ := rx
  obtain ⟨t', rfl⟩ := ry
  exact notIn_str (fin_bl I q rfl)
/-- is, is not of two objects that are tracked lists or instances -/
def isObj : HO → Bool
  | .lst _ => true
  | .ins _ _ _ => true
  | _ => false
theorem obj_there {pins : List (Addr × Obj)} {s : Shared} {σ : St} {H : Hp} {a : Addr} {o : HO} (I : Inv X pins σ H s) (h : H a = some o) (p : isObj o = true) : ∃ ob, s.heap.get? a = some ob ∧ ob.cls ≠ .type "tuple" := by
  cases o with
  | lst xs =>
    obtain ⟨_, its, n, _, e⟩ : xs.length ≤ sizeLine ∧ ∃ (its : List Value) (n : Nat), Vals xs its ∧ s.heap.get? a = some { cls := .type "list", data := .seq its.toArray n } := I.hok a _ h
    exact ⟨_, e, (by show Value.type "list" ≠ .type "tuple"; decide +kernel)⟩
  | ins C dx fs =>
    have x := I.hok a _ h
    obtain ⟨_, _, _, e, _⟩ := x
    exact ⟨_, e, (by show Value.ref C ≠ .type "tuple"; exact fun z => by cases z)⟩
  | _ => exact absurd (show false = true from p) Bool.false_ne_true
theorem op_is_ref : OpR X (compareOp .Is) (fun x y H Q => ∃ a b oa ob, x = .ref a ∧ y = .ref b ∧ H a = some oa ∧ isObj oa = true ∧ H b = some ob ∧ isObj ob = true ∧ Q (.bl (decide (a = b))) H) := by
  intro pins s σ H x y v u Q I rx ry h
  obtain ⟨a, b, oa, ob, rfl, rfl, ha, pa, hb, pb, q⟩ := h
  cases rx
  cases ry
  obtain ⟨o1, e1, n1⟩ := obj_there I ha pa
  obtain ⟨o2, e2, _⟩ := obj_there I hb pb
  by_cases z : a = b
  · subst z
    exact wpAny_is_ref_self (fin_bl I q (by simp))
  · exact wpAny_is_ref_other z e1 e2 n1 (fin_bl I q (by simp [z]))
theorem op_isnot_ref : OpR X (compareOp .IsNot) (fun x y H Q => ∃ a b oa ob, x = .ref a ∧ y = .ref b ∧ H a = some oa ∧ isObj oa = true ∧ H b = some ob ∧ isObj ob = true ∧ Q (.bl (!decide (a = b))) H) := by
  intro pins s σ H x y v u Q I rx ry h
  obtain ⟨a, b, oa, ob, rfl, rfl, ha, pa, hb, pb, q⟩ := h
  cases rx
  cases ry
  obtain ⟨o1, e1, n1⟩ := obj_there I ha pa
  obtain ⟨o2, e2, _⟩ := obj_there I hb pb
  by_cases z : a = b
  · subst z
    exact wpAny_isNot_ref_self (fin_bl I q (by simp))
  · exact wpAny_isNot_ref_other z e1 e2 n1 (fin_bl I q (by simp [z]))

/-- two rules for one operation: by cases -/
theorem OpR.or {f : Value → Value → Sem Value} {r r' : R2} (h : OpR X f r) (h' : OpR X f r') : OpR X f (fun x y H Q => r x y H Q ∨ r' x y H Q) := by
  intro pins s σ H x y v u Q I rx ry q
  rcases q with q | q
  · exact h pins s σ H x y v u Q I rx ry q
  · exact h' pins s σ H x y v u Q I rx ry q

theorem nomark (b : Expr) {op : CmpOp} (h : op ≠ .In := by decide) (h2 : op ≠ .NotIn := by decide) : behindInMarks op b = false := by
  have e1 : (op == CmpOp.In) = false := by cases op <;> first | rfl | exact absurd rfl h
  have e2 : (op == CmpOp.NotIn) = false := by cases op <;> first | rfl | exact absurd rfl h2
  cases b <;> simp [behindInMarks, e1, e2]
/-- a comparison as a value; hm: nomark b, or (for in, not in) by with_unfolding_all rfl -/
theorem pe_cmpR {op : CmpOp} {r : R2} (ho : OpR X (compareOp op) r) (ha : PE X a ta) (hb : PE X b tb) (hm : behindInMarks op b = false) : PE X (.Compare a [op] [b] pos) (tOp r ta tb) := by
  intro pins s σ H Q I h
  exact wpAny_Compare1 (binT ha hb I h fun v u s2 x y H2 I2 rx ry q => ho pins s2 σ H2 x y v u Q I2 rx ry q) hm
/-- a reading of a value as a test -/
def tTest (t : TE) : TT := fun σ H Q => t σ H fun x H' => ∃ k, x = .bl k ∧ Q k H'
theorem pt_cmpR {op : CmpOp} {r : R2} (ho : OpR X (compareOp op) r) (ha : PE X a ta) (hb : PE X b tb) (hm : behindInMarks op b = false) : PT X (.Compare a [op] [b] pos) (tTest (tOp r ta tb)) := by
  intro pins s σ H Q I h
  refine wpAny_isTrue_Compare1 (thn (ha pins s σ H _ I h) fun v s1 ⟨x, H1, I1, r1, q1⟩ => thn (hb pins s1 σ H1 _ I1 q1) fun u s2 ⟨y, H2, I2, r2, q2⟩ =>
    thn (ho pins s2 σ H2 x y v u _ I2 r1 r2 q2) fun c s3 ⟨z, H3, I3, r3, k, e, q3⟩ => ?_) hm
  subst e
  cases r3
  exact wpAny_truthy_bool ⟨H3, I3, q3⟩
/-- a op1 b op2 c -/
def tChain (r r' : R2) (ta tb tc : TE) : TE := fun σ H Q => ta σ H fun x H1 => tb σ H1 fun y H2 => r x y H2 fun z H3 => ∃ k, z = .bl k ∧
  (if k = true then tc σ H3 fun w' H4 => r' y w' H4 Q else Q (.bl false) H3)
theorem pe_chain {op op' : CmpOp} {r r' : R2} (ho : OpR X (compareOp op) r) (ho' : OpR X (compareOp op') r') (ha : PE X a ta) (hb : PE X b tb) (hc : PE X c tc)
    (hm : lastMarks [op, op'] [b, c] = false := by with_unfolding_all rfl) : PE X (.Compare a [op, op'] [b, c] pos) (tChain r r' ta tb tc) := by
  intro pins s σ H Q I h
  refine Compare_chain (thn (ha pins s σ H _ I h) fun v s1 ⟨x, H1, I1, r1, q1⟩ => chain_link (thn (hb pins s1 σ H1 _ I1 q1) fun u s2 ⟨y, H2, I2, r2, q2⟩ =>
    thn (ho pins s2 σ H2 x y v u _ I2 r1 r2 q2) fun d s3 ⟨z, H3, I3, r3, k, e, q3⟩ => ?_)) hm
  subst e
  cases r3
  refine wpAny_truthy_bool ?_
  cases k with
  | false => exact ite_ff ⟨.bl false, H3, I3, rfl, q3⟩
  | true => exact ite_tt (chain_last (thn (hc pins s3 σ H3 _ I3 q3) fun w' s4 ⟨z', H4, I4, r4, q4⟩ => ho' pins s4 σ H4 y z' u w' Q I4 r2 r4 q4))
theorem pt_chain {op op' : CmpOp} {r r' : R2} (ho : OpR X (compareOp op) r) (ho' : OpR X (compareOp op') r') (ha : PE X a ta) (hb : PE X b tb) (hc : PE X c tc)
    (hm : lastMarks [op, op'] [b, c] = false := by with_unfolding_all rfl) : PT X (.Compare a [op, op'] [b, c] pos) (tTest (tChain r r' ta tb tc)) := by
  intro pins s σ H Q I h
  refine isTrue_chain (thn (ha pins s σ H _ I h) fun v s1 ⟨x, H1, I1, r1, q1⟩ => test_link (thn (hb pins s1 σ H1 _ I1 q1) fun u s2 ⟨y, H2, I2, r2, q2⟩ =>
    thn (ho pins s2 σ H2 x y v u _ I2 r1 r2 q2) fun d s3 ⟨z, H3, I3, r3, k, e, q3⟩ => ?_)) hm
  subst e
  cases r3
  refine wpAny_truthy_bool ?_
  cases k with
  | false =>
    obtain ⟨k', e', q'⟩ := q3
    cases e'
    exact ite_ff ⟨H3, I3, q'⟩
  | true =>
    refine ite_tt (test_last (thn (hc pins s3 σ H3 _ I3 q3) fun w' s4 ⟨z', H4, I4, r4, q4⟩ => thn (ho' pins s4 σ H4 y z' u w' _ I4 r2 r4 q4) fun d' s5 ⟨z2, H5, I5, r5, k2, e2, q5⟩ => ?_))
    subst e2
    cases r5
    exact wpAny_truthy_bool ⟨H5, I5, q5⟩

/-! ### truth -/
/-- a value's truth by the abstract heap -/
def TruV (K : PySem.W.Frag) (x : V) (H : Hp) (k : Bool) : Prop :=
  match x with
  | .non => k = false
  | .bl b => k = b
  | .int i => k = (i != 0)
  | .str y => y.length ≤ sizeLine ∧ k = ((y.length : Int) != 0)
  | .byt y => y.size ≤ sizeLine ∧ k = ((y.size : Int) != 0)
  | .ref p => (∃ xs, SqL K H p xs ∧ k = !xs.isEmpty) ∨ (∃ xs, SqT K H p xs ∧ k = !xs.isEmpty) ∨ ∃ kvs, H p = some (.dK kvs) ∧ k = !kvs.isEmpty
  | _ => False
theorem isEmpty_kv {κ : Type} {kvs : List (κ × V)} {vs : List (κ × Value)} (r : KV kvs vs) : (!vs.isEmpty) = !kvs.isEmpty := by
  cases r <;> rfl
theorem isEmpty_of {xs : List V} {its : List Value} (r : Vals xs its) : (!its.toArray.isEmpty) = !xs.isEmpty := by
  cases r <;> simp
theorem line63 : (sizeLine : Nat) < 2 ^ 63 := by rw [sizeLine_eq]; decide
theorem tru_ok : TruR X (fun x H Q => ∃ k, TruV X.K x H k ∧ Q k H) := by
  intro pins s σ H x v Q I rx h
  obtain ⟨k, e, q⟩ := h
  have hl := line63
  have hs : sizeLine = 16777216 := sizeLine_eq
  cases x with
  | non =>
    cases rx
    have e' : k = false := e
    subst e'
    exact truthy_none ⟨H, I, q⟩
  | bl b =>
    cases rx
    have e' : k = b := e
    subst e'
    exact wpAny_truthy_bool ⟨H, I, q⟩
  | int i =>
    obtain ⟨t, rfl⟩ := rx
    have e' : k = (i != 0) := e
    subst e'
    exact PySem.P.truthy_int ⟨H, I, q⟩
  | str y =>
    obtain ⟨t, rfl⟩ := rx
    obtain ⟨hy, e'⟩ : y.length ≤ sizeLine ∧ k = ((y.length : Int) != 0) := e
    subst e'
    exact PySem.P.truthy_str (by omega) ⟨H, I.tok _, q⟩
  | byt y =>
    obtain ⟨t, rfl⟩ := rx
    obtain ⟨hy, e'⟩ : y.size ≤ sizeLine ∧ k = ((y.size : Int) != 0) := e
    subst e'
    exact PySem.W.truthy_bytes (by omega) ⟨H, I.tok _, q⟩
  | ref p =>
    cases rx
    have e' : (∃ xs, SqL X.K H p xs ∧ k = !xs.isEmpty) ∨ (∃ xs, SqT X.K H p xs ∧ k = !xs.isEmpty) ∨ ∃ kvs, H p = some (.dK kvs) ∧ k = !kvs.isEmpty := e
    rcases e' with ⟨xs, hx, e'⟩ | ⟨xs, hx, e'⟩ | ⟨kvs, hx, e'⟩
    · subst e'
      obtain ⟨its, r, pl, hz⟩ := I.list hx
      have hlen := r.length
      exact wpAny_truthy_list pl.isList (by simp only [List.size_toArray]; omega) ⟨H, I.tok _, by rw [isEmpty_of r]; exact q⟩
    · subst e'
      obtain ⟨its, r, pl, hz⟩ := I.tuple hx
      have hlen := r.length
      exact truthy_tuple pl (by simp only [List.size_toArray]; omega) ⟨H, I.tok _, by rw [isEmpty_of r]; exact q⟩
    · subst e'
      obtain ⟨hz, hS, vs, r, m⟩ : kvs.length ≤ sizeLine ∧ (p == sysModules) = false ∧ ∃ vs, KV kvs vs ∧ s.heap.DictOf (mixKind X.prog X.w) p vs := I.hok p _ hx
      have hlen : kvs.length = vs.length := Paired.length r
      exact wpAny_truthy_dict hS m (by omega) ⟨H, I.tok _, by rw [isEmpty_kv r]; exact q⟩
  | _ => exact (show False from e).elim
/-- any expression whose test is its value's truth (a name, a call, a subscript, a field ..: he by fun _ => rfl) -/
theorem pt_truth (ha : PE X a ta) (he : ∀ whole, isTrue a X.env whole = (do let v ← whole; standAt a.pos; holding [v] (truthy v))) :
    PT X a (fun σ H Q => ta σ H fun x H' => ∃ k, TruV X.K x H' k ∧ Q k H') := by
  intro pins s σ H Q I h
  exact isTrue_plain (thn (ha pins s σ H _ I h) fun v s1 ⟨x, H1, I1, r1, q1⟩ => tru_ok pins s1 σ H1 x v Q I1 r1 q1) (he _)

/-! ### strs and bytes -/
theorem pe_byt {x : List UInt8} {k : Nat} : PE X (.Constant (.bytes x) k pos) (fun _ H Q => Q (.byt x.toArray) H) := fun _ _ _ H _ I h => PySem.W.Constant_bytes ⟨.byt x.toArray, H, I.tok _, ⟨_, rfl⟩, h⟩
theorem op_add_str : OpR X (binaryOp .Add) (fun x y H Q => ∃ i j, x = .str i ∧ y = .str j ∧ i.length + j.length ≤ sizeLine ∧ Q (.str (i ++ j)) H) := by
  intro pins s σ H x y v u Q I rx ry h
  obtain ⟨i, j, rfl, rfl, hz, q⟩ := h
  obtain ⟨t, rfl⟩ := rx
  obtain ⟨t', rfl⟩ := ry
  exact add_str (fun t' tk => ⟨.str (i ++ j), H, I.tok _, ⟨_, rfl⟩, q⟩) hz
theorem iop_add_str : OpR X (inplaceOp .Add) (fun x y H Q => ∃ i j, x = .str i ∧ y = .str j ∧ i.length + j.length ≤ sizeLine ∧ Q (.str (i ++ j)) H) := by
  intro pins s σ H x y v u Q I rx ry h
  obtain ⟨i, j, rfl, rfl, hz, q⟩ := h
  obtain ⟨t, rfl⟩ := rx
  obtain ⟨t', rfl⟩ := ry
  exact iadd_str (fun t' tk => ⟨.str (i ++ j), H, I.tok _, ⟨_, rfl⟩, q⟩) hz
theorem op_add_byt : OpR X (binaryOp .Add) (fun x y H Q => ∃ i j, x = .byt i ∧ y = .byt j ∧ i.size + j.size ≤ 16777216 ∧ Q (.byt (i ++ j)) H) := by
  intro pins s σ H x y v u Q I rx ry h
  obtain ⟨i, j, rfl, rfl, hz, q⟩ := h
  obtain ⟨t, rfl⟩ := rx
  obtain ⟨t', rfl⟩ := ry
  exact PySem.W.KBy.add_bytes hz (fun t' tk => ⟨.byt (i ++ j), H, I.tok _, ⟨_, rfl⟩, q⟩)

def PlainIxT (b : Expr) : Prop := ∀ o i, subscripted b false o i = operate [o, i] (getItem o i)
/-- s[i], 0 ≤ i < len -/
theorem pe_item_str (ha : PE X a ta) (hb : PE X b tb) (hs : PlainIxT b) :
    PE X (.Subscript a b pos) (tOp (fun x y H Q => ∃ z i c, x = .str z ∧ y = .int i ∧ 0 ≤ i ∧ i < 2 ^ 63 ∧ i < z.length ∧ z.cps[i.toNat]? = some c ∧ Q (.str ⟨#[c]⟩) H) ta tb) := by
  intro pins s σ H Q I h
  refine Subscript_ (binT ha hb I h fun v u s2 x y H2 I2 rx ry q => ?_)
  obtain ⟨z, i, c, rfl, rfl, h0, h63, h1, hc, q⟩ := q
  obtain ⟨t, rfl⟩ := rx
  obtain ⟨t', rfl⟩ := ry
  have e : seqIndex? i z.length = some i.toNat := PySem.StrLaws.seqIndex_nonneg h0 h1
  exact tail_any (typeIs_str s2 z t) slot_str_getitem.lookup (getItem_str (c := c) (by
    have e1 : decide (i < -(2 ^ 63 : Int)) = false := decide_eq_false (by omega)
    have e2 : decide (i ≥ 2 ^ 63) = false := decide_eq_false (by omega)
    rw [e1, e2] <;> rfl) (by rw [e]; exact hc) ⟨.str ⟨#[c]⟩, H2, I2.tok _, ⟨_, rfl⟩, q⟩) (hs _ _)
/-- b[i], 0 ≤ i < len -/
theorem pe_item_byt (ha : PE X a ta) (hb : PE X b tb) (hs : PlainIxT b) :
    PE X (.Subscript a b pos) (tOp (fun x y H Q => ∃ (z : List UInt8) (i : Int), x = .byt z.toArray ∧ y = .int i ∧ z.length ≤ sizeLine ∧ 0 ≤ i ∧ i < z.length ∧ Q (.int ((z.getD i.toNat 0).toNat : Nat)) H) ta tb) := by
  intro pins s σ H Q I h
  refine Subscript_ (binT ha hb I h fun v u s2 x y H2 I2 rx ry q => ?_)
  obtain ⟨z, i, rfl, rfl, hz, h0, h1, q⟩ := q
  obtain ⟨t, rfl⟩ := rx
  obtain ⟨t', rfl⟩ := ry
  have hl : sizeLine = 16777216 := sizeLine_eq
  exact tail_any (PySem.W.typeIs_bytes s2 z.toArray t) PySem.W.FB.slot_bytes_getitem.lookup (PySem.W.getItem_bytes (by omega) h0 h1 ⟨.int ((z.getD i.toNat 0).toNat : Nat), H2, I2.tok _, ⟨_, rfl⟩, q⟩) (hs _ _)

/-! ### scalar builtins, by CallR -/
theorem vals1 {x : V} {us : List Value} (r : Vals [x] us) : ∃ u, us = [u] ∧ RelV x u := by
  cases r with
  | cons r1 r2 => cases r2; exact ⟨_, rfl, r1⟩
theorem vals2 {x y : V} {us : List Value} (r : Vals [x, y] us) : ∃ u w', us = [u, w'] ∧ RelV x u ∧ RelV y w' := by
  cases r with
  | cons r1 r2 =>
    cases r2 with
    | cons r3 r4 => cases r4; exact ⟨_, _, rfl, r1, r3⟩
theorem call_abs : CallR X (.builtin "abs") (fun xs H Q => ∃ i, xs = [.int i] ∧ Q (.int (if i < 0 then -i else i)) H) := by
  intro pins s σ H xs us Q I r h
  obtain ⟨i, rfl, q⟩ := h
  obtain ⟨u, rfl, t, rfl⟩ := vals1 r
  exact call_abs_int fun u tk => ⟨.int (if i < 0 then -i else i), H, I.tok _, ⟨_, rfl⟩, q⟩
theorem call_max2 (hc : X.calm = true) : CallR X (.builtin "max") (fun xs H Q => ∃ i j, xs = [.int i, .int j] ∧ Q (.int (if j > i then j else i)) H) := by
  intro pins s σ H xs us Q I r h
  obtain ⟨i, j, rfl, q⟩ := h
  obtain ⟨u, w', rfl, ⟨t, rfl⟩, ⟨t', rfl⟩⟩ := vals2 r
  refine max_two_ints (I.ok.hd hc) fun h' tk k => ⟨_, H, I.kept k, ?_, q⟩
  by_cases hj : j > i
  · rw [if_pos hj, if_pos hj]; exact ⟨_, rfl⟩
  · rw [if_neg hj, if_neg hj]; exact ⟨_, rfl⟩
theorem call_min2 (hc : X.calm = true) : CallR X (.builtin "min") (fun xs H Q => ∃ i j, xs = [.int i, .int j] ∧ Q (.int (if j < i then j else i)) H) := by
  intro pins s σ H xs us Q I r h
  obtain ⟨i, j, rfl, q⟩ := h
  obtain ⟨u, w', rfl, ⟨t, rfl⟩, ⟨t', rfl⟩⟩ := vals2 r
  refine min_two_ints (I.ok.hd hc) fun h' tk k => ⟨_, H, I.kept k, ?_, q⟩
  by_cases hj : j < i
  · rw [if_pos hj, if_pos hj]; exact ⟨_, rfl⟩
  · rw [if_neg hj, if_neg hj]; exact ⟨_, rfl⟩
theorem call_int1 : CallR X (.type "int") (fun xs H Q => (∃ i, xs = [.int i] ∧ Q (.int i) H) ∨ ∃ k, xs = [.bl k] ∧ Q (.int (if k then 1 else 0)) H) := by
  intro pins s σ H xs us Q I r h
  rcases h with ⟨i, rfl, q⟩ | ⟨k, rfl, q⟩
  · obtain ⟨u, rfl, t, rfl⟩ := vals1 r
    exact call_int_int ⟨.int i, H, I, ⟨_, rfl⟩, q⟩
  · obtain ⟨u, rfl, r1⟩ := vals1 r
    cases r1
    exact call_int_bool ⟨.int (if k then 1 else 0), H, I.tok _, ⟨_, rfl⟩, q⟩
theorem call_bool1 : CallR X (.type "bool") (fun xs H Q => (∃ i, xs = [.int i] ∧ Q (.bl (i != 0)) H) ∨ ∃ k, xs = [.bl k] ∧ Q (.bl k) H) := by
  intro pins s σ H xs us Q I r h
  rcases h with ⟨i, rfl, q⟩ | ⟨k, rfl, q⟩
  · obtain ⟨u, rfl, t, rfl⟩ := vals1 r
    exact call_bool_int ⟨.bl (i != 0), H, I, rfl, q⟩
  · obtain ⟨u, rfl, r1⟩ := vals1 r
    cases r1
    exact call_bool_bool ⟨.bl k, H, I, rfl, q⟩
theorem call_str_int : CallR X (.type "str") (fun xs H Q => ∃ i, xs = [.int i] ∧ i.natAbs.log2 < 1920 ∧ Q (.str (toString i)) H) := by
  intro pins s σ H xs us Q I r h
  obtain ⟨i, rfl, hz, q⟩ := h
  obtain ⟨u, rfl, t, rfl⟩ := vals1 r
  exact PySem.P.str_of_int hz ⟨.str _, H, I.tok _, ⟨_, rfl⟩, q⟩
theorem call_ord : CallR X (.builtin "ord") (fun xs H Q => ∃ x, xs = [.str x] ∧ x.length = 1 ∧ Q (.int (x.cps.getD 0 0 : Nat)) H) := by
  intro pins s σ H xs us Q I r h
  obtain ⟨x, rfl, hz, q⟩ := h
  obtain ⟨u, rfl, t, rfl⟩ := vals1 r
  exact ord_of_one hz ⟨.int _, H, I.tok _, ⟨_, rfl⟩, q⟩
theorem call_chr : CallR X (.builtin "chr") (fun xs H Q => ∃ i, xs = [.int i] ∧ 0 ≤ i ∧ i ≤ 1114111 ∧ Q (.str ⟨#[i.toNat]⟩) H) := by
  intro pins s σ H xs us Q I r h
  obtain ⟨i, rfl, h0, h1, q⟩ := h
  obtain ⟨u, rfl, t, rfl⟩ := vals1 r
  exact chr_of_range h0 h1 ⟨.str _, H, I.tok _, ⟨_, rfl⟩, q⟩
/-- len of a str, a bytes, a list, a tuple -/
def LenV (K : PySem.W.Frag) (x : V) (H : Hp) (n : Nat) : Prop :=
  match x with
  | .str y => y.length ≤ sizeLine ∧ n = y.length
  | .byt y => y.size ≤ sizeLine ∧ n = y.size
  | .ref p => (∃ xs, SqL K H p xs ∧ n = xs.length) ∨ ∃ xs, SqT K H p xs ∧ n = xs.length
  | _ => False
theorem call_len : CallR X (.builtin "len") (fun xs H Q => ∃ x n, xs = [x] ∧ LenV X.K x H n ∧ Q (.int n) H) := by
  intro pins s σ H xs us Q I r h
  obtain ⟨x, n, rfl, e, q⟩ := h
  obtain ⟨u, rfl, rx⟩ := vals1 r
  have hl := line63
  have hs : sizeLine = 16777216 := sizeLine_eq
  cases x with
  | str y =>
    obtain ⟨t, rfl⟩ := rx
    obtain ⟨hy, e'⟩ : y.length ≤ sizeLine ∧ n = y.length := e
    subst e'
    exact len_str (by omega) ⟨.int _, H, I.tok _, ⟨_, rfl⟩, q⟩
  | byt y =>
    obtain ⟨t, rfl⟩ := rx
    obtain ⟨hy, e'⟩ : y.size ≤ sizeLine ∧ n = y.size := e
    subst e'
    exact PySem.W.len_bytes (by omega) ⟨.int _, H, I.tok _, ⟨_, rfl⟩, q⟩
  | ref p =>
    cases rx
    have e' : (∃ xs, SqL X.K H p xs ∧ n = xs.length) ∨ ∃ xs, SqT X.K H p xs ∧ n = xs.length := e
    rcases e' with ⟨xs, hx, e'⟩ | ⟨xs, hx, e'⟩
    · subst e'
      obtain ⟨its, r', pl, hz⟩ := I.list hx
      have hlen := r'.length
      exact Calls.call_len_list pl.isList (by simp only [List.size_toArray]; omega) ⟨.int xs.length, H, I.tok _, ⟨_, by simp only [List.size_toArray]; rw [hlen]⟩, q⟩
    · subst e'
      obtain ⟨its, r', pl, hz⟩ := I.tuple hx
      have hlen := r'.length
      exact len_tuple pl (by simp only [List.size_toArray]; omega) ⟨.int xs.length, H, I.tok _, ⟨_, by simp only [List.size_toArray]; rw [hlen]⟩, q⟩
  | _ => exact (show False from e).elim
/-- divmod: a new tuple -/
theorem call_divmod : CallR X (.builtin "divmod") (fun xs H Q => ∃ i j, xs = [.int i, .int j] ∧ CDiv i j ∧ ∀ p, H p = none → Q (.ref p) (upd H p (.tup [.int (i / j), .int (i % j)]))) := by
  intro pins s σ H xs us Q I r h
  obtain ⟨i, j, rfl, ⟨h1, h2⟩, q⟩ := h
  obtain ⟨u, w', rfl, ⟨t, rfl⟩, ⟨t', rfl⟩⟩ := vals2 r
  refine divmod_int (by omega) ?_ (.inl (PyProof.noPylong_small (by omega)))
  rw [Int.fdiv_eq_ediv_of_nonneg i (by omega), Int.fmod_eq_emod_of_nonneg i (by omega)]
  have hn : H s.heap.objs.size = none := I.hok.fresh (Nat.le_refl _)
  refine ⟨.ref s.heap.objs.size, _, ?_, rfl, q _ hn⟩
  refine I.laid (fun b o e => Heap.get?_push_of_some _ e) (Nat.le_refl _) ⟨by simp only [List.length_cons, List.length_nil]; rw [sizeLine_eq]; decide, [.int (i / j) s.toks, .int (i % j) (s.toks + 1)], .cons ⟨_, rfl⟩ (.cons ⟨_, rfl⟩ .nil), ?_⟩
  exact ⟨_, Heap.get?_push_size s.heap rfl, rfl, 0, rfl⟩
end
end L2

namespace L2
open PySem PySem.Spec PyProof.Rows

/-! ### an instance, its attributes a map -/
structure ObjM (h : Heap) (x dx C : Addr) (mA : Str → Option Value) : Prop where
  obj : h.get? x = some (PySem.W.instObj C dx)
  ns : h.Ns1 dx mA
  ne : dx ≠ x

theorem lookIn_ns {h : Heap} {dx : Addr} {mA : Str → Option Value} (n : h.Ns1 dx mA) : ∃ od, h.get? dx = some od ∧ ∀ name, PySem.W.lookIn name od = some (mA name) := by
  obtain ⟨o, es, ep, ho, hd, hk, _, hm⟩ := n
  refine ⟨o, ho, fun name => ?_⟩
  have e := hm name
  unfold nsFind findBy at e
  rw [← Array.find?_toList] at e
  unfold PySem.W.lookIn
  rw [hd]
  dsimp only
  split
  · rename_i y q
    rw [q] at e
    exact congrArg some e
  · rename_i q
    rw [q] at e
    have a : es.toList.any (·.refKey) = false := by
      rw [List.any_eq_false]
      intro y hy
      obtain ⟨z, t, hkey⟩ := hk y (Array.mem_toList_iff.mp hy)
      simp [DictEntry.refKey, hkey]
    have a' : ¬ es.toList.any (·.refKey) = true := by rw [a]; exact Bool.false_ne_true
    rw [if_neg a']
    exact congrArg some e

theorem ObjM.look {h : Heap} {x dx C : Addr} {mA : Str → Option Value} (I : ObjM h x dx C mA) : ∃ od, PySem.W.InstAt h x (PySem.W.instObj C dx) C (some od) ∧ ∀ name, PySem.W.lookIn name od = some (mA name) :=
  let ⟨od, ho, hl⟩ := lookIn_ns I.ns
  ⟨od, ⟨I.obj, rfl, rfl, ho⟩, hl⟩

section
variable {prog : Program} {w : World} {A : Around} {E : Value → Shared → Prop} {s : Shared} {K : PySem.W.Frag} {x dx C f : Addr} {mA : Str → Option Value} {name : Str} {v : Value}

theorem get_map {expr : Bool} {Q : Value → Shared → Prop} (X : K.In s.heap) (I : ObjM s.heap x dx C mA) (hg : PySem.W.plainGet K C name = true) (hh : PySem.W.hasDictIn K C = true)
    (ha : PySem.W.findIn K (.ref C) name = some none) (hv : mA name = some v) (hv' : PySem.W.handedIn v = true) (h : Q v { s with toks := s.toks + 1 }) :
    wpAny (model prog w) A (getAttr (.ref x) name expr) Q E s := by
  obtain ⟨od, J, hl⟩ := I.look
  exact PySem.W.get_value X J (PySem.W.plainGet_of hg).1 (PySem.W.findObj_own hh ha rfl (by rw [hl, hv])) hv' h

theorem get_const {expr : Bool} {a : Value} {Q : Value → Shared → Prop} (X : K.In s.heap) (I : ObjM s.heap x dx C mA) (hg : PySem.W.plainGet K C name = true) (hh : PySem.W.hasDictIn K C = true)
    (ha : PySem.W.findIn K (.ref C) name = some (some a)) (hn : PySem.W.specialIn K a "__get__" = some none) (hc : PySem.W.copiedNames.contains name = false) (hv : mA name = none) (hv' : PySem.W.handedIn a = true)
    (h : Q a { s with toks := s.toks + 1 }) : wpAny (model prog w) A (getAttr (.ref x) name expr) Q E s := by
  obtain ⟨od, J, hl⟩ := I.look
  exact PySem.W.get_value X J (PySem.W.plainGet_of hg).1 (PySem.W.findObj_cls hh ha hn hv' hc (by rw [hl, hv])) hv' h

theorem get_meth {pl : Sem Bool} {Q : Value × List Value → Shared → Prop} (X : K.In s.heap) (I : ObjM s.heap x dx C mA) (hg : PySem.W.plainGet K C name = true)
    (hf : PySem.W.findIn K (.ref C) name = some (some (.ref f))) (ht : PySem.W.isFn K (.ref f) = true) (hv : mA name = none) (h : Q (.ref f, [.ref x]) s) :
    wpAny (model prog w) A (getMethod (.ref x) name pl) Q E s := by
  obtain ⟨od, J, hl⟩ := I.look
  exact PySem.W.method_fn X J (PySem.W.plainGet_of hg).1 (PySem.W.plainGet_of hg).2 hf (beq_iff_eq.mp ht) (by show (PySem.W.lookIn name od).map (·.isSome) = some false; rw [hl, hv]; rfl) h

theorem set_map {ns : List Str} {Q : Unit → Shared → Prop} (X : K.In s.heap) (I : ObjM s.heap x dx C mA)
    (hs : PySem.W.findIn K (.ref C) "__setattr__" = some (some (.builtin "object.__setattr__"))) (hp : PySem.W.plainOver K C = true) (ht : PySem.W.takerIn K C name = some none) (hh : PySem.W.hasDictIn K C = true)
    (hw : PySem.Within mA ns) (hsz : ns.length ≤ sizeLine)
    (h : ∀ h', ObjM h' x dx C (fun y => if y = name then some v else mA y) → Heap.SameBut dx s.heap h' → Q () { s with heap := h', toks := s.toks + 2 }) :
    wpAny (model prog w) A (setAttr (.ref x) name v) Q E s := by
  obtain ⟨od, J, hl⟩ := I.look
  refine PySem.W.set_plain X J hs (PySem.W.osa_open (s := { s with toks := s.toks + 1 }) (r := none) X J hp ht fun b => ?_)
  obtain ⟨cd, hc, hd'⟩ := PySem.W.any_some hh
  have hx : s.heap.get? x = some ⟨.ref C, some dx, .plain, #[]⟩ := I.obj
  refine wpAny_bind (wpAny_pure (wpAny_bind (wpAny_bind (wpAny_loadPart hx (wpAny_bind (PySem.W.Looks.here (s := { s with toks := s.toks + 1 }) (PySem.W.looks_clsIn X hc) ?_))))))
  rw [hd']
  refine wpAny_pure (a := some dx) (wpAny_bind (wpAny_pure (wpAny_bind ?_)))
  refine wpAny_nsSet1 (s := { s with toks := s.toks + 1 }) I.ns fun h' hn2 hs2 => ?_
  obtain ⟨oD, esD, epD, hoD, hdD, hcD⟩ := hn2.count (PySem.Within.cons name v hw)
  refine wpAny_bind (wpAny_lookBehind hoD (by rw [hdD]; exact pastItsLine_dict (Nat.le_trans hcD (by rw [List.length_cons]; omega))) ?_)
  exact wpAny_pure (h _ ⟨(hs2.2 _ (Ne.symm I.ne)).trans I.obj, hn2, I.ne⟩ hs2)

/-- C(..): the dict at the heap's end, the instance behind it; then its __init__ -/
theorem make_map {R : Result → Shared → Prop} {vs : List Value} {kw : List (Str × Value)} (X : K.In s.heap) (hm : PySem.W.makesIn K C = true)
    (hi : PySem.W.findIn K (.ref C) "__init__" = some (some (.ref f))) (hf : PySem.W.typeIn K (.ref f) = some (.type "function"))
    (h : codeAny (model prog w) (A.under (.builtin "type.__call__" ⟨.ref C :: vs, kw⟩)) (.call (.ref f) ⟨.ref (s.heap.objs.size + 1) :: vs, kw⟩) (PySem.W.InitBack (s.heap.objs.size + 1) R)
      { s with heap := (s.heap.push PySem.W.emptyDict).push (PySem.W.instObj C s.heap.objs.size) }) :
    codeAny (model prog w) A (.call (.ref C) ⟨vs, kw⟩) R s := by
  obtain ⟨hh, g, d, t, os⟩ := s
  exact PySem.W.make_core (PySem.W.makes_of X hm) (PySem.W.looks_findIn X hi) (fun self => PySem.W.bind_fn X self hf) (.inl rfl) h
/-- C() where there is no __init__ but object's -/
theorem make_map0 {R : Result → Shared → Prop} (X : K.In s.heap) (hm : PySem.W.makesIn K C = true)
    (hi : PySem.W.findIn K (.ref C) "__init__" = some (some (.builtin "object.__init__")))
    (hb : ∀ self, PySem.W.Looks (model prog w) s.heap (bindSpecial (.builtin "object.__init__") self) (.builtin "object.__init__", [self]))
    (h : codeAny (model prog w) (A.under (.builtin "type.__call__" ⟨[.ref C], []⟩)) (.call (.builtin "object.__init__") ⟨[.ref (s.heap.objs.size + 1)], []⟩) (PySem.W.InitBack (s.heap.objs.size + 1) R)
      { s with heap := (s.heap.push PySem.W.emptyDict).push (PySem.W.instObj C s.heap.objs.size) }) :
    codeAny (model prog w) A (.call (.ref C) ⟨[], []⟩) R s := by
  obtain ⟨hh, g, d, t, os⟩ := s
  exact PySem.W.make_core (PySem.W.makes_of X hm) (PySem.W.looks_findIn X hi) hb (.inr ⟨rfl, rfl⟩) h
end

/-! ### the attributes as a list of pairs -/
def putF (f : Str) (v : V) : List (Str × V) → List (Str × V)
  | [] => [(f, v)]
  | (g, x) :: r => if g = f then (g, v) :: r else (g, x) :: putF f v r
theorem lookup_putF (f g : Str) (v : V) : ∀ fs : List (Str × V), (putF f v fs).lookup g = if g = f then some v else fs.lookup g
  | [] => by
    show List.lookup g [(f, v)] = _
    by_cases h : g = f
    · have hb : (g == f) = true := beq_iff_eq.mpr h
      simp only [List.lookup, hb, if_pos h]
    · have hb : (g == f) = false := beq_eq_false_iff_ne.mpr h
      simp only [List.lookup, hb, if_neg h]
  | (k, x) :: r => by
    have ih := lookup_putF f g v r
    rw [show putF f v ((k, x) :: r) = (if k = f then (k, v) :: r else (k, x) :: putF f v r) from rfl]
    by_cases hk : k = f
    · rw [if_pos hk]
      by_cases h : g = k
      · have hb : (g == k) = true := beq_iff_eq.mpr h
        simp only [List.lookup, hb, if_pos (h.trans hk)]
      · have hb : (g == k) = false := beq_eq_false_iff_ne.mpr h
        simp only [List.lookup, hb, if_neg (fun e : g = f => h (e.trans hk.symm))]
    · rw [if_neg hk]
      by_cases h : g = k
      · have hb : (g == k) = true := beq_iff_eq.mpr h
        simp only [List.lookup, hb, if_neg (fun e : g = f => hk (h.symm.trans e))]
      · have hb : (g == k) = false := beq_eq_false_iff_ne.mpr h
        simp only [List.lookup, hb]
        exact ih
theorem keys_putF (f : Str) (v : V) : ∀ fs : List (Str × V), f ∈ (putF f v fs).map (·.1) ∧ ∀ g, g ∈ fs.map (·.1) → g ∈ (putF f v fs).map (·.1)
  | [] => ⟨by simp [putF], fun g h => by simp at h⟩
  | (k, x) :: r => by
    obtain ⟨i1, i2⟩ := keys_putF f v r
    rw [show putF f v ((k, x) :: r) = (if k = f then (k, v) :: r else (k, x) :: putF f v r) from rfl]
    by_cases hk : k = f
    · rw [if_pos hk]
      subst hk
      exact ⟨by simp, fun g h => by simpa using h⟩
    · rw [if_neg hk]
      refine ⟨?_, fun g h => ?_⟩
      · rw [List.map_cons]
        exact List.mem_cons_of_mem _ i1
      · rw [List.map_cons] at h ⊢
        rcases List.mem_cons.mp h with e | e
        · exact List.mem_cons.mpr (.inl e)
        · exact List.mem_cons_of_mem _ (i2 g e)
theorem length_putF (f : Str) (v : V) : ∀ fs : List (Str × V), (putF f v fs).length ≤ fs.length + 1
  | [] => by simp [putF]
  | (k, x) :: r => by
    have ih := length_putF f v r
    rw [show putF f v ((k, x) :: r) = (if k = f then (k, v) :: r else (k, x) :: putF f v r) from rfl]
    by_cases hk : k = f
    · rw [if_pos hk, List.length_cons, List.length_cons]; omega
    · rw [if_neg hk, List.length_cons, List.length_cons]; omega

theorem RelO.some_of {v : V} {o : Option Value} (r : RelO (some v) o) : ∃ u, o = some u ∧ RelV v u := by
  cases o with
  | none => exact (show False from r).elim
  | some u => exact ⟨u, rfl, r⟩
theorem RelO.none_of {o : Option Value} (r : RelO none o) : o = none := by
  cases o with
  | none => rfl
  | some u => exact (show False from r).elim
theorem handed_of {v : V} {u : Value} (r : RelV v u) : PySem.W.handedIn u = true := by
  cases v with
  | non => cases (show u = Value.none from r); rfl
  | bl b => cases (show u = Value.bool b from r); rfl
  | int i => obtain ⟨t, e⟩ := (show ∃ t, u = Value.int i t from r); cases e; rfl
  | str x => obtain ⟨t, e⟩ := (show ∃ t, u = Value.str x t from r); cases e; rfl
  | byt b => obtain ⟨t, e⟩ := (show ∃ t, u = Value.bytes b t from r); cases e; rfl
  | flt b => obtain ⟨t, e⟩ := (show ∃ t, u = Value.float b t from r); cases e; rfl
  | ref a => cases (show u = Value.ref a from r); rfl
  | ty n => cases (show u = Value.type n from r); rfl

section
variable {P : Program} {w : World} {H H' : Hp} {h h' : Heap} {a C dx : Addr} {fs fs' : List (Str × V)}
theorem ins_get (hok : HOk P w H h) (e : H a = some (.ins C dx fs)) : ∃ mA, ObjM h a dx C mA ∧ (∀ f, RelO (fs.lookup f) (mA f)) ∧ PySem.Within mA (fs.map (·.1)) ∧ fs.length ≤ 1000 ∧ H dx = some (.own a) := by
  obtain ⟨d, z, ne, ob, mA, n, r, q⟩ := (show ObjOk P w H h a (.ins C dx fs) from hok a _ e)
  exact ⟨mA, ⟨ob, n, ne⟩, r, q, z, d⟩
end

/-! ### what of the text a class must have -/
structure Cls (K : PySem.W.Frag) (C : Addr) : Prop where
  pg : PySem.W.plainGet K C Str.empty = true
  hd : PySem.W.hasDictIn K C = true
  po : PySem.W.plainOver K C = true
  sa : PySem.W.findIn K (.ref C) "__setattr__" = some (some (.builtin "object.__setattr__"))
theorem Cls.get {K : PySem.W.Frag} {C : Addr} (c : Cls K C) (f : Str) : PySem.W.plainGet K C f = true := c.pg
/-- no class of it has the name -/
def NoAttr (K : PySem.W.Frag) (C : Addr) (f : Str) : Prop := PySem.W.findIn K (.ref C) f = some none
theorem NoAttr.taker {K : PySem.W.Frag} {C : Addr} {f : Str} (n : NoAttr K C f) : PySem.W.takerIn K C f = some none := by
  unfold PySem.W.takerIn
  rw [show PySem.W.findIn K (.ref C) f = some none from n]
  rfl
/-- a constant of the class -/
structure Con (K : PySem.W.Frag) (C : Addr) (f : Str) (v : V) (u : Value) : Prop where
  at_ : PySem.W.findIn K (.ref C) f = some (some u)
  rel : RelV v u
  get : PySem.W.specialIn K u "__get__" = some none
  cp : PySem.W.copiedNames.contains f = false
/-- a method: a plain def of the class or of one above it -/
structure Meth (K : PySem.W.Frag) (C : Addr) (m : Str) (f : Addr) : Prop where
  at_ : PySem.W.findIn K (.ref C) m = some (some (.ref f))
  fn : PySem.W.isFn K (.ref f) = true
  kp : PySem.W.keepIn K (.ref f) = true

section
variable {X : Cx} {pins : List (Addr × Obj)} {σ : St} {H : Hp} {s : Shared} {a C dx : Addr} {fs : List (Str × V)} {f : Str} {v : V} {A : Around} {E : Value → Shared → Prop}

theorem getattr_ok {b : Bool} {Q : Value → Shared → Prop} (I : Inv X pins σ H s) (e : H a = some (.ins C dx fs)) (c : Cls X.K C) (n : NoAttr X.K C f) (l : fs.lookup f = some v)
    (h : ∀ u s', Inv X pins σ H s' → RelV v u → Q u s') : wpAny (model X.prog X.w) A (getAttr (.ref a) f b) Q E s := by
  obtain ⟨mA, O, r, _, _, _⟩ := ins_get I.hok e
  obtain ⟨u, hu, ru⟩ := RelO.some_of (v := v) (o := mA f) (by rw [← l]; exact r f)
  exact get_map I.kIn O (c.get f) c.hd n hu (handed_of ru) (h u _ (I.tok _) ru)

theorem getcon_ok {b : Bool} {u : Value} {Q : Value → Shared → Prop} (I : Inv X pins σ H s) (e : H a = some (.ins C dx fs)) (c : Cls X.K C) (k : Con X.K C f v u) (l : fs.lookup f = none)
    (h : ∀ s', Inv X pins σ H s' → Q u s') : wpAny (model X.prog X.w) A (getAttr (.ref a) f b) Q E s := by
  obtain ⟨mA, O, r, _, _, _⟩ := ins_get I.hok e
  have hn : mA f = none := RelO.none_of (by rw [← l]; exact r f)
  exact get_const I.kIn O (c.get f) c.hd k.at_ k.get k.cp hn (handed_of k.rel) (h _ (I.tok _))

theorem getmeth_ok {m : Str} {g : Addr} {pl : Sem Bool} {Q : Value × List Value → Shared → Prop} (I : Inv X pins σ H s) (e : H a = some (.ins C dx fs)) (c : Cls X.K C) (k : Meth X.K C m g) (l : fs.lookup m = none)
    (h : Q (.ref g, [.ref a]) s) : wpAny (model X.prog X.w) A (getMethod (.ref a) m pl) Q E s := by
  obtain ⟨mA, O, r, _, _, _⟩ := ins_get I.hok e
  have hn : mA m = none := RelO.none_of (by rw [← l]; exact r m)
  exact get_meth I.kIn O (c.get m) k.at_ k.fn hn h

theorem setattr_ok {y : V} {u : Value} {Q : Unit → Shared → Prop} (I : Inv X pins σ H s) (e : H a = some (.ins C dx fs)) (c : Cls X.K C) (n : NoAttr X.K C f) (hl : fs.length < 1000) (ry : RelV y u)
    (h : ∀ s', Inv X pins σ (upd H a (.ins C dx (putF f y fs))) s' → Q () s') : wpAny (model X.prog X.w) A (setAttr (.ref a) f u) Q E s := by
  obtain ⟨mA, O, r, wi, _, ho⟩ := ins_get I.hok e
  have hz : (fs.map (·.1)).length ≤ sizeLine := by rw [List.length_map, sizeLine_eq]; omega
  refine set_map I.kIn O c.sa c.po n.taker c.hd wi hz fun h' O' sb => h _ ?_
  have hd : ∃ o, h'.get? dx = some o := let ⟨o, _, _, e', _⟩ := O'.ns; ⟨o, e'⟩
  refine I.write (x := a) (e := dx) (by rw [e]; exact True.intro) (.inr ho) (fun b q hb z => (sb.2 b hb).trans z) hd ?_
  refine ⟨by rw [upd_ne O.ne]; exact ho, ?_, O.ne, O'.obj, _, O'.ns, fun g => ?_, fun g hg => ?_⟩
  · have := length_putF f y fs; omega
  · show RelO ((putF f y fs).lookup g) (if g = f then some u else mA g)
    rw [lookup_putF]
    by_cases q : g = f
    · rw [if_pos q, if_pos q]; exact ry
    · rw [if_neg q, if_neg q]; exact r g
  · by_cases q : g = f
    · rw [q]; exact (keys_putF f y fs).1
    · refine (keys_putF f y fs).2 g (wi g fun z => hg ?_)
      show (if g = f then some u else mA g) = none
      rw [if_neg q]; exact z

/-- a new instance, tracked, without attributes -/
theorem Inv.made (I : Inv X pins σ H s) : Inv X pins σ (upd (upd H s.heap.objs.size (.own (s.heap.objs.size + 1))) (s.heap.objs.size + 1) (.ins C s.heap.objs.size []))
    { s with heap := (s.heap.push PySem.W.emptyDict).push (PySem.W.instObj C s.heap.objs.size) } := by
  have e1 : (s.heap.push PySem.W.emptyDict).get? s.heap.objs.size = some PySem.W.emptyDict := Heap.get?_push_size s.heap rfl
  have e2 : ((s.heap.push PySem.W.emptyDict).push (PySem.W.instObj C s.heap.objs.size)).get? (s.heap.objs.size + 1) = some (PySem.W.instObj C s.heap.objs.size) := by
    have := Heap.get?_push_size (s.heap.push PySem.W.emptyDict) (o := PySem.W.instObj C s.heap.objs.size) rfl
    rwa [Heap.size_push] at this
  have e3 : (s.heap.push PySem.W.emptyDict).Ns s.heap.objs.size (fun _ => none) := ⟨PySem.W.emptyDict, #[], _, e1, rfl, (fun e he => absurd he (by simp)), fun _ => rfl⟩
  have I1 := I.laid (a := s.heap.objs.size) (o := .own (s.heap.objs.size + 1)) (h' := s.heap.push PySem.W.emptyDict) (t' := s.toks) (fun b u q => Heap.get?_push_of_some _ q) (Nat.le_refl _) ⟨_, e1⟩
  refine I1.laid (a := s.heap.objs.size + 1) (o := .ins C s.heap.objs.size []) (t' := s.toks) (fun b u q => Heap.get?_push_of_some _ q) (Nat.le_of_eq (Heap.size_push _ _)) ?_
  have ne : s.heap.objs.size ≠ s.heap.objs.size + 1 := Nat.ne_of_lt (Nat.lt_succ_self _)
  refine ⟨by rw [upd_ne ne, upd_same], Nat.zero_le _, ne, e2, fun _ => none, (Heap.Ns1.of_empty e3).at fun o q => Heap.get?_push_of_some _ q, fun _ => True.intro, fun y hy => absurd rfl hy⟩

/-- e.f where nothing but the object is asked: through attributeBase (super) and the last hold -/
theorem attr_of {prog : Program} {w : World} {env : Env} {e : Expr} {f : Str} {pos : Pos} {s : Shared} {Q : Value → Shared → Prop} (hb : attributeBase e f env (eval e env) = eval e env)
    (h : wpAny (model prog w) A (eval e env) (fun o s₁ => wpAny (model prog w) A (getAttr o f true) Q E s₁) E s) : wpAny (model prog w) A (eval (.Attribute e f pos) env) Q E s :=
  Attribute_any_ h (by rw [arm_eval_Attribute, hb])
end

/-! ### readings and rules -/
/-- e.f, an attribute of the instance -/
def tFld (K : PySem.W.Frag) (ta : TE) (f : Str) : TE := fun σ H Q => ta σ H fun x H1 => ∃ a C dx fs v, x = .ref a ∧ H1 a = some (.ins C dx fs) ∧ Cls K C ∧ NoAttr K C f ∧ fs.lookup f = some v ∧ Q v H1
/-- e.f, a constant of the class -/
def tCon (K : PySem.W.Frag) (ta : TE) (f : Str) : TE := fun σ H Q => ta σ H fun x H1 => ∃ a C dx fs v u, x = .ref a ∧ H1 a = some (.ins C dx fs) ∧ Cls K C ∧ Con K C f v u ∧ fs.lookup f = none ∧ Q v H1
/-- e.f = value -/
def sFld (K : PySem.W.Frag) (ta tv : TE) (f : Str) : TS := fun D σ H => tv σ H fun y H1 => ta σ H1 fun x H2 => ∃ a C dx fs, x = .ref a ∧ H2 a = some (.ins C dx fs) ∧ Cls K C ∧ NoAttr K C f ∧ fs.length < 1000 ∧
  D.nx σ (upd H2 a (.ins C dx (putF f y fs)))
/-- an augmented operator on two values -/
def InOp (X : Cx) (op : Operator) (rd : V → V → Hp → VK → Prop) : Prop :=
  ∀ (pins : List (Addr × Obj)) (s : Shared) (σ : St) (H : Hp) (x y : V) (u v : Value) (Q : VK), Inv X pins σ H s → RelV x u → RelV y v → rd x y H Q → wpAny (model X.prog X.w) X.A (inplaceOp op u v) (EP X pins σ Q) X.xe s
/-- e.f op= value -/
def sFldAug (K : PySem.W.Frag) (ta tv : TE) (rd : V → V → Hp → VK → Prop) (f : Str) : TS := fun D σ H => ta σ H fun x H1 => ∃ a C dx fs v, x = .ref a ∧ H1 a = some (.ins C dx fs) ∧ Cls K C ∧ NoAttr K C f ∧ fs.lookup f = some v ∧
  tv σ H1 fun y H2 => rd v y H2 fun z H3 => ∃ dx' fs', H3 a = some (.ins C dx' fs') ∧ fs'.length < 1000 ∧ D.nx σ (upd H3 a (.ins C dx' (putF f z fs')))

section
variable {X : Cx} {o e value : Expr} {f : Str} {pos pos' tpos : Pos} {ta tv : TE}
theorem pe_fld (he : PE X e ta) (hb : attributeBase e f X.env (eval e X.env) = eval e X.env) : PE X (.Attribute e f pos) (tFld X.K ta f) := by
  intro pins s σ H Q I h
  refine attr_of hb (thn (he pins s σ H _ I h) fun u s1 ⟨x, H1, I1, rx, a, C, dx, fs, v, ex, ea, c, n, l, q⟩ => ?_)
  subst ex
  obtain rfl : u = Value.ref a := rx
  exact getattr_ok I1 ea c n l fun u' s2 I2 ru => ⟨v, H1, I2, ru, q⟩
theorem pe_con (he : PE X e ta) (hb : attributeBase e f X.env (eval e X.env) = eval e X.env) : PE X (.Attribute e f pos) (tCon X.K ta f) := by
  intro pins s σ H Q I h
  refine attr_of hb (thn (he pins s σ H _ I h) fun u s1 ⟨x, H1, I1, rx, a, C, dx, fs, v, u0, ex, ea, c, k, l, q⟩ => ?_)
  subst ex
  obtain rfl : u = Value.ref a := rx
  exact getcon_ok I1 ea c k l fun s2 I2 => ⟨v, H1, I2, k.rel, q⟩
theorem ps_fld (ha : PE X o ta) (hv : PE X value tv) (hs : swapsWith value (some (.Attribute o f pos')) pos.line X.env = pure false) : PS X (.Assign [.Attribute o f pos'] value pos) (sFld X.K ta tv f) := by
  intro pins s σ H D I h
  refine plainObj_wpAny_Assign_Attribute (thn (hv pins s σ H _ I h) fun u s1 ⟨y, H1, I1, ry, q⟩ => thn (ha pins s1 σ H1 _ I1 q) fun ov s2 ⟨x, H2, I2, rx, a, C, dx, fs, ex, ea, c, n, l, q2⟩ => ?_) hs
  subst ex
  obtain rfl : ov = Value.ref a := rx
  exact setattr_ok I2 ea c n l ry fun s3 I3 => ⟨σ, _, I3, q2⟩
theorem ps_fldaug {op : Operator} {rd : V → V → Hp → VK → Prop} (ha : PE X o ta) (hv : PE X value tv) (hop : InOp X op rd) : PS X (.AugAssign (.Attribute o f tpos) op value pos) (sFldAug X.K ta tv rd f) := by
  intro pins s σ H D I h
  refine wpAny_AugAssign_AttributeAny (thn (ha pins s σ H _ I h) fun ov s1 ⟨x, H1, I1, rx, a, C, dx, fs, v, ex, ea, c, n, l, q⟩ => ?_)
  subst ex
  obtain rfl : ov = Value.ref a := rx
  refine getattr_ok I1 ea c n l fun u s2 I2 ru => thn (hv pins s2 σ H1 _ I2 q) fun w3 s3 ⟨y, H2, I3, ry, q3⟩ => thn (hop pins s3 σ H2 v y u w3 _ I3 ru ry q3) fun w4 s4 ⟨z, H3, I4, rz, dx', fs', ea', l', q4⟩ => ?_
  exact setattr_ok I4 ea' c n l' rz fun s5 I5 => ⟨σ, _, I5, q4⟩
def rAdd : V → V → Hp → VK → Prop := fun x y H Q => ∃ i j, x = .int i ∧ y = .int j ∧ Q (.int (i + j)) H
def rSub : V → V → Hp → VK → Prop := fun x y H Q => ∃ i j, x = .int i ∧ y = .int j ∧ Q (.int (i - j)) H
theorem in_add : InOp X .Add rAdd := by
  rintro pins s σ H x y u v Q I rx ry ⟨i, j, rfl, rfl, q⟩
  obtain ⟨t, rfl⟩ := (show ∃ t, u = Value.int i t from rx)
  obtain ⟨t', rfl⟩ := (show ∃ t', v = Value.int j t' from ry)
  exact PyProof.Rows.iadd_int ⟨.int (i + j), H, I.tok _, ⟨_, rfl⟩, q⟩
theorem in_sub : InOp X .Sub rSub := by
  rintro pins s σ H x y u v Q I rx ry ⟨i, j, rfl, rfl, q⟩
  obtain ⟨t, rfl⟩ := (show ∃ t, u = Value.int i t from rx)
  obtain ⟨t', rfl⟩ := (show ∃ t', v = Value.int j t' from ry)
  exact PyProof.Rows.isub_int ⟨.int (i - j), H, I.tok _, ⟨_, rfl⟩, q⟩

/-- what is between an instance and its method: the tree of a method call -/
theorem methcall_of {pl : Sem Bool} {m : Str} {apos : Pos} {args : List Expr} {pins : List (Addr × Obj)} {s : Shared} {σ : St} {H : Hp} {Q : Value → Shared → Prop} {te : TE} (he : PE X e te) (I : Inv X pins σ H s)
    (h : te σ H fun x H1 => ∃ a C dx fs g, x = .ref a ∧ H1 a = some (.ins C dx fs) ∧ Cls X.K C ∧ Meth X.K C m g ∧ fs.lookup m = none ∧
      ∀ s1, Inv X pins σ H1 s1 → wpAny (model X.prog X.w) X.A (callWith pos (.ref g) [.ref a] (backTo pos (starEach args X.env)) (backToKw pos (keywordEach [] X.env))) Q X.xe s1)
    (ht : eval (.Call (.Attribute e m apos) args [] pos) X.env = (do
      let ov ← eval e X.env
      standAt apos.atName
      let (f, first) ← holding [ov] (getMethod ov m pl)
      callWith pos f first (backTo pos (starEach args X.env)) (backToKw pos (keywordEach [] X.env)))) :
    wpAny (model X.prog X.w) X.A (eval (.Call (.Attribute e m apos) args [] pos) X.env) Q X.xe s := by
  refine PySem.W.methodCall_KW (pl := pl) (thn (he pins s σ H _ I h) fun u s1 ⟨x, H1, I1, rx, a, C, dx, fs, g, ex, ea, c, k, l, q⟩ => ?_) ht
  subst ex
  obtain rfl : u = Value.ref a := rx
  exact getmeth_ok I1 ea c k l (q s1 I1)
end

end L2

namespace L2
open PySem PySem.Spec PyProof.Rows

/-! ### room -/
structure Room (k : Nat) (A : Around) : Prop where
  hd : A.handled = none
  dp : A.depth + 3 * k + 5 < recursionLimit
  un : A.units + 16 * k + 200 < cLine
theorem Room.mono {j k : Nat} {A : Around} (r : Room k A) (h : j ≤ k) : Room j A := ⟨r.hd, by have := r.dp; omega, by have := r.un; omega⟩
theorem Room.deeper {k : Nat} {A : Around} (r : Room (k + 1) A) (env : Env) : Room k (A.deeper env) :=
  ⟨r.hd, by have := r.dp; show A.depth + 1 + 3 * k + 5 < _; omega, by have := r.un; show A.units + 3 + 16 * k + 200 < _; omega⟩
theorem Room.in1 {k : Nat} {A : Around} (r : Room (k + 1) A) : Room k A.in1 :=
  ⟨r.hd, by have := r.dp; show A.depth + 3 * k + 5 < _; omega, by have := r.un; show A.units + 1 + 16 * k + 200 < _; omega⟩
theorem make_depth {A : Around} {C : Addr} {us : List Value} {kw : List (Str × Value)} : (A.under (.builtin "type.__call__" ⟨.ref C :: us, kw⟩)).depth = A.depth + 1 := by
  first | rfl | simp [Around.under, Code.weight, Code.isCreation, Code.isGuard, Code.isCaller, Code.frames, Code.isFrame, guardIds]
theorem make_units {A : Around} {C : Addr} {us : List Value} {kw : List (Str × Value)} : (A.under (.builtin "type.__call__" ⟨.ref C :: us, kw⟩)).units = A.units + 1 := by
  first | rfl | simp [Around.under, Code.cUnits, Code.frames, Code.isFrame]
theorem Room.make {k : Nat} {A : Around} (r : Room (k + 1) A) (C : Addr) (us : List Value) (kw : List (Str × Value)) : Room k (A.under (.builtin "type.__call__" ⟨.ref C :: us, kw⟩)) :=
  ⟨r.hd, by have := r.dp; rw [make_depth]; omega, by have := r.un; rw [make_units]; omega⟩
theorem Room.depth {k : Nat} {A : Around} (r : Room k A) : A.depth < recursionLimit := by have := r.dp; omega
theorem Room.units {k : Nat} {A : Around} (r : Room k A) : A.units + 64 < cLine := by have := r.un; omega
theorem Room.units0 {k : Nat} {A : Around} (r : Room k A) : A.units < cLine := by have := r.un; omega

/-! ### argument lists and displays -/
def tNil : TA := fun _ H Q => Q [] H
def tCons (ta : TE) (tr : TA) : TA := fun σ H Q => ta σ H fun x H1 => tr σ H1 fun xs H2 => Q (x :: xs) H2
section
variable {X : Cx} {e : Expr} {es : List Expr} {te : TE} {t : TA} {pos : Pos}
theorem pa_nil : PA X [] tNil := fun _ _ _ _ H Q I h => Calls.spliced_nil ⟨[], H, I, .nil, h⟩
theorem pa_cons (ha : PE X e te) (hr : PA X es t) (hs : starEach (e :: es) X.env = (false, eval e X.env) :: starEach es X.env := by rfl) : PA X (e :: es) (tCons te t) := by
  intro pos pins s σ H Q I h
  rw [hs]
  show wpAny _ _ (spliced ((false, eval e X.env) :: backTo pos (starEach es X.env))) _ _ s
  refine Calls.spliced_cons (thn (ha pins s σ H _ I h) fun u s1 ⟨x, H1, I1, r1, q1⟩ => ?_)
  exact thn (hr pos pins s1 σ H1 _ I1 q1) fun us s2 ⟨xs, H2, I2, r2, q2⟩ => ⟨x :: xs, H2, I2, .cons r1 r2, q2⟩

/-- a tuple, a list of written items -/
def tTup (t : TA) : TE := fun σ H Q => t σ H fun xs H1 => xs.length ≤ sizeLine ∧ ∀ p, H1 p = none → Q (.ref p) (upd H1 p (.tup xs))
def tLst (t : TA) : TE := fun σ H Q => t σ H fun xs H1 => xs.length ≤ sizeLine ∧ ∀ p, H1 p = none → Q (.ref p) (upd H1 p (.lst xs))
theorem pe_tup {x1} (h : PA X es t) : PE X (.Tuple es x1 pos) (tTup t) := by
  intro pins s σ H Q I hq
  refine wpAny_Tuple_spliced (thn (h pos pins s σ H _ I hq) fun us s1 ⟨xs, H1, I1, r, z, q⟩ => ⟨by rw [← r.length]; exact z, ?_⟩)
  have hf : H1 s1.heap.objs.size = none := I1.hok.fresh (Nat.le_refl _)
  refine ⟨.ref s1.heap.objs.size, upd H1 s1.heap.objs.size (.tup xs), I1.laid (t' := s1.toks) (fun b u e => Heap.get?_push_of_some _ e) (Nat.le_refl _) ?_, rfl, q _ hf⟩
  exact ⟨z, us, r, ⟨_, Heap.get?_push_size _ rfl, rfl, _, rfl⟩⟩
theorem pe_lst (h : PA X es t) : PE X (.List es pos) (tLst t) := by
  intro pins s σ H Q I hq
  refine wpAny_List_spliced (thn (h pos pins s σ H _ I hq) fun us s1 ⟨xs, H1, I1, r, z, q⟩ => ⟨by rw [← r.length]; exact z, ?_⟩)
  have hf : H1 s1.heap.objs.size = none := I1.hok.fresh (Nat.le_refl _)
  refine ⟨.ref s1.heap.objs.size, upd H1 s1.heap.objs.size (.lst xs), I1.laid (t' := s1.toks) (fun b u e => Heap.get?_push_of_some _ e) (Nat.le_refl _) ?_, rfl, q _ hf⟩
  exact ⟨z, us, 0, r, Heap.get?_push_size _ rfl⟩
end

/-! ### what a def promises -/
/-- a def's promise: the bound arguments in the parameters' order, the heap, the wanted end, the wanted exception -/
abbrev Sp := List V → Hp → VK → XK → Prop
/-- how an exception lies behind a call (file 08 gives it): the callers' frames, abstract heap and state ahead of the call, the wish, the exception, the state -/
abbrev CXT := List Env → Hp → Shared → XK → Value → Shared → Prop

/-- the state at a call -/
structure Env0 (P : Program) (w : World) (K : PySem.W.Frag) (mg : Str → Option Value) (base : Heap) (A : Around) (outer : List Env) (s : Shared) (H : Hp) : Prop where
  frames : A.frames = some outer
  mod : Mod K mg base
  bs : ∀ b o, base.get? b = some o → s.heap.get? b = some o ∧ H b = none
  bsz : base.objs.size ≤ s.heap.objs.size
  funs : s.heap.FunFrames base outer
  frf : ∀ b ∈ frs outer, H b = none
  hok : HOk P w H s.heap
  bare : AllBare s.gens
/-- a call's end -/
def CE (outer : List Env) (P : Program) (w : World) (H : Hp) (s : Shared) (Q : VK) (u : Value) (s' : Shared) : Prop :=
  ∃ v H', s'.os = s.os ∧ AllBare s'.gens ∧ Un (frs outer) [] H H' s.heap s'.heap ∧ HOk P w H' s'.heap ∧ RelV v u ∧ Q v H'
def CR (CX : CXT) (outer : List Env) (P : Program) (w : World) (H : Hp) (s : Shared) (Q : VK) (E : XK) (r : Result) (s' : Shared) : Prop :=
  match r with
  | .ok (.ret u) => CE outer P w H s Q u s'
  | .ok _ => False
  | .error e => CX outer H s E e s'
structure FnOk (P : Program) (w : World) (K : PySem.W.Frag) (mg : Str → Option Value) (base : Heap) (CX : CXT) (k : Nat) (f : Addr) (fd : FuncData) (ps : List Str) (sp : Sp) : Prop where
  len : ∀ vs H Q E, sp vs H Q E → vs.length = ps.length
  run : ∀ (A : Around) (outer : List Env) (s : Shared) (H : Hp) (args : Args) (us : List Value) (vs : List V) (Q : VK) (E : XK), Room k A → Env0 P w K mg base A outer s H → BindsTo s fd args (ps.zip us) → Vals vs us → sp vs H Q E →
    codeAny (model P w) A (.call (.ref f) args) (CR CX outer P w H s Q E) s
theorem FnOk.mono {P : Program} {w : World} {K : PySem.W.Frag} {mg : Str → Option Value} {base : Heap} {CX : CXT} {j k : Nat} {f : Addr} {fd : FuncData} {ps : List Str} {sp : Sp} (F : FnOk P w K mg base CX j f fd ps sp) (h : j ≤ k) :
    FnOk P w K mg base CX k f fd ps sp := ⟨F.len, fun A outer s H args us vs Q E hr => F.run A outer s H args us vs Q E (hr.mono h)⟩
/-- a weaker promise -/
theorem FnOk.imp {P : Program} {w : World} {K : PySem.W.Frag} {mg : Str → Option Value} {base : Heap} {CX : CXT} {k : Nat} {f : Addr} {fd : FuncData} {ps : List Str} {sp sp' : Sp} (F : FnOk P w K mg base CX k f fd ps sp)
    (h : ∀ vs H Q E, sp' vs H Q E → sp vs H Q E) : FnOk P w K mg base CX k f fd ps sp' :=
  ⟨fun vs H Q E q => F.len vs H Q E (h _ _ _ _ q), fun A outer s H args us vs Q E hr he hb hv hs => F.run A outer s H args us vs Q E hr he hb hv (h _ _ _ _ hs)⟩

theorem Env0.make {P : Program} {w : World} {K : PySem.W.Frag} {mg : Str → Option Value} {base : Heap} {A : Around} {outer : List Env} {s : Shared} {H : Hp} (e : Env0 P w K mg base A outer s H) (C : Addr) (us : List Value) (kw : List (Str × Value)) :
    Env0 P w K mg base (A.under (.builtin "type.__call__" ⟨.ref C :: us, kw⟩)) outer s H := ⟨by first | exact e.frames | (simpa [Around.under, Code.envs, Code.isFrame, pushEnvs] using e.frames), e.mod, e.bs, e.bsz, e.funs, e.frf, e.hok, e.bare⟩
theorem Env0.in1 {P : Program} {w : World} {K : PySem.W.Frag} {mg : Str → Option Value} {base : Heap} {A : Around} {outer : List Env} {s : Shared} {H : Hp} (e : Env0 P w K mg base A outer s H) :
    Env0 P w K mg base A.in1 outer s H := ⟨e.frames, e.mod, e.bs, e.bsz, e.funs, e.frf, e.hok, e.bare⟩

section
variable {X : Cx} {pins : List (Addr × Obj)} {σ : St} {H : Hp} {s s' : Shared}
/-- from a body: what a callee wants -/
theorem Inv.env0 (I : Inv X pins σ H s) : Env0 X.prog X.w X.K X.mg X.base X.A X.stack s H :=
  ⟨I.ok.frames, I.ok.mod, I.bs, Nat.le_trans I.ok.bsz I.sz, I.stack, I.stkFree, I.hok, I.bare⟩
/-- behind a call -/
theorem Inv.after {Q : VK} {u : Value} (I : Inv X pins σ H s) (h : CE X.stack X.prog X.w H s Q u s') : EP X pins σ Q u s' := by
  obtain ⟨v, H', os, bare, un, hok, r, q⟩ := h
  obtain ⟨hh, g, d, t, os'⟩ := s'
  obtain rfl : os' = s.os := os
  exact ⟨v, H', I.call (h' := hh) (g' := g) (d' := d) (t' := t) (ch := []) un hok bare (fun b z => absurd z (by simp)), r, q⟩
end

/-! ### calls -/
/-- f(..): the written arguments, then the defaults dvs; E: what is wanted of an exception -/
def tCall (sp : Sp) (dvs : List V) (E : XK) (t : TA) : TE := fun σ H Q => t σ H fun vs H1 => sp (vs ++ dvs) H1 Q E
/-- o.m(..) of an instance of the class at C -/
def tMeth (C : Addr) (m : Str) (sp : Sp) (dvs : List V) (E : XK) (ta : TE) (t : TA) : TE := fun σ H Q => ta σ H fun x H1 => ∃ a dx fs, x = .ref a ∧ H1 a = some (.ins C dx fs) ∧ fs.lookup m = none ∧
  t σ H1 fun vs H2 => sp (x :: (vs ++ dvs)) H2 Q E
/-- C(..): a new instance and its dict, then __init__ -/
def tMake (C : Addr) (sp : Sp) (dvs : List V) (E : XK) (t : TA) : TE := fun σ H Q => t σ H fun vs H1 => ∀ x dx, H1 x = none → H1 dx = none → dx ≠ x →
  sp (.ref x :: (vs ++ dvs)) (upd (upd H1 dx (.own x)) x (.ins C dx [])) (fun v H2 => v = .non ∧ Q (.ref x) H2) E

/-- how the parameters are bound: us the positional arguments, kw the keywords' values by name, ds the defaults that fill up -/
def Binds (K : PySem.W.Frag) (fd : FuncData) (ps : List Str) (ds : List Value) : Prop :=
  ∀ (s : Shared) (us : List Value), K.In s.heap → (us ++ ds).length = ps.length → BindsTo s fd ⟨us, []⟩ (ps.zip (us ++ ds))
/-- every parameter is given -/
theorem Binds.all {K : PySem.W.Frag} {fd : FuncData} {ps : List Str} (h : ∀ us : List Value, us.length = ps.length → bindArgs fd ⟨us, []⟩ = pure (ps.zip us)) : Binds K fd ps [] := fun s us _ hl => by
  rw [List.append_nil] at hl ⊢
  exact .of_eq (h us hl)

/-- an exception of a callee reaches what this body wants of exceptions -/
def Passes (CX : CXT) (X : Cx) (E : XK) : Prop := ∀ (pins : List (Addr × Obj)) (σ : St) (H : Hp) (s : Shared) (e : Value) (s' : Shared), Inv X pins σ H s → CX X.stack H s E e s' → X.xe e s'

section
variable {X : Cx} {CX : CXT} {k : Nat} {f C : Addr} {fd : FuncData} {ps : List Str} {sp : Sp} {dvs : List V} {ds : List Value} {E : XK} {x m : Str} {p pos apos : Pos} {e o : Expr} {es : List Expr} {ta : TE} {t : TA}

/-- the callee runs -/
theorem run_fn {pins : List (Addr × Obj)} {σ : St} {H : Hp} {s : Shared} {Q : VK} {us : List Value} {vs : List V} (F : FnOk X.prog X.w X.K X.mg X.base CX k f fd ps sp) (hr : Room k X.A) (hb : Binds X.K fd ps ds) (hd : Vals dvs ds) (hx : Passes CX X E)
    (I : Inv X pins σ H s) (r : Vals vs us) (h : sp (vs ++ dvs) H Q E) : wpAny (model X.prog X.w) X.A (call (.ref f) us) (EP X pins σ Q) X.xe s := by
  have r2 : Vals (vs ++ dvs) (us ++ ds) := r.append hd
  have hl : (us ++ ds).length = ps.length := by rw [← r2.length]; exact F.len _ _ _ _ h
  refine wpAny_call (codeAny_mono (F.run X.A X.stack s H ⟨us, []⟩ (us ++ ds) (vs ++ dvs) Q E hr I.env0 (hb s us I.kIn hl) r2 h) fun r s' hq => ?_)
  cases r with
  | error e => exact hx pins σ H s e s' I hq
  | ok fl =>
    cases fl with
    | ret u => exact I.after hq
    | next => exact False.elim hq
    | brk => exact False.elim hq
    | cont => exact False.elim hq

theorem pe_call (F : FnOk X.prog X.w X.K X.mg X.base CX k f fd ps sp) (hr : Room k X.A) (hg : Gl X x) (hm : X.mg x = some (.ref f)) (hk : PySem.W.keepIn X.K (.ref f) = true) (hb : Binds X.K fd ps ds) (hd : Vals dvs ds) (hx : Passes CX X E)
    (ha : PA X (e :: es) t) (hdb : (x == ("__debug__" : Str)) = false := by decide) (he : starEach (e :: es) X.env = (false, eval e X.env) :: starEach es X.env := by rfl) (hpl : (backTo pos (starEach es X.env)).any (·.1) = false := by rfl) :
    PE X (.Call (.Name x p) (e :: es) [] pos) (tCall sp dvs E t) := by
  intro pins s σ H Q I h
  refine wpAny_Call_Name_kw (ld_glob I hg hm ?_ hdb)
  refine PySem.W.callWith_K (h₀ := X.base) I.ok.mod.kin hk (thn (ha pos pins s σ H _ I h) fun us s1 ⟨vs, H1, I1, r, q⟩ => ⟨I1.kIn, ?_⟩) he hpl
  exact run_fn F hr hb hd hx I1 r q
theorem pe_call0 (F : FnOk X.prog X.w X.K X.mg X.base CX k f fd ps sp) (hr : Room k X.A) (hg : Gl X x) (hm : X.mg x = some (.ref f)) (hk : PySem.W.keepIn X.K (.ref f) = true) (hb : Binds X.K fd ps ds) (hd : Vals dvs ds) (hx : Passes CX X E)
    (hdb : (x == ("__debug__" : Str)) = false := by decide) : PE X (.Call (.Name x p) [] [] pos) (tCall sp dvs E tNil) := by
  intro pins s σ H Q I h
  refine wpAny_Call_Name_kw (ld_glob I hg hm ?_ hdb)
  exact PySem.W.callWith_K0 I.kIn hk (run_fn (us := []) F hr hb hd hx I .nil h)

/-- o.m(e, ..) -/
theorem pe_meth {pl : Sem Bool} (he : PE X o ta) (c : Cls X.K C) (hm : Meth X.K C m f) (F : FnOk X.prog X.w X.K X.mg X.base CX k f fd ps sp) (hr : Room k X.A) (hb : Binds X.K fd ps ds) (hd : Vals dvs ds) (hx : Passes CX X E) (ha : PA X (e :: es) t)
    (hst : starEach (e :: es) X.env = (false, eval e X.env) :: starEach es X.env := by rfl) (hpl : (backTo pos (starEach es X.env)).any (·.1) = false := by rfl)
    (ht : eval (.Call (.Attribute o m apos) (e :: es) [] pos) X.env = (do
      let ov ← eval o X.env
      standAt apos.atName
      let (f, first) ← holding [ov] (getMethod ov m pl)
      callWith pos f first (backTo pos (starEach (e :: es) X.env)) (backToKw pos (keywordEach [] X.env))) := by rfl) :
    PE X (.Call (.Attribute o m apos) (e :: es) [] pos) (tMeth C m sp dvs E ta t) := by
  intro pins s σ H Q I h
  refine PySem.W.methodCall_KW (pl := pl) (thn (he pins s σ H _ I h) fun u s1 ⟨x, H1, I1, rx, a, dx, fs, ex, ea, l, q⟩ => ?_) ht
  subst ex
  obtain rfl : u = Value.ref a := rx
  refine getmeth_ok I1 ea c hm l ?_
  refine PySem.W.callWith_K (first := [.ref a]) (h₀ := X.base) I.ok.mod.kin hm.kp (thn (ha pos pins s1 σ H1 _ I1 q) fun us s2 ⟨vs, H2, I2, r, q2⟩ => ⟨I2.kIn, ?_⟩) hst hpl
  exact run_fn (us := .ref a :: us) (vs := .ref a :: vs) F hr hb hd hx I2 (.cons rfl r) q2
/-- o.m() -/
theorem pe_meth0 {pl : Sem Bool} (he : PE X o ta) (c : Cls X.K C) (hm : Meth X.K C m f) (F : FnOk X.prog X.w X.K X.mg X.base CX k f fd ps sp) (hr : Room k X.A) (hb : Binds X.K fd ps ds) (hd : Vals dvs ds) (hx : Passes CX X E)
    (ht : eval (.Call (.Attribute o m apos) [] [] pos) X.env = (do
      let ov ← eval o X.env
      standAt apos.atName
      let (f, first) ← holding [ov] (getMethod ov m pl)
      callWith pos f first (backTo pos (starEach [] X.env)) (backToKw pos (keywordEach [] X.env))) := by rfl) :
    PE X (.Call (.Attribute o m apos) [] [] pos) (tMeth C m sp dvs E ta tNil) := by
  intro pins s σ H Q I h
  refine PySem.W.methodCall_KW (pl := pl) (thn (he pins s σ H _ I h) fun u s1 ⟨x, H1, I1, rx, a, dx, fs, ex, ea, l, q⟩ => ?_) ht
  subst ex
  obtain rfl : u = Value.ref a := rx
  refine getmeth_ok I1 ea c hm l ?_
  exact PySem.W.callWith_K0 (first := [.ref a]) I1.kIn hm.kp (run_fn (us := [.ref a]) (vs := [.ref a]) F hr hb hd hx I1 (.cons rfl .nil) q)

/-- what a class must have to be made -/
structure Mk (K : PySem.W.Frag) (C f : Addr) : Prop where
  makes : PySem.W.makesIn K C = true
  init : PySem.W.findIn K (.ref C) "__init__" = some (some (.ref f))
  fn : PySem.W.isFn K (.ref f) = true
  kp : PySem.W.keepIn K (.ref C) = true

theorem run_make {pins : List (Addr × Obj)} {σ : St} {H : Hp} {s : Shared} {Q : VK} {us : List Value} {vs : List V} (M : Mk X.K C f) (F : FnOk X.prog X.w X.K X.mg X.base CX k f fd ps sp) (hr : Room (k + 1) X.A) (hb : Binds X.K fd ps ds) (hd : Vals dvs ds)
    (hx : Passes CX X E) (I : Inv X pins σ H s) (r : Vals vs us)
    (h : ∀ x dx, H x = none → H dx = none → dx ≠ x → sp (.ref x :: (vs ++ dvs)) (upd (upd H dx (.own x)) x (.ins C dx [])) (fun v H2 => v = .non ∧ Q (.ref x) H2) E) :
    wpAny (model X.prog X.w) X.A (call (.ref C) us) (EP X pins σ Q) X.xe s := by
  have hq := h (s.heap.objs.size + 1) s.heap.objs.size (I.hok.fresh (Nat.le_succ _)) (I.hok.fresh (Nat.le_refl _)) (Nat.ne_of_lt (Nat.lt_succ_self _))
  have I2 := Inv.made (C := C) I
  have r2 : Vals (V.ref (s.heap.objs.size + 1) :: (vs ++ dvs)) (Value.ref (s.heap.objs.size + 1) :: (us ++ ds)) := .cons rfl (r.append hd)
  have hl : (Value.ref (s.heap.objs.size + 1) :: us ++ ds).length = ps.length := by
    have e := r2.length
    rw [F.len _ _ _ _ hq] at e
    exact e.symm
  refine wpAny_call (make_map (f := f) I.kIn M.makes M.init (beq_iff_eq.mp M.fn) (codeAny_mono (F.run _ X.stack _ _ ⟨Value.ref (s.heap.objs.size + 1) :: us, []⟩ (Value.ref (s.heap.objs.size + 1) :: (us ++ ds)) _ _ E (hr.make C us [])
    (I2.env0.make C us []) (hb _ (Value.ref (s.heap.objs.size + 1) :: us) I2.kIn hl) r2 hq) fun r s' hq' => ?_))
  cases r with
  | error e => exact hx pins σ _ _ e s' I2 hq'
  | ok fl =>
    cases fl with
    | ret u =>
      obtain ⟨v, H', I3, rv, ev, q3⟩ := I2.after hq'
      subst ev
      exact ⟨rv, ⟨V.ref (s.heap.objs.size + 1), H', I3, rfl, q3⟩⟩
    | next => exact False.elim hq'
    | brk => exact False.elim hq'
    | cont => exact False.elim hq'
theorem pe_make (M : Mk X.K C f) (F : FnOk X.prog X.w X.K X.mg X.base CX k f fd ps sp) (hr : Room (k + 1) X.A) (hg : Gl X x) (hm : X.mg x = some (.ref C)) (hb : Binds X.K fd ps ds) (hd : Vals dvs ds) (hx : Passes CX X E)
    (ha : PA X (e :: es) t) (hdb : (x == ("__debug__" : Str)) = false := by decide) (he : starEach (e :: es) X.env = (false, eval e X.env) :: starEach es X.env := by rfl) (hpl : (backTo pos (starEach es X.env)).any (·.1) = false := by rfl) :
    PE X (.Call (.Name x p) (e :: es) [] pos) (tMake C sp dvs E t) := by
  intro pins s σ H Q I h
  refine wpAny_Call_Name_kw (ld_glob I hg hm ?_ hdb)
  refine PySem.W.callWith_K (h₀ := X.base) I.ok.mod.kin M.kp (thn (ha pos pins s σ H _ I h) fun us s1 ⟨vs, H1, I1, r, q⟩ => ⟨I1.kIn, ?_⟩) he hpl
  exact run_make M F hr hb hd hx I1 r q
theorem pe_make0 (M : Mk X.K C f) (F : FnOk X.prog X.w X.K X.mg X.base CX k f fd ps sp) (hr : Room (k + 1) X.A) (hg : Gl X x) (hm : X.mg x = some (.ref C)) (hb : Binds X.K fd ps ds) (hd : Vals dvs ds) (hx : Passes CX X E)
    (hdb : (x == ("__debug__" : Str)) = false := by decide) : PE X (.Call (.Name x p) [] [] pos) (tMake C sp dvs E tNil) := by
  intro pins s σ H Q I h
  refine wpAny_Call_Name_kw (ld_glob I hg hm ?_ hdb)
  exact PySem.W.callWith_K0 I.kIn M.kp (run_make (us := []) M F hr hb hd hx I .nil h)
end

/-! ### keywords -/
/-- the values of the keywords, from the left -/
def PK (X : Cx) (kws : List Keyword) (t : TA) : Prop :=
  ∀ (pos : Pos) (pins : List (Addr × Obj)) (s : Shared) (σ : St) (H : Hp) (Q : List V → Hp → Prop), Inv X pins σ H s → t σ H Q → wpAny (model X.prog X.w) X.A (evalAll ((backToKw pos (keywordEach kws X.env)).map (·.2))) (AP X pins σ Q) X.xe s
section
variable {X : Cx} {CX : CXT} {k : Nat} {f C : Addr} {fd : FuncData} {ps ks : List Str} {sp : Sp} {E : XK} {x m : Str} {p pos apos kpos : Pos} {e o : Expr} {es : List Expr} {kws : List Keyword} {te ta : TE} {t tk : TA} {nm : Option Str}
theorem pk_nil : PK X [] tNil := fun _ _ _ _ H Q I h => wpAny_evalAll_nil ⟨[], H, I, .nil, h⟩
theorem pk_cons (ha : PE X e te) (hr : PK X kws t) : PK X (⟨nm, e, kpos⟩ :: kws) (tCons te t) := by
  intro pos pins s σ H Q I h
  show wpAny _ _ (evalAll ((do let v ← eval e X.env; standAt pos; pure v) :: (backToKw pos (keywordEach kws X.env)).map (·.2))) _ _ s
  refine wpAny_evalAll_cons (wpAny_bind (thn (ha pins s σ H _ I h) fun u s1 ⟨x, H1, I1, r1, q1⟩ => wpAny_bind (wpAny_standAt (wpAny_pure ?_))))
  exact thn (hr pos pins s1 σ H1 _ I1 q1) fun us s2 ⟨xs, H2, I2, r2, q2⟩ => ⟨x :: xs, H2, I2, .cons r1 r2, q2⟩

/-- how a call with keywords binds: g puts the positional values us and the keywords' values ws (names ks) in the parameters' order, defaults among them -/
structure KBinds (K : PySem.W.Frag) (fd : FuncData) (ps ks : List Str) (g : List Value → List Value → List Value) (gV : List V → List V → List V) : Prop where
  to : ∀ (s : Shared) (us ws : List Value), K.In s.heap → (g us ws).length = ps.length → BindsTo s fd ⟨us, ks.zip ws⟩ (ps.zip (g us ws))
  rel : ∀ {vs : List V} {us : List Value} {zs : List V} {ws : List Value}, Vals vs us → Vals zs ws → Vals (gV vs zs) (g us ws)
def tCallK (sp : Sp) (gV : List V → List V → List V) (E : XK) (t tk : TA) : TE := fun σ H Q => t σ H fun vs H1 => tk σ H1 fun zs H2 => sp (gV vs zs) H2 Q E
variable {g : List Value → List Value → List Value} {gV : List V → List V → List V}
theorem run_fnk {pins : List (Addr × Obj)} {σ : St} {H : Hp} {s : Shared} {Q : VK} {us ws : List Value} {vs zs : List V} (F : FnOk X.prog X.w X.K X.mg X.base CX k f fd ps sp) (hr : Room k X.A) (hb : KBinds X.K fd ps ks g gV) (hx : Passes CX X E)
    (I : Inv X pins σ H s) (r : Vals vs us) (rz : Vals zs ws) (h : sp (gV vs zs) H Q E) : wpAny (model X.prog X.w) X.A (call (.ref f) us (ks.zip ws)) (EP X pins σ Q) X.xe s := by
  have r2 := hb.rel r rz
  have hl : (g us ws).length = ps.length := by rw [← r2.length]; exact F.len _ _ _ _ h
  refine wpAny_call (codeAny_mono (F.run X.A X.stack s H ⟨us, ks.zip ws⟩ (g us ws) (gV vs zs) Q E hr I.env0 (hb.to s us ws I.kIn hl) r2 h) fun r s' hq => ?_)
  cases r with
  | error e => exact hx pins σ H s e s' I hq
  | ok fl =>
    cases fl with
    | ret u => exact I.after hq
    | next => exact False.elim hq
    | brk => exact False.elim hq
    | cont => exact False.elim hq
/-- f(e, .., k = v, ..) -/
theorem pe_callK (F : FnOk X.prog X.w X.K X.mg X.base CX k f fd ps sp) (hr : Room k X.A) (hg : Gl X x) (hm : X.mg x = some (.ref f)) (hk : PySem.W.keepIn X.K (.ref f) = true) (hb : KBinds X.K fd ps ks g gV) (hx : Passes CX X E)
    (ha : PA X (e :: es) t) (hkw : PK X kws tk) (hall : (backToKw pos (keywordEach kws X.env)).all (·.1.isSome) = true := by rfl) (hks : (backToKw pos (keywordEach kws X.env)).filterMap (·.1) = ks := by rfl)
    (hdb : (x == ("__debug__" : Str)) = false := by decide) (he : starEach (e :: es) X.env = (false, eval e X.env) :: starEach es X.env := by rfl)
    (hpl : ((backTo pos (starEach (e :: es) X.env)).any (·.1) || (backToKw pos (keywordEach kws X.env)).any (·.1.isNone)) = false := by rfl) :
    PE X (.Call (.Name x p) (e :: es) kws pos) (tCallK sp gV E t tk) := by
  intro pins s σ H Q I h
  refine wpAny_Call_Name_kw (ld_glob I hg hm ?_ hdb)
  refine PySem.W.callWith_KW (h₀ := X.base) I.ok.mod.kin hk hall (thn (ha pos pins s σ H _ I h) fun us s1 ⟨vs, H1, I1, r, q⟩ => ?_) hpl he
  refine thn (hkw pos pins s1 σ H1 _ I1 q) fun ws s2 ⟨zs, H2, I2, rz, q2⟩ => ⟨I2.kIn, ?_⟩
  rw [hks]
  exact run_fnk F hr hb hx I2 r rz q2
end

/-! ### a def's body keeps its promise -/
/-- names: the parameters first -/
structure FnScope (N P : List Str) (sc : Scope) : Prop where
  kind : sc.kind = .function
  co : sc.isCoroutine = false
  gen : sc.isGenerator = false
  nd : N.Nodup
  pre : N.take P.length = P
  par : ∀ x ∈ P, sc.names.lookup x = some .local ∨ sc.names.lookup x = some .cell
  nofree : ∀ y ∈ sc.names, y.2 ≠ .free

theorem bindL_out {kindOf : Str → Option NameKind} {x : Str} : ∀ {binds : List (Str × Value)} {m : Str → Option Value}, (∀ v, (x, v) ∉ binds) → bindL kindOf binds m x = m x
  | [], _, _ => rfl
  | (n, v) :: r, m, h => by
    unfold bindL
    rw [bindL_out fun w hw => h w (List.mem_cons_of_mem _ hw)]
    split
    · have : x ≠ n := by rintro rfl; exact h v List.mem_cons_self
      simp [this]
    · rfl
theorem bindC_out {kindOf : Str → Option NameKind} {x : Str} : ∀ {binds : List (Str × Value)} {m : Str → Option Value}, (∀ v, (x, v) ∉ binds) → bindC kindOf binds m x = m x
  | [], _, _ => rfl
  | (n, v) :: r, m, h => by
    unfold bindC
    rw [bindC_out fun w hw => h w (List.mem_cons_of_mem _ hw)]
    split
    · rfl
    · have : x ≠ n := by rintro rfl; exact h v List.mem_cons_self
      simp [this]
theorem bindL_get {kindOf : Str → Option NameKind} {x : Str} {v : Value} : ∀ {P : List Str} {vs : List Value} {i : Nat} {m : Str → Option Value}, P.Nodup → P[i]? = some x → vs[i]? = some v → kindOf x = some .local →
    bindL kindOf (P.zip vs) m x = some v
  | [], _, _, _, _, h, _, _ => by simp at h
  | _ :: _, [], _, _, _, _, h, _ => by simp at h
  | p :: P, w :: vs, 0, m, nd, h1, h2, hk => by
    simp at h1 h2; subst h1; subst h2
    show bindL kindOf ((p, w) :: P.zip vs) m p = _
    unfold bindL
    rw [bindL_out fun v hv => (List.nodup_cons.mp nd).1 (List.of_mem_zip hv).1, if_pos hk]
    simp
  | p :: P, w :: vs, i + 1, m, nd, h1, h2, hk => by
    show bindL kindOf ((p, w) :: P.zip vs) m x = _
    unfold bindL
    exact bindL_get (i := i) (List.nodup_cons.mp nd).2 (by simpa using h1) (by simpa using h2) hk
theorem bindC_get {kindOf : Str → Option NameKind} {x : Str} {v : Value} : ∀ {P : List Str} {vs : List Value} {i : Nat} {m : Str → Option Value}, P.Nodup → P[i]? = some x → vs[i]? = some v → kindOf x ≠ some .local →
    bindC kindOf (P.zip vs) m x = some v
  | [], _, _, _, _, h, _, _ => by simp at h
  | _ :: _, [], _, _, _, _, h, _ => by simp at h
  | p :: P, w :: vs, 0, m, nd, h1, h2, hk => by
    simp at h1 h2; subst h1; subst h2
    show bindC kindOf ((p, w) :: P.zip vs) m p = _
    unfold bindC
    rw [bindC_out fun v hv => (List.nodup_cons.mp nd).1 (List.of_mem_zip hv).1, if_neg hk]
    simp
  | p :: P, w :: vs, i + 1, m, nd, h1, h2, hk => by
    show bindC kindOf ((p, w) :: P.zip vs) m x = _
    unfold bindC
    exact bindC_get (i := i) (List.nodup_cons.mp nd).2 (by simpa using h1) (by simpa using h2) hk

/-- the names' values at the entry -/
def start (N : List Str) (vs : List V) : St := vs.map some ++ List.replicate (N.length - vs.length) none

/-- the context of a def's body, at its entry; an exception leaves the frame, then lies as CX says -/
def cxOf (CX : CXT) (P : Program) (w : World) (K : PySem.W.Frag) (mg : Str → Option Value) (base : Heap) (N : List Str) (qual : Str) (scope : Scope) (f : Addr) (cd : Value) (A : Around) (outer : List Env) (s : Shared) (H : Hp) (E : XK) : Cx where
  prog := P
  w := w
  K := K
  mg := mg
  base := base
  A := A.deeper (envOfC qual scope s.heap.objs.size f cd)
  N := N
  s_0 := s
  H_0 := H
  env := envOfC qual scope s.heap.objs.size f cd
  outer := outer
  stack := envOfC qual scope s.heap.objs.size f cd :: outer
  ex := []
  calm := true
  fn := fun _ => true
  pn := []
  xe := fun e s' => wpAny (model P w) (A.deeper (envOfC qual scope s.heap.objs.size f cd)) (leaving (envOfC qual scope s.heap.objs.size f cd) e) (fun _ s'' => CX outer H s E e s'') (fun e' s'' => CX outer H s E e' s'') s'

theorem cell_has {sc : Scope} {n : Nat} {x : Str} (h : sc.names.lookup x = some .cell) : ∃ c, (cellsFrom n sc.names []).lookup x = some c := by
  have q := PySem.W.cellsFrom_some sc.names n [] (.inl h)
  exact Option.isSome_iff_exists.mp q

theorem inv_start {CX : CXT} {P : Program} {w : World} {K : PySem.W.Frag} {mg : Str → Option Value} {base : Heap} {N ps : List Str} {qual : Str} {scope : Scope} {f : Addr} {cd : Value} {A : Around} {outer : List Env} {s s1 : Shared} {H : Hp} {E : XK} {us : List Value} {vs : List V}
    (S : FnScope N ps scope) (hd : A.handled = none) (e0 : Env0 P w K mg base A outer s H) (hl : vs.length = ps.length) (r : Vals vs us)
    (x : InCallC s s.heap.objs.size (bindL (envOfC qual scope s.heap.objs.size f cd).kindOf (ps.zip us) fun _ => none) (cellsFrom (s.heap.objs.size + 1) scope.names []) (bindC (envOfC qual scope s.heap.objs.size f cd).kindOf (ps.zip us) fun _ => none) s1) :
    Inv (cxOf CX P w K mg base N qual scope f cd A outer s H E) [] (start N vs) H s1 := by
  have hpl : ps.length ≤ N.length := by have := congrArg List.length S.pre; rw [List.length_take] at this; omega
  obtain ⟨h1, tk, rfl, hk⟩ := x.done
  have noA : ∀ b : Addr, b ∉ (cxOf CX P w K mg base N qual scope f cd A outer s H E).ex := fun b z => absurd (show b ∈ ([] : List Addr) from z) (by simp)
  refine ⟨⟨e0.mod, S.kind, rfl, rfl, Nat.le_refl _, fun y z c h1 h2 => ?_, fun y hy => ?_, fun y c _ h => ?_, fun _ => hd, Around.frames_deeper e0.frames, .inr ⟨rfl, rfl⟩, fun b z => absurd z (noA b), e0.bs, e0.bsz, fun b _ _ => noA b, fun b z => absurd z (noA b), e0.funs, e0.frf⟩,
    rfl, e0.bare, Un.kept hk, ⟨_, x.toInCall.ns, fun i y v h1 h2 h3 => ?_⟩, fun y c h => ⟨_, x.cell y c h⟩, e0.hok.fresh (Nat.le_refl _), fun y c h => ?_, fun p hp => absurd (show p ∈ ([] : List (Addr × Obj)) from hp) (by simp), e0.hok.kept hk, ?_⟩
  · exact name_of_addr x.apart (PySem.mem_of_lookup h1) (PySem.mem_of_lookup h2)
  · have hy : scope.names.lookup y = some .cell ∨ scope.names.lookup y = some .free := hy
    rcases hy with hy | hy
    · exact cell_has hy
    · exact absurd rfl (S.nofree _ (PySem.mem_of_lookup hy))
  · exact Nat.le_of_lt (x.above y c (PySem.mem_of_lookup h))
  · have hi : i < vs.length := by
      unfold start at h2
      by_cases hi : i < vs.length
      · exact hi
      · rw [List.getElem?_append_right (by simpa using hi)] at h2
        rw [List.getElem?_replicate] at h2
        split at h2 <;> cases h2
    have ha : vs[i]? = some v := by
      unfold start at h2
      rw [List.getElem?_append_left (by simpa using hi), List.getElem?_map] at h2
      cases e : vs[i]? with
      | none => rw [e] at h2; cases h2
      | some a => rw [e] at h2; cases h2; rfl
    obtain ⟨u, hu, rv⟩ := r.get ha
    have hp : ps[i]? = some y := by
      rw [← S.pre, List.getElem?_take_of_lt (by omega)]; exact h1
    have ndP : ps.Nodup := by rw [← S.pre]; exact S.nd.sublist (List.take_sublist _ _)
    refine ⟨u, rv, ?_⟩
    rcases S.par y (List.mem_of_getElem? hp) with k | k
    · exact .inl ⟨k, bindL_get ndP hp hu k⟩
    · obtain ⟨c, e⟩ := cell_has (n := s.heap.objs.size + 1) k
      refine .inr ⟨.inl k, c, e, ?_⟩
      have q := x.cell y c e
      rw [bindC_get ndP hp hu (by show scope.names.lookup y ≠ _; rw [k]; decide)] at q
      exact q
  · exact e0.hok.fresh (Nat.le_of_lt (x.above y c (PySem.mem_of_lookup h)))
  · unfold start
    show _ = N.length
    rw [List.length_append, List.length_map, List.length_replicate]
    omega

/-- THE RULE: a def (or a method) of the text, by its body. The body's reading t is chosen for each entry; it is run at the parameters' values -/
theorem fn_of {CX : CXT} {P : Program} {w : World} {K : PySem.W.Frag} {mg : Str → Option Value} {base : Heap} {k : Nat} {f : Addr} {name qual : Str} {params : Arguments} {body : List Stmt} {scope : Scope} {dV kV doc pm cdv ct oc : Value} {an od : Option Addr}
    {osl : Array (Option Value)} {N ps : List Str} {sp : Sp} (lk : K.lookup f = some ⟨oc, od, .func (PySem.W.fnOf name qual params body scope dV kV doc pm an cdv ct), osl⟩) (hcd : PySem.W.codeIn K cdv qual = true) (S : FnScope N ps scope)
    (len : ∀ vs H Q E, sp vs H Q E → vs.length = ps.length)
    (hbody : ∀ (A : Around) (outer : List Env) (s : Shared) (H : Hp) (vs : List V) (Q : VK) (E : XK), Room k (A.deeper (envOfC qual scope s.heap.objs.size f cdv)) → sp vs H Q E →
      ∃ t, PSs (cxOf CX P w K mg base N qual scope f cdv A outer s H E) body t ∧ t { nx := fun _ H' => Q .non H', rt := Q } (start N vs) H) :
    FnOk P w K mg base CX (k + 1) f (PySem.W.fnOf name qual params body scope dV kV doc pm an cdv ct) ps sp := by
  refine ⟨len, fun A outer s H args us vs Q E hr e0 hb r hsp => ?_⟩
  have hl := len _ _ _ _ hsp
  have KX : K.In s.heap := e0.mod.kin.keeps fun b o e => (e0.bs b o e).1
  have lim : s.heap.NoLimit := e0.mod.nolimit.keeps fun b o e => (e0.bs b o e).1
  have hkind : ∀ y ∈ ps.zip us, scope.names.lookup y.1 = some .local ∨ (scope.names.lookup y.1 = some .cell ∧ ((cellsFrom (s.heap.objs.size + 1) scope.names []).lookup y.1).isSome = true) := fun ⟨n, v⟩ hy => by
    rcases S.par n (List.of_mem_zip hy).1 with q | q
    · exact .inl q
    · exact .inr ⟨q, PySem.W.cellsFrom_some _ _ _ (.inl q)⟩
  refine codeAny_call_function hr.depth (KX _ _ lk) rfl S.co S.gen rfl (PySem.W.codeRec_of KX hcd) (hb _ _ _ _ ?_)
  refine wpAny_newFunctionEnv_cells S.kind hkind fun env he s1 x => ?_
  subst he
  refine ⟨lim.keeps x.toInCall.keep, codeAny_func ?_⟩
  obtain ⟨t, ht, hq⟩ := hbody A outer s H vs Q E (hr.deeper _) hsp
  have I : Inv (cxOf CX P w K mg base N qual scope f cdv A outer s H E) [] (start N vs) H s1 := inv_start S hr.hd e0 hl r x
  refine wpAny_mono (ht [] s1 (start N vs) H _ I hq) (fun fl s' hs => ?_) fun e s' hs => hs
  have fin : ∀ {σ' : St} {H' : Hp} {v : V} {u : Value}, Inv (cxOf CX P w K mg base N qual scope f cdv A outer s H E) [] σ' H' s' → RelV v u → Q v H' → CE outer P w H s Q u s' :=
    fun {σ' H' v u} J rv q => ⟨v, H', J.os, J.bare, J.base, J.hok, rv, q⟩
  cases fl with
  | ret u =>
    obtain ⟨v, σ', H', J, rv, q⟩ := hs
    exact fin J rv q
  | next =>
    obtain ⟨σ', H', J, q⟩ := hs
    exact fin (v := V.non) (u := Value.none) J rfl q
  | brk =>
    obtain ⟨_, _, _, q⟩ := hs
    exact False.elim q
  | cont =>
    obtain ⟨_, _, _, q⟩ := hs
    exact False.elim q
end L2

namespace L2
open PySem PySem.Spec PyProof.Rows
section
variable {X : Cx} {x : Str} {p pos : Pos} {e : Expr} {es : List Expr} {t : TA} {id T : String} {r : List V → Hp → VK → Prop}

def tCB (r : List V → Hp → VK → Prop) (t : TA) : TE := fun σ H Q => t σ H fun vs H1 => r vs H1 Q
/-- f(e, ..), f a built-in function -/
theorem pe_callB (hc : CallR X (.builtin id) r) (hg : Gl X x) (hm : X.mg x = none) (hv : bootBuiltins x = some (.builtin id)) (ha : PA X (e :: es) t) (hn : x ≠ "__name__" := by decide) (hdb : (x == ("__debug__" : Str)) = false := by decide)
    (he : starEach (e :: es) X.env = (false, eval e X.env) :: starEach es X.env := by rfl) (hpl : (backTo pos (starEach es X.env)).any (·.1) = false := by rfl) : PE X (.Call (.Name x p) (e :: es) [] pos) (tCB r t) := by
  intro pins s σ H Q I h
  refine wpAny_Call_Name_kw (ld_blt I hg hm hv ?_ hn hdb)
  exact PyProof.Rows.callWith_builtin1 (thn (ha pos pins s σ H _ I h) fun us s1 ⟨vs, H1, I1, r1, q1⟩ => hc pins s1 σ H1 vs us Q I1 r1 q1) he hpl
/-- T(e, ..), T a built-in type -/
theorem pe_callTy (hc : CallR X (.type T) r) (hg : Gl X x) (hm : X.mg x = none) (hv : bootBuiltins x = some (.type T)) (ha : PA X (e :: es) t) (hn : x ≠ "__name__" := by decide) (hdb : (x == ("__debug__" : Str)) = false := by decide)
    (he : starEach (e :: es) X.env = (false, eval e X.env) :: starEach es X.env := by rfl) (hpl : (backTo pos (starEach es X.env)).any (·.1) = false := by rfl) : PE X (.Call (.Name x p) (e :: es) [] pos) (tCB r t) := by
  intro pins s σ H Q I h
  refine wpAny_Call_Name_kw (ld_blt I hg hm hv ?_ hn hdb)
  exact PyProof.Rows.callWith_type1 (thn (ha pos pins s σ H _ I h) fun us s1 ⟨vs, H1, I1, r1, q1⟩ => hc pins s1 σ H1 vs us Q I1 r1 q1) he hpl
/-- T() -/
theorem pe_callTy0 (hc : CallR X (.type T) r) (hg : Gl X x) (hm : X.mg x = none) (hv : bootBuiltins x = some (.type T)) (hn : x ≠ "__name__" := by decide) (hdb : (x == ("__debug__" : Str)) = false := by decide) :
    PE X (.Call (.Name x p) [] [] pos) (tCB r tNil) := by
  intro pins s σ H Q I h
  refine wpAny_Call_Name_kw (ld_blt I hg hm hv ?_ hn hdb)
  exact PyProof.Rows.callWith_type0 (hc pins s σ H [] [] Q I .nil h)
end
end L2

namespace HT
open PySem PyProof.Rows

/-- t < u of tuples of ints -/
def lexLt : List Int → List Int → Bool
  | [], [] => false
  | [], _ :: _ => true
  | _ :: _, [] => false
  | x :: xs, y :: ys => if x = y then lexLt xs ys else decide (x < y)
theorem lexLt_cons (x y : Int) (xs ys : List Int) : lexLt (x :: xs) (y :: ys) = if x = y then lexLt xs ys else decide (x < y) := rfl
theorem lexLt_nil_nil : lexLt [] [] = false := rfl
theorem lexLt_nil_cons (y : Int) (ys : List Int) : lexLt [] (y :: ys) = true := rfl
theorem lexLt_cons_nil (x : Int) (xs : List Int) : lexLt (x :: xs) [] = false := rfl

theorem eqAt_int (A : Around) (s : Shared) (a : Int) (t : Tok) (c : Int) (u : Tok) : ∃ e, SeqAt.EqAt A s (.int a t) (.int c u) e ∧ (e = true ↔ a = c) :=
  ⟨(a == c), SeqAt.EqAt.int_int a t c u, by simp⟩
theorem rcLt_int (A : Around) (s : Shared) (a : Int) (t : Tok) (c : Int) (u : Tok) (prog : Program) (w : World) (E : Value → Shared → Prop) (Q : Value → Shared → Prop) (h : Q (.bool (decide (a < c))) s) :
    wpAny (model prog w) A (richCompare .Lt (.int a t) (.int c u)) Q E s :=
  (PyProof.Rows.lt_int h : wpAny (model prog w) A (compareOp .Lt (.int a t) (.int c u)) Q E s)

section
open PySem.SeqAt
open PySem.AutoSeq1 (wpAny_loadPart')
open PySem.MeetsSeq PySem.MeetsSeq2 PySem.MeetsSeq3

theorem tuple_lt_ints (l b : Addr) (items items2 : Array Value) (n n2 : Nat) (dd dd2 : Option Addr) (sl sl2 : Array (Option Value)) (ns ms : List Int) (hi : IntsAre items.toList ns) (hj : IntsAre items2.toList ms) :
    Meets (Builtin.«tuple.__lt__» ⟨[.ref l, .ref b], []⟩)
      (fun _ R s => s.heap.get? l = some { cls := .type "tuple", dict := dd, data := .seq items n, slots := sl } ∧ s.heap.get? b = some { cls := .type "tuple", dict := dd2, data := .seq items2 n2, slots := sl2 } ∧
        R (.ok (.ret (.bool (lexLt ns ms)))) s) :=
  .of_wp fun prog w A R s h => by
    obtain ⟨hp, g, d, tk, os⟩ := s; obtain ⟨hl, hb, h⟩ := h
    have f2 := AutoSeq1.sub_tuple_tuple
    have z1 : items.size = ns.length := by rw [← hi.length]; simp
    have z2 : items2.size = ms.length := by rw [← hj.length]; simp
    wp_walk using wpAny_loadPart' hl, wpAny_loadPart' hb, wpAny_forIn_list _ (fun rest b s' => b.1 = none ∧ s' = ⟨hp, g, d, tk, os⟩ ∧ ∃ (vs ws : List Value) (ns' ms' : List Int), rest = vs.zip ws ∧
      IntsAre vs ns' ∧ IntsAre ws ms' ∧ ns'.length + items2.size = ms'.length + items.size ∧ R (.ok (.ret (.bool (lexLt ns' ms')))) ⟨hp, g, d, tk, os⟩) _
    case turn =>
      rintro ⟨y, x⟩ rest b s' ⟨hb', rfl, vs, ws, ns', ms', hz, hvi, hwi, hlen, hR⟩
      cases hvi with
      | nil => rw [List.zip_nil_left] at hz; cases hz
      | cons a t hvi' =>
        cases hwi with
        | nil => rw [List.zip_nil_right] at hz; cases hz
        | cons c u hwi' =>
          rw [List.zip_cons_cons] at hz
          injection hz with hyx hrest
          injection hyx with hy hx
          subst hy hx
          rw [lexLt_cons] at hR
          simp only [List.length_cons] at hlen
          obtain ⟨e, he, hiff⟩ := eqAt_int A.in1 ⟨hp, g, d, tk, os⟩ a t c u
          refine wpAny_bind (he prog w _ _ ?_)
          cases e with
          | true =>
            rw [if_pos (hiff.mp rfl)] at hR
            wp_walk
            exact ⟨rfl, rfl, _, _, _, _, hrest, hvi', hwi', by omega, hR⟩
          | false =>
            rw [if_neg (fun q => absurd (hiff.mpr q) Bool.false_ne_true)] at hR
            have hri := rcLt_int A.in1 ⟨hp, g, d, tk, os⟩ a t c u prog w
            wp_walk using hri
            exact ⟨_, rfl, by simpa using hR⟩
    case fin =>
      rintro ⟨b1, b2⟩ s' ⟨hb', rfl, vs, ws, ns', ms', hz, hvi, hwi, hlen, hR⟩
      simp only at hb'
      subst hb'
      have hv : lexLt ns' ms' = decide (items.size < items2.size) := by
        cases hvi with
        | nil =>
          cases hwi with
          | nil =>
            simp only [List.length_nil] at hlen
            rw [lexLt_nil_nil]
            exact (decide_eq_false (by omega)).symm
          | cons c u hw =>
            simp only [List.length_nil, List.length_cons] at hlen
            rw [lexLt_nil_cons]
            exact (decide_eq_true (by omega)).symm
        | cons a t hv =>
          cases hwi with
          | nil =>
            simp only [List.length_nil, List.length_cons] at hlen
            rw [lexLt_cons_nil]
            exact (decide_eq_false (by omega)).symm
          | cons c u hw =>
            rw [List.zip_cons_cons] at hz
            cases hz
      rw [hv] at hR
      wp_walk
      exact ⟨_, rfl, by simpa [Builtin.Tuple.tupleCompareSizes] using hR⟩
    case h =>
      exact ⟨rfl, rfl, items.toList, items2.toList, ns, ms, rfl, hi, hj, by omega, h⟩
end

section
variable {prog : Program} {w : World} {A : Around} {E : Value → Shared → Prop} {s : Shared}

theorem lt_tupInts {l b : Addr} {items items2 : Array Value} {ns ms : List Int} {Q : Value → Shared → Prop} (hl : IsTup s.heap l items) (hb : IsTup s.heap b items2) (hi : IntsAre items.toList ns) (hj : IntsAre items2.toList ms)
    (hu : A.units < cLine) (h : Q (.bool (lexLt ns ms)) s) : wpAny (model prog w) A (compareOp .Lt (.ref l) (.ref b)) Q E s := by
  obtain ⟨⟨cls, dd, data, sl⟩, ho, hc, n, hd⟩ := id hl
  obtain ⟨⟨cls2, dd2, data2, sl2⟩, ho2, hc2, n2, hd2⟩ := id hb
  simp only at hc hd hc2 hd2
  subst hc hd hc2 hd2
  exact richCompare_meets_room (op := .Lt) ⟨_, ho, rfl⟩ ⟨_, ho2, rfl⟩ PySem.F.slot_tuple_lt PySem.F.entry_tuple_lt (PySem.F.args_tuple_lt_2 _ _) (tuple_lt_ints l b items items2 n n2 dd dd2 sl sl2 ns ms hi hj)
    ⟨ho, ho2, show Value.bool (lexLt ns ms) ≠ Value.notImplemented ∧ Q (.bool (lexLt ns ms)) s from ⟨(fun x => nomatch x), h⟩⟩ hu

/-- t + u, t not empty -/
theorem cat_tup {t b : Addr} {vs ws : List Value} {Q : Value → Shared → Prop} (ht : IsTup s.heap t vs.toArray) (hb : IsTup s.heap b ws.toArray) (hv : vs ≠ [])
    (h1 : ws = [] → Q (.ref t) s) (h2 : ws ≠ [] → Q (.ref s.heap.objs.size) { s with heap := s.heap.push { cls := .type "tuple", data := .seq (vs ++ ws).toArray } })
    (hsz : vs.length + ws.length ≤ sizeLine) : wpAny (model prog w) A (binaryOp .Add (.ref t) (.ref b)) Q E s := by
  obtain ⟨⟨cls, dd, data, sl⟩, ho, hc, n, hd⟩ := id ht
  obtain ⟨⟨cls2, dd2, data2, sl2⟩, ho2, hc2, n2, hd2⟩ := id hb
  simp only at hc hd hc2 hd2
  subst hc hd hc2 hd2
  have e : vs.toArray ++ ws.toArray = (vs ++ ws).toArray := by simp
  by_cases hw : ws = []
  · exact concat_meets ⟨_, ho, rfl⟩ ⟨_, ho2, rfl⟩ noFill_tuple_add seq_tuple_add PySem.F.slot_tuple_add PySem.F.entry_tuple_add (PySem.F.args_tuple_add_2 _ _)
      (tuple_addW1 t b vs.toArray ws.toArray n n2 dd dd2 sl sl2 (by simpa using hv) (by simp [hw])) ⟨ho, ho2, h1 hw⟩
  · refine concat_meets ⟨_, ho, rfl⟩ ⟨_, ho2, rfl⟩ noFill_tuple_add seq_tuple_add PySem.F.slot_tuple_add PySem.F.entry_tuple_add (PySem.F.args_tuple_add_2 _ _)
      (tuple_addW2 t b vs.toArray ws.toArray n n2 dd dd2 sl sl2 (by simpa using hv) (by simpa using hw) (by rw [List.size_toArray, List.size_toArray]; exact hsz)) ⟨ho, ho2, ?_⟩
    rw [e]
    exact h2 hw

/-! ### t[a:b], not the whole -/
/-- a slice's bound as a place among n (d where it is left out) -/
def sIx (n d : Nat) : Option Int → Nat
  | none => d
  | some v => if v < 0 then (v + (n : Int)).toNat else min v.toNat n
theorem sIx_none (n d : Nat) : sIx n d none = d := rfl
theorem sIx_nat (n d k : Nat) : sIx n d (some (k : Int)) = min k n := by
  show (if (k : Int) < 0 then ((k : Int) + (n : Int)).toNat else min (k : Int).toNat n) = min k n
  rw [if_neg (by omega), Int.toNat_natCast]
theorem sIx_le (n d : Nat) (hd : d ≤ n) (o : Option Int) : sIx n d o ≤ n := by
  cases o with
  | none => exact hd
  | some v =>
    show (if v < 0 then (v + (n : Int)).toNat else min v.toNat n) ≤ n
    by_cases hv : v < 0
    · rw [if_pos hv]; omega
    · rw [if_neg hv]; exact Nat.min_le_right _ _
theorem clip_eq (v : Int) (n d : Nat) : (if v < 0 then max (v + (n : Int)) 0 else min v (n : Int)) = ((sIx n d (some v) : Nat) : Int) := by
  show (if v < 0 then max (v + (n : Int)) 0 else min v (n : Int)) = (((if v < 0 then (v + (n : Int)).toNat else min v.toNat n) : Nat) : Int)
  by_cases hv : v < 0
  · simp only [if_pos hv]; omega
  · simp only [if_neg hv]; omega
theorem adjust_gen (lo hi : Option Int) (n : Nat) : Builtin.Slice.sliceAdjust lo hi 1 (n : Int) = (((sIx n 0 lo : Nat) : Int), ((sIx n n hi : Nat) : Int)) := by
  have h1 : ¬ ((1 : Int) < 0) := by omega
  unfold Builtin.Slice.sliceAdjust
  simp only [h1, if_false]
  refine Prod.ext ?_ ?_
  · cases lo with
    | none => rfl
    | some v => exact clip_eq v n 0
  · cases hi with
    | none => rfl
    | some v => exact clip_eq v n n
theorem places_gen (i j : Nat) : Builtin.Slice.slicePlaces (i : Int) (j : Int) 1 = j - i := by
  unfold Builtin.Slice.slicePlaces
  have h1 : (1 : Int) > 0 := by omega
  simp only [h1, if_true, Int.ediv_one]
  split <;> omega
theorem slicePart_ {v : Value} {o : Option Int} {Q : Option Int → Shared → Prop} (p : IsPart v o) (h : Q o s) : wpAny (model prog w) A (Builtin.Slice.slicePartIndex v) Q E s := by
  cases p with
  | none => exact slicePart_none h
  | int i t => exact slicePart_int h
theorem sliceApplied_gen {sl : Addr} {vl vu : Value} {lo hi : Option Int} {n : Nat} {Q : Int × Int × Nat → Shared → Prop} (hs : s.heap.IsSliceOf sl vl vu .none) (pl : IsPart vl lo) (pu : IsPart vu hi)
    (h : Q (((sIx n 0 lo : Nat) : Int), 1, sIx n n hi - sIx n 0 lo) s) : wpAny (model prog w) A (Builtin.Slice.sliceApplied (.ref sl) (pure (n : Int))) Q E s := by
  obtain ⟨os, hos, hcs, hds⟩ := id hs
  unfold Builtin.Slice.sliceApplied Builtin.Slice.sliceFields
  refine wpAny_bind (wpAny_bind (wpAny_field hos hds (x := vl) rfl (wpAny_bind (wpAny_field hos hds (x := vu) rfl (wpAny_bind (wpAny_field hos hds (x := .none) rfl (wpAny_pure ?_)))))))
  refine wpAny_bind (slicePart_none ?_)
  show wpAny _ _ (if ((1 : Int) == 0) = true then _ else _) _ _ s
  rw [if_neg (by decide)]
  refine wpAny_bind (slicePart_ pl (wpAny_bind (slicePart_ pu (wpAny_bind (wpAny_pure ?_)))))
  show wpAny _ _ (match Builtin.Slice.sliceAdjust lo hi 1 (n : Int) with | (lo, hi) => pure (lo, (1 : Int), Builtin.Slice.slicePlaces lo hi 1)) _ _ s
  rw [adjust_gen lo hi n]
  show wpAny _ _ (pure (((sIx n 0 lo : Nat) : Int), (1 : Int), Builtin.Slice.slicePlaces ((sIx n 0 lo : Nat) : Int) ((sIx n n hi : Nat) : Int) 1)) _ _ s
  rw [places_gen]
  exact wpAny_pure h
theorem pick_gen (xs : Array Value) (i k : Nat) : ((List.range k).filterMap fun (m : Nat) => xs[((i : Int) + (m : Int) * 1).toNat]?).toArray = ((xs.toList.drop i).take k).toArray := by
  have e : (fun (m : Nat) => xs[((i : Int) + (m : Int) * 1).toNat]?) = fun m => xs[i + m]? := by
    funext m
    have : ((i : Int) + (m : Int) * 1).toNat = i + m := by omega
    rw [this]
  rw [e]
  have := pick_run xs i k
  rw [List.filterMap_map] at this
  have e2 : ((fun x => xs[x]?) ∘ fun x => i + x) = fun m => xs[i + m]? := rfl
  rw [e2] at this
  rw [this]

theorem getItem_tuple_cut {t sl : Addr} {items : Array Value} {vl vu : Value} {lo hi : Option Int} {Q : Value → Shared → Prop} (ht : IsTup s.heap t items) (hs : s.heap.IsSliceOf sl vl vu .none) (pl : IsPart vl lo) (pu : IsPart vu hi)
    (hw : ¬ (sIx items.size 0 lo = 0 ∧ sIx items.size items.size hi = items.size))
    (h : Q (.ref s.heap.objs.size) { s with heap := s.heap.push { cls := .type "tuple", data := .seq ((items.toList.drop (sIx items.size 0 lo)).take (sIx items.size items.size hi - sIx items.size 0 lo)).toArray } })
    (hsz : items.size ≤ sizeLine) : wpAny (model prog w) A (getItem (.ref t) (.ref sl)) Q E s := by
  have htake : sizeOk (.seq ((items.toList.drop (sIx items.size 0 lo)).take (sIx items.size items.size hi - sIx items.size 0 lo)).toArray) := by
    show ((items.toList.drop (sIx items.size 0 lo)).take (sIx items.size items.size hi - sIx items.size 0 lo)).toArray.size ≤ sizeLine
    rw [List.size_toArray, List.length_take, List.length_drop, Array.length_toList]
    omega
  have hj : sIx items.size items.size hi ≤ items.size := sIx_le _ _ (Nat.le_refl _) hi
  obtain ⟨os, hos, hcs, hds⟩ := id hs
  have hTs : s.TypeIs (.ref sl) "slice" := ⟨os, hos, hcs⟩
  unfold getItem
  try with_reducible refine wpAny_holding ?_
  first | refine wpAny_bind (wpAny_pure ?_) | skip
  refine wpAny_bind (wpAny_sequenceKey ht.typeIs (by decide) ?_)
  refine wpAny_bind (wpAny_callSpecial?_slot (name := Str.ofString "__getitem__") ht.typeIs PyProof.Rows.slot_tuple_getitem
    (wpAny_call_entry PyProof.Rows.slot_tuple_getitem ht.typeIs entry_tuple_getitem ?_ (args_tuple_getitem _ _)))
  show wpAny _ _ (Builtin.Tuple.tupleItemsOf (.ref t) >>= _) _ _ s
  refine wpAny_bind (tupleItemsOf_ ht ?_)
  refine wpAny_bind (wpAny_typeOf hTs ?_)
  rw [if_pos (by decide)]
  refine wpAny_bind (sliceApplied_gen hs pl pu ?_)
  have hno : ¬ ((((sIx items.size 0 lo : Nat) : Int) == 0 && (1 : Int) == 1 && (sIx items.size items.size hi - sIx items.size 0 lo) == items.size) = true) := by
    intro q
    rw [Bool.and_eq_true, Bool.and_eq_true] at q
    have q1 : ((sIx items.size 0 lo : Nat) : Int) = 0 := eq_of_beq q.1.1
    have q2 : sIx items.size items.size hi - sIx items.size 0 lo = items.size := eq_of_beq q.2
    exact hw ⟨by omega, by omega⟩
  show wpAny _ _ (if (((sIx items.size 0 lo : Nat) : Int) == 0 && (1 : Int) == 1 && (sIx items.size items.size hi - sIx items.size 0 lo) == items.size) = true then _ else _) _ _ s
  rw [if_neg hno, pick_gen]
  first
    | exact wpAny_bind (m := Builtin.Tuple.tupleExact _) (wpAny_newObj_type (wpAny_pure ⟨_, rfl, wpAny_pure h⟩) htake)
    | exact wpAny_bind (m := Builtin.Tuple.tupleExact _) (wpAny_newObj_type (wpAny_bind (wpAny_pure (wpAny_pure ⟨_, rfl, wpAny_pure h⟩))) htake)
    | exact wpAny_bind (wpAny_bind (m := Builtin.Tuple.tupleExact _) (wpAny_newObj_type (wpAny_pure (wpAny_pure ⟨_, rfl, wpAny_pure h⟩)) htake))
    | exact wpAny_bind (wpAny_bind (m := Builtin.Tuple.tupleExact _) (wpAny_newObj_type (wpAny_pure ⟨_, rfl, wpAny_pure h⟩) htake))
end
end HT

namespace L2
open PySem PySem.Spec PyProof.Rows

/-! ### the parts of a slice -/
abbrev TO := St → Hp → (Option Int → Hp → Prop) → Prop
/-- a slice's part (left out, or an int) -/
def PO (X : Cx) (e : Option Expr) (t : TO) : Prop :=
  ∀ (pins : List (Addr × Obj)) (s : Shared) (σ : St) (H : Hp) (Q : Option Int → Hp → Prop), Inv X pins σ H s → t σ H Q →
    wpAny (model X.prog X.w) X.A (evalPart e X.env) (fun u s' => ∃ o H', Inv X pins σ H' s' ∧ IsPart u o ∧ Q o H') X.xe s
def tNoPart : TO := fun _ H Q => Q none H
def tPart (t : TE) : TO := fun σ H Q => t σ H fun x H1 => ∃ i, x = .int i ∧ Q (some i) H1

theorem intsAre_of {ns : List Int} : ∀ {us : List Value}, Vals (ns.map V.int) us → IntsAre us ns := by
  induction ns with
  | nil => intro us r; rw [List.map_nil] at r; cases r; exact .nil
  | cons n ns ih =>
    intro us r
    rw [List.map_cons] at r
    cases r with
    | cons r1 r2 =>
      obtain ⟨t, e⟩ := r1
      subst e
      exact .cons n t (ih r2)

section
variable {X : Cx} {e : Expr} {te : TE} {lo hi : Option Expr} {tl th : TO} {pos p2 : Pos}

theorem po_none : PO X none tNoPart := by
  intro pins s σ H Q I h
  rw [evalPart_none]
  exact wpAny_pure ⟨none, H, I, .none, h⟩
theorem po_some (h : PE X e te) : PO X (some e) (tPart te) := by
  intro pins s σ H Q I hw
  rw [evalPart_some]
  refine thn (h pins s σ H _ I hw) fun u s1 ⟨x, H1, I1, r1, q1⟩ => ?_
  obtain ⟨i, rfl, q⟩ := q1
  obtain ⟨t, rfl⟩ := r1
  exact ⟨some i, H1, I1, .int i t, q⟩

/-- what a slice of a value is, by values: the slice object stands at sl -/
def SlR (X : Cx) (r : V → Option Int → Option Int → Hp → VK → Prop) : Prop :=
  ∀ (pins : List (Addr × Obj)) (s : Shared) (σ : St) (H : Hp) (x : V) (v vl vu : Value) (lo hi : Option Int) (sl : Addr) (Q : VK), Inv X pins σ H s → RelV x v → s.heap.IsSliceOf sl vl vu .none → IsPart vl lo → IsPart vu hi → r x lo hi H Q →
    ∃ T id, typeLookup (.type T) "__getitem__" = pure (some (.builtin id)) ∧ s.TypeIs v T ∧ wpAny (model X.prog X.w) X.A (getItem v (.ref sl)) (EP X pins σ Q) X.xe s
theorem SlR.or {r r' : V → Option Int → Option Int → Hp → VK → Prop} (h : SlR X r) (h' : SlR X r') : SlR X (fun x lo hi H Q => r x lo hi H Q ∨ r' x lo hi H Q) := by
  intro pins s σ H x v vl vu lo hi sl Q I rx hs pl pu q
  rcases q with q | q
  · exact h pins s σ H x v vl vu lo hi sl Q I rx hs pl pu q
  · exact h' pins s σ H x v vl vu lo hi sl Q I rx hs pl pu q
def tSl (r : V → Option Int → Option Int → Hp → VK → Prop) (te : TE) (tl th : TO) : TE := fun σ H Q => te σ H fun x H1 => tl σ H1 fun l H2 => th σ H2 fun u H3 => r x l u H3 Q
/-- a[lo:hi], any a -/
theorem pe_slice {r : V → Option Int → Option Int → Hp → VK → Prop} (hr : SlR X r) (he : PE X e te) (hl : PO X lo tl) (hu : PO X hi th) : PE X (.Subscript e (.Slice lo hi none p2) pos) (tSl r te tl th) := by
  intro pins s σ H Q I h
  refine Subscript_ (thn (he pins s σ H _ I h) fun v s1 ⟨x, H1, I1, r1, q1⟩ => ?_)
  refine wpAny_Slice (thn (hl pins s1 σ H1 _ I1 q1) fun vl s2 ⟨l, H2, I2, pl, q2⟩ => thn (hu pins s2 σ H2 _ I2 q2) fun vu s3 ⟨u, H3, I3, pu, q3⟩ => ?_)
  rw [evalPart_none]
  refine wpAny_pure ?_
  have I4 : Inv X pins σ H3 { s3 with heap := s3.heap.push { cls := .type "slice", data := .fields #[vl, vu, .none] } } := I3.kept (t' := s3.toks) fun b ob q => Heap.get?_push_of_some _ q
  obtain ⟨T, id, hT, ht, hg⟩ := hr pins { s3 with heap := s3.heap.push { cls := .type "slice", data := .fields #[vl, vu, .none] } } σ H3 x v vl vu l u s3.heap.objs.size Q I4 r1 (Heap.IsSliceOf.new ..) pl pu q3
  show wpAny (model X.prog X.w) X.A (subscriptTail e (.Slice lo hi none p2) v (.ref s3.heap.objs.size)) (EP X pins σ Q) X.xe { s3 with heap := s3.heap.push { cls := .type "slice", data := .fields #[vl, vu, .none] } }
  exact tail_any (ops := [.ref s3.heap.objs.size, v]) ht hT hg (by with_unfolding_all rfl)

/-- the items of xs[lo:hi] -/
def cutV (xs : List V) (lo hi : Option Int) : List V := (xs.drop (HT.sIx xs.length 0 lo)).take (HT.sIx xs.length xs.length hi - HT.sIx xs.length 0 lo)
theorem cutV_length (xs : List V) (lo hi : Option Int) : (cutV xs lo hi).length ≤ xs.length := by
  unfold cutV
  rw [List.length_take, List.length_drop]
  omega
/-- t[lo:hi], not the whole of it (the whole would be t itself) -/
def rSlT (K : PySem.W.Frag) : V → Option Int → Option Int → Hp → VK → Prop := fun x lo hi H Q => ∃ a xs, x = .ref a ∧ SqT K H a xs ∧
  ¬ (HT.sIx xs.length 0 lo = 0 ∧ HT.sIx xs.length xs.length hi = xs.length) ∧ ∀ p, H p = none → Q (.ref p) (upd H p (.tup (cutV xs lo hi)))
theorem sl_tup : SlR X (rSlT X.K) := by
  intro pins s σ H x v vl vu lo hi sl Q I rx hs pl pu h
  obtain ⟨a, xs, rfl, hx, hw, q⟩ := h
  cases rx
  obtain ⟨its, r, ht, hz⟩ := I.tuple hx
  have hlen : its.toArray.size = xs.length := by rw [List.size_toArray]; exact r.length.symm
  refine ⟨"tuple", _, PyProof.Rows.slot_tuple_getitem.lookup, ht.typeIs, ?_⟩
  refine HT.getItem_tuple_cut ht hs pl pu (by rw [hlen]; exact hw) ?_ (by rw [hlen]; exact hz)
  rw [hlen]
  refine ⟨.ref s.heap.objs.size, _, I.laid (t' := s.toks) (o := .tup (cutV xs lo hi)) (fun b ob q => Heap.get?_push_of_some _ q) (Nat.le_refl _) ?_, rfl, q _ (I.hok.fresh (Nat.le_refl _))⟩
  exact ⟨Nat.le_trans (cutV_length xs lo hi) hz, _, (r.drop (HT.sIx xs.length 0 lo)).take (HT.sIx xs.length xs.length hi - HT.sIx xs.length 0 lo), IsTup.new _ _⟩

/-! ### t < u, t + u -/
def rLtT (K : PySem.W.Frag) : R2 := fun x y H Q => ∃ a b ns ms, x = .ref a ∧ y = .ref b ∧ SqT K H a (ns.map V.int) ∧ SqT K H b (ms.map V.int) ∧ Q (.bl (HT.lexLt ns ms)) H
theorem op_ltT (hu : X.A.units < cLine) : OpR X (compareOp .Lt) (rLtT X.K) := by
  intro pins s σ H x y v u Q I rx ry h
  obtain ⟨a, b, ns, ms, rfl, rfl, ha, hb, q⟩ := h
  cases rx
  cases ry
  obtain ⟨its, r1, p1, _⟩ := I.tuple ha
  obtain ⟨its2, r2, p2, _⟩ := I.tuple hb
  have i1 : IntsAre its.toArray.toList ns := intsAre_of r1
  have i2 : IntsAre its2.toArray.toList ms := intsAre_of r2
  exact HT.lt_tupInts p1 p2 i1 i2 hu ⟨.bl (HT.lexLt ns ms), H, I, rfl, q⟩
/-- t + u, t not empty: u empty gives t itself -/
def rCatT (K : PySem.W.Frag) : R2 := fun x y H Q => ∃ a b xs ys, x = .ref a ∧ y = .ref b ∧ SqT K H a xs ∧ SqT K H b ys ∧ xs ≠ [] ∧ xs.length + ys.length ≤ sizeLine ∧
  (ys = [] → Q (.ref a) H) ∧ (ys ≠ [] → ∀ p, H p = none → Q (.ref p) (upd H p (.tup (xs ++ ys))))
theorem Vals.nil_iff {xs : List V} {us : List Value} (r : Vals xs us) : us = [] ↔ xs = [] := by
  cases r with
  | nil => simp
  | cons _ _ => simp
theorem op_catT : OpR X (binaryOp .Add) (rCatT X.K) := by
  intro pins s σ H x y v u Q I rx ry h
  obtain ⟨a, b, xs, ys, rfl, rfl, ha, hb, hx, hz, q1, q2⟩ := h
  cases rx
  cases ry
  obtain ⟨its, r1, p1, _⟩ := I.tuple ha
  obtain ⟨its2, r2, p2, _⟩ := I.tuple hb
  refine HT.cat_tup p1 p2 (fun z => hx (r1.nil_iff.mp z)) (fun z => ⟨.ref a, H, I, rfl, q1 (r2.nil_iff.mp z)⟩) (fun z => ?_) (by rw [← r1.length, ← r2.length]; exact hz)
  refine ⟨.ref s.heap.objs.size, _, I.laid (t' := s.toks) (o := .tup (xs ++ ys)) (fun b ob q => Heap.get?_push_of_some _ q) (Nat.le_refl _) ?_, rfl, q2 (fun w => z (r2.nil_iff.mpr w)) _ (I.hok.fresh (Nat.le_refl _))⟩
  exact ⟨by rw [List.length_append]; exact hz, _, r1.append r2, IsTup.new _ _⟩
/-- tuple(t) -/
theorem call_tupleT : CallR X (.type "tuple") (fun xs H Q => ∃ a ys, xs = [.ref a] ∧ SqT X.K H a ys ∧ Q (.ref a) H) := by
  intro pins s σ H xs us Q I r h
  obtain ⟨a, ys, rfl, ha, q⟩ := h
  obtain ⟨u, rfl, ru⟩ := vals1 r
  cases ru
  obtain ⟨its, _, p1, _⟩ := I.tuple ha
  exact call_tuple_same (items := its.toArray) p1 ⟨.ref a, H, I, rfl, q⟩
end
end L2

namespace L2
open PySem PySem.Spec PyProof.Rows

/-! ### places -/
/-- the place that an index of any sign means -/
def ixN (n : Nat) (i : Int) : Option Nat := if 0 ≤ i then (if i < n then some i.toNat else none) else if -(n : Int) ≤ i then some (i + n).toNat else none
def atI {α : Type} (xs : List α) (i : Int) : Option α := (ixN xs.length i).bind fun j => xs[j]?
theorem ixN_seq {n : Nat} {i : Int} {j : Nat} (h : ixN n i = some j) : seqIndex? i n = some j ∧ j < n ∧ -(n : Int) ≤ i ∧ i < n := by
  unfold ixN at h
  by_cases h0 : 0 ≤ i
  · rw [if_pos h0] at h
    by_cases h1 : i < n
    · rw [if_pos h1] at h
      have e : i.toNat = j := Option.some.inj h
      exact ⟨by rw [seqIndex_of h0 h1, e], by omega, by omega, h1⟩
    · rw [if_neg h1] at h; cases h
  · rw [if_neg h0] at h
    by_cases h1 : -(n : Int) ≤ i
    · rw [if_pos h1] at h
      have e : (i + n).toNat = j := Option.some.inj h
      exact ⟨by rw [seqIndex_neg (by omega) h1, e], by omega, h1, by omega⟩
    · rw [if_neg h1] at h; cases h
theorem atI_get {α : Type} {xs : List α} {i : Int} {v : α} (h : atI xs i = some v) : ∃ j, seqIndex? i xs.length = some j ∧ xs[j]? = some v ∧ j < xs.length ∧ -(xs.length : Int) ≤ i ∧ i < xs.length := by
  unfold atI at h
  cases e : ixN xs.length i with
  | none => rw [e] at h; cases h
  | some j =>
    rw [e] at h
    obtain ⟨h1, h2, h3, h4⟩ := ixN_seq e
    exact ⟨j, h1, h, h2, h3, h4⟩
theorem atI_nat {α : Type} {xs : List α} {j : Nat} {v : α} (h : xs[j]? = some v) : atI xs (j : Int) = some v := by
  have hj : j < xs.length := (List.getElem?_eq_some_iff.mp h).1
  have e : ixN xs.length (j : Int) = some j := by
    unfold ixN
    rw [if_pos (by omega), if_pos (by omega)]; simp
  unfold atI; rw [e]; exact h
theorem atI_last {α : Type} (xs : List α) (v : α) : atI (xs ++ [v]) (-1) = some v := by
  have hl : (xs ++ [v]).length = xs.length + 1 := by simp
  have e : ixN (xs ++ [v]).length (-1) = some xs.length := by
    unfold ixN
    rw [hl, if_neg (by decide), if_pos (by omega)]
    congr 1
    omega
  unfold atI
  rw [e]
  show (xs ++ [v])[xs.length]? = some v
  simp

/-! ### what may be subscripted -/
/-- what stands as an index of a plain subscript -/
def PlainIx (b : Expr) : Prop := ∀ o i, subscripted b false o i = operate [o, i] (getItem o i)
/-- a subscript by values -/
def IxR (X : Cx) (r : R2) : Prop :=
  ∀ (value slice : Expr) (pins : List (Addr × Obj)) (s : Shared) (σ : St) (H : Hp) (x y : V) (v u : Value) (Q : VK), Inv X pins σ H s → RelV x v → RelV y u → r x y H Q →
    subscripted slice false v u = operate [v, u] (getItem v u) → wpAny (model X.prog X.w) X.A (subscriptTail value slice v u) (EP X pins σ Q) X.xe s
/-- a call of a builtin's method by values: the receiver, the arguments -/
def MtR (X : Cx) (id : String) (r : V → List V → Hp → VK → Prop) : Prop :=
  ∀ (pins : List (Addr × Obj)) (s : Shared) (σ : St) (H : Hp) (x : V) (xs : List V) (v : Value) (us : List Value) (Q : VK), Inv X pins σ H s → RelV x v → Vals xs us → r x xs H Q →
    wpAny (model X.prog X.w) X.A (call (.builtin id) (v :: us)) (EP X pins σ Q) X.xe s
section
variable {X : Cx} {a b : Expr} {ta tb : TE} {pos : Pos}
theorem IxR.or {r r' : R2} (h : IxR X r) (h' : IxR X r') : IxR X (fun x y H Q => r x y H Q ∨ r' x y H Q) := by
  intro value slice pins s σ H x y v u Q I rx ry q hs
  rcases q with q | q
  · exact h value slice pins s σ H x y v u Q I rx ry q hs
  · exact h' value slice pins s σ H x y v u Q I rx ry q hs
theorem MtR.or {id : String} {r r' : V → List V → Hp → VK → Prop} (h : MtR X id r) (h' : MtR X id r') : MtR X id (fun x xs H Q => r x xs H Q ∨ r' x xs H Q) := by
  intro pins s σ H x xs v us Q I rx rs q
  rcases q with q | q
  · exact h pins s σ H x xs v us Q I rx rs q
  · exact h' pins s σ H x xs v us Q I rx rs q
/-- a[b] -/
theorem pe_ix {r : R2} (hr : IxR X r) (ha : PE X a ta) (hb : PE X b tb) (hs : PlainIx b) : PE X (.Subscript a b pos) (tOp r ta tb) := by
  intro pins s σ H Q I h
  exact Subscript_ (binT ha hb I h fun v u s2 x y H2 I2 rx ry q => hr a b pins s2 σ H2 x y v u Q I2 rx ry q (hs _ _))

def rIxL (K : PySem.W.Frag) : R2 := fun x y H Q => ∃ p xs i v, x = .ref p ∧ y = .int i ∧ SqL K H p xs ∧ atI xs i = some v ∧ Q v H
def rIxT (K : PySem.W.Frag) : R2 := fun x y H Q => ∃ p xs i v, x = .ref p ∧ y = .int i ∧ SqT K H p xs ∧ atI xs i = some v ∧ Q v H
def rIxS : R2 := fun x y H Q => ∃ z i c, x = .str z ∧ y = .int i ∧ z.length ≤ sizeLine ∧ atI z.cps.toList i = some c ∧ Q (.str ⟨#[c]⟩) H
theorem ix_list : IxR X (rIxL X.K) := by
  intro value slice pins s σ H x y v u Q I rx ry h hs
  obtain ⟨p, xs, i, z, rfl, rfl, hq, he, q⟩ := h
  cases rx
  obtain ⟨t, rfl⟩ := ry
  obtain ⟨its, r, pl, hz⟩ := I.list hq
  obtain ⟨j, h1, h2, h3, h4, h5⟩ := atI_get he
  obtain ⟨w, ew, rw'⟩ := r.get h2
  have hl := r.length
  have hn := line63
  have fin : EP X pins σ Q w s := ⟨z, H, I, rw', q⟩
  by_cases h0 : 0 ≤ i
  · have hj : i.toNat = j := by
      rw [seqIndex_of h0 h5] at h1
      exact Option.some.inj h1
    exact item_listR pl.isList h0 (by omega) (by rw [hj]; simpa using ew) fin hs
  · have hj : (i + (its.toArray.size : Int)).toNat = j := by
      rw [seqIndex_neg (by omega) h4] at h1
      rw [List.size_toArray, ← hl]
      exact Option.some.inj h1
    exact subscriptTail_builtinR (x := w) pl.isList.typeIs slot_list_getitem.lookup
      (wpAny_getItem_list_neg (Q := fun r s' => r = w ∧ EP X pins σ Q r s') pl.isList (by omega) (by rw [List.size_toArray] <;> omega) (by omega) (by rw [hj]; simpa using ew) ⟨rfl, fin⟩) hs
theorem ix_tup : IxR X (rIxT X.K) := by
  intro value slice pins s σ H x y v u Q I rx ry h hs
  obtain ⟨p, xs, i, z, rfl, rfl, hq, he, q⟩ := h
  cases rx
  obtain ⟨t, rfl⟩ := ry
  obtain ⟨its, r, pl, hz⟩ := I.tuple hq
  obtain ⟨j, h1, h2, h3, h4, h5⟩ := atI_get he
  obtain ⟨w, ew, rw'⟩ := r.get h2
  have hl := r.length
  have hn := line63
  have fin : EP X pins σ Q w s := ⟨z, H, I, rw', q⟩
  exact subscriptTail_builtinR (x := w) pl.typeIs slot_tuple_getitem.lookup
    (getItem_tuple (j := j) (Q := fun r s' => r = w ∧ EP X pins σ Q r s') pl (by omega) (by omega) (by rw [List.size_toArray, ← hl]; exact h1) (by simpa using ew) ⟨rfl, fin⟩) hs
theorem ix_str : IxR X rIxS := by
  intro value slice pins s σ H x y v u Q I rx ry h hs
  obtain ⟨z, i, c, rfl, rfl, hz, he, q⟩ := h
  obtain ⟨t, rfl⟩ := rx
  obtain ⟨t', rfl⟩ := ry
  obtain ⟨j, h1, h2, h3, h4, h5⟩ := atI_get he
  have hl : z.cps.toList.length = z.length := by simp [Str.length]
  rw [hl] at h1 h4 h5
  have hn := line63
  exact tail_any (typeIs_str s z t) slot_str_getitem.lookup (getItem_str (c := c) (by
    have e1 : decide (i < -(2 ^ 63 : Int)) = false := decide_eq_false (by omega)
    have e2 : decide (i ≥ 2 ^ 63) = false := decide_eq_false (by omega)
    rw [e1, e2, Bool.or_false]) (by rw [h1]; simpa using h2) ⟨.str ⟨#[c]⟩, H, I.tok _, ⟨_, rfl⟩, q⟩) hs
/-- list, tuple or str -/
def rIx (K : PySem.W.Frag) : R2 := fun x y H Q => rIxL K x y H Q ∨ rIxT K x y H Q ∨ rIxS x y H Q
theorem ix_seq : IxR X (rIx X.K) := ix_list.or (ix_tup.or ix_str)

/-! ### xs[i] = v, any sign -/
/-- the list's object behind a store -/
theorem mapSeq_set (its : List Value) (n j : Nat) (u : Value) : Obj.mapSeq (·.setIfInBounds j u) { cls := .type "list", data := .seq its.toArray n } = { cls := .type "list", data := .seq (its.set j u).toArray n } := by
  simp [Obj.mapSeq]
theorem Inv.lst {pins : List (Addr × Obj)} {σ : St} {H : Hp} {s : Shared} {p : Addr} {xs : List V} (I : Inv X pins σ H s) (h : H p = some (.lst xs)) :
    ∃ (its : List Value) (n : Nat), Vals xs its ∧ s.heap.get? p = some { cls := .type "list", data := .seq its.toArray n } ∧ xs.length ≤ sizeLine := by
  obtain ⟨z, its, n, r, e⟩ := I.hok p _ h
  exact ⟨its, n, r, e, z⟩
/-- the list at p is written by an update of its object -/
theorem Inv.lstUpd {pins : List (Addr × Obj)} {σ : St} {H : Hp} {s : Shared} {p : Addr} {xs ys : List V} {its its' : List Value} {n n' : Nat} {f : Obj → Obj} (I : Inv X pins σ H s) (h : H p = some (.lst xs))
    (ho : s.heap.get? p = some { cls := .type "list", data := .seq its.toArray n }) (hf : f { cls := .type "list", data := .seq its.toArray n } = { cls := .type "list", data := .seq its'.toArray n' }) (r : Vals ys its') (hz : ys.length ≤ sizeLine) (t : Nat) :
    Inv X pins σ (upd H p (.lst ys)) { s with heap := s.heap.update p f, toks := t } := by
  have e : (s.heap.update p f).get? p = some { cls := .type "list", data := .seq its'.toArray n' } := by
    rw [Heap.get?_update_self f ho (by rw [hf] <;> rfl), hf]
  refine I.write (x := p) (e := p) (by rw [h]; trivial) (.inl rfl) (fun b u hb q => (Heap.get?_update_other _ _ (Ne.symm hb)).trans q) ⟨_, e⟩ ?_
  exact ⟨hz, its', n', r, e⟩
def rSetL : V → V → V → Hp → (Hp → Prop) → Prop := fun o i v H Q => ∃ p xs k j, o = .ref p ∧ i = .int k ∧ H p = some (.lst xs) ∧ ixN xs.length k = some j ∧ Q (upd H p (.lst (xs.set j v)))
theorem set_list : PSet X rSetL := by
  intro pins s σ H o i v ov iv u Q I ro ri rv h
  obtain ⟨p, xs, k, j, rfl, rfl, hp, hj, q⟩ := h
  cases ro
  obtain ⟨t, rfl⟩ := ri
  obtain ⟨its, n, r, ho, hz⟩ := I.lst hp
  obtain ⟨h1, h2, h3, h4⟩ := ixN_seq hj
  have hl := r.length
  have hn := line63
  have I' : Inv X pins σ (upd H p (.lst (xs.set j v))) { s with heap := s.heap.update p (Obj.mapSeq (·.setIfInBounds j u)) } :=
    I.lstUpd hp ho (mapSeq_set its n j u) (r.set rv j) (by rw [List.length_set]; exact hz) s.toks
  by_cases h0 : 0 ≤ k
  · have hk : k.toNat = j := by
      rw [seqIndex_of h0 h4] at h1
      exact Option.some.inj h1
    exact PySem.W.ki_setAt ho h0 (by omega) (by rw [List.size_toArray, ← hl]; exact h4) (by rw [hk]; exact ⟨_, I', q⟩)
  · have hk : (k + (its.toArray.size : Int)).toNat = j := by
      rw [seqIndex_neg (by omega) h3] at h1
      rw [List.size_toArray, ← hl]
      exact Option.some.inj h1
    exact PySem.W.ki_setBack ho (by omega) (by rw [List.size_toArray, ← hl]; exact h3) (by omega) (by rw [hk]; exact ⟨_, I', q⟩)

/-! ### slices -/
theorem slice_bounds (lo hi : Option Int) (n : Nat) : (sliceBounds lo hi none n).1 = ((HT.sIx n 0 lo : Nat) : Int) ∧ (sliceBounds lo hi none n).2.1 = ((HT.sIx n n hi : Nat) : Int) ∧ (sliceBounds lo hi none n).2.2 = 1 := by
  refine ⟨?_, ?_, rfl⟩
  · cases lo with
    | none => simp [sliceBounds, HT.sIx]
    | some i =>
      simp only [sliceBounds, HT.sIx, Option.getD_none, show (1 : Int) > 0 by decide, if_true]
      by_cases h : i < 0
      · simp only [h, if_true] <;> omega
      · simp only [h, if_false] <;> omega
  · cases hi with
    | none => simp [sliceBounds, HT.sIx]
    | some i =>
      simp only [sliceBounds, HT.sIx, Option.getD_none, show (1 : Int) > 0 by decide, if_true]
      by_cases h : i < 0
      · simp only [h, if_true] <;> omega
      · simp only [h, if_false] <;> omega
theorem slicePick_cut (its : List Value) (lo hi : Option Int) : slicePick its.toArray lo hi none = ((its.drop (HT.sIx its.length 0 lo)).take (HT.sIx its.length its.length hi - HT.sIx its.length 0 lo)).toArray := by
  obtain ⟨h1, h2, h3⟩ := slice_bounds lo hi its.toArray.size
  unfold slicePick
  rw [h1, h2, h3]
  simp only [sliceRange_one, pick_run, List.size_toArray] <;> rfl
/-- xs[lo:hi] of a list: a new list -/
def rSlL (K : PySem.W.Frag) : V → Option Int → Option Int → Hp → VK → Prop := fun x lo hi H Q => ∃ a xs, x = .ref a ∧ SqL K H a xs ∧ ∀ p, H p = none → Q (.ref p) (upd H p (.lst (cutV xs lo hi)))
theorem sl_list : SlR X (rSlL X.K) := by
  intro pins s σ H x v vl vu lo hi sl Q I rx hs pl pu h
  obtain ⟨a, xs, rfl, hx, q⟩ := h
  cases rx
  obtain ⟨its, r, ht, hz⟩ := I.list hx
  have hlen := r.length
  refine ⟨"list", _, slot_list_getitem.lookup, ht.isList.typeIs, ?_⟩
  refine wpAny_getItem_list_slice ht.isList hs pl pu .none (by simp) ?_ (by rw [List.size_toArray] <;> omega)
  rw [slicePick_cut, ← hlen]
  refine ⟨.ref s.heap.objs.size, _, I.laid (t' := s.toks) (o := .lst (cutV xs lo hi)) (fun b ob q => Heap.get?_push_of_some _ q) (Nat.le_refl _) ?_, rfl, q _ (I.hok.fresh (Nat.le_refl _))⟩
  exact ⟨Nat.le_trans (cutV_length xs lo hi) hz, _, 0, (r.drop (HT.sIx xs.length 0 lo)).take (HT.sIx xs.length xs.length hi - HT.sIx xs.length 0 lo), Heap.get?_push_size _ rfl⟩

/-! ### in, not in: flat items -/
def flatV : V → Bool
  | .non => true
  | .bl _ => true
  | .int _ => true
  | .str _ => true
  | _ => false
/-- == of flat values -/
def eqV : V → V → Bool
  | .non, .non => true
  | .bl a, .bl b => a == b
  | .bl a, .int b => (if a then 1 else 0) == b
  | .int a, .bl b => a == (if b then 1 else 0)
  | .int a, .int b => a == b
  | .str a, .str b => a == b
  | _, _ => false
theorem eqAt_V {A : Around} {s : Shared} {y x : V} {u v : Value} (ry : RelV y u) (rx : RelV x v) (fy : flatV y = true) (fx : flatV x = true) : SeqAt.EqAt A s u v (eqV y x) := by
  cases y with
  | non =>
    cases ry
    cases x with
    | non => cases rx; exact SeqAt.EqAt.same _
    | bl b => cases rx; exact SeqAt.EqAt.none_bool b
    | int b => obtain ⟨t, rfl⟩ := rx; exact SeqAt.EqAt.none_int b t
    | str b => obtain ⟨t, rfl⟩ := rx; exact SeqAt.EqAt.none_str b t
    | _ => exact absurd (show false = true from fx) Bool.false_ne_true
  | bl a =>
    cases ry
    cases x with
    | non => cases rx; exact SeqAt.EqAt.bool_none a
    | bl b => cases rx; exact SeqAt.EqAt.bool_bool a b
    | int b => obtain ⟨t, rfl⟩ := rx; exact SeqAt.EqAt.bool_int a b t
    | str b => obtain ⟨t, rfl⟩ := rx; exact SeqAt.EqAt.bool_str a b t
    | _ => exact absurd (show false = true from fx) Bool.false_ne_true
  | int a =>
    obtain ⟨t', rfl⟩ := ry
    cases x with
    | non => cases rx; exact SeqAt.EqAt.int_none a t'
    | bl b => cases rx; exact SeqAt.EqAt.int_bool a t' b
    | int b => obtain ⟨t, rfl⟩ := rx; exact SeqAt.EqAt.int_int a t' b t
    | str b => obtain ⟨t, rfl⟩ := rx; exact SeqAt.EqAt.int_str a t' b t
    | _ => exact absurd (show false = true from fx) Bool.false_ne_true
  | str a =>
    obtain ⟨t', rfl⟩ := ry
    cases x with
    | non => cases rx; exact SeqAt.EqAt.str_none a t'
    | bl b => cases rx; exact SeqAt.EqAt.str_bool a t' b
    | int b => obtain ⟨t, rfl⟩ := rx; exact SeqAt.EqAt.str_int a t' b t
    | str b => obtain ⟨t, rfl⟩ := rx; exact SeqAt.EqAt.str_str a t' b t
    | _ => exact absurd (show false = true from fx) Bool.false_ne_true
  | _ => exact absurd (show false = true from fy) Bool.false_ne_true
/-- the items' answers, read off the values (a value's own answer does not lean on its token) -/
def eqU (x : V) (u : Value) : Bool := match u with
  | .none => eqV .non x
  | .bool b => eqV (.bl b) x
  | .int i _ => eqV (.int i) x
  | .str z _ => eqV (.str z) x
  | _ => false
theorem eqU_of {x y : V} {u : Value} (r : RelV y u) (f : flatV y = true) : eqU x u = eqV y x := by
  cases y with
  | non => cases r; rfl
  | bl b => cases r; rfl
  | int i => obtain ⟨t, rfl⟩ := r; rfl
  | str z => obtain ⟨t, rfl⟩ := r; rfl
  | _ => exact absurd (show false = true from f) Bool.false_ne_true
theorem any_eqU {x : V} : ∀ {xs : List V} {us : List Value}, Vals xs us → xs.all flatV = true → us.any (eqU x) = xs.any fun y => eqV y x
  | _, _, .nil, _ => rfl
  | y :: xs, u :: us, .cons r t, f => by
    rw [List.all_cons, Bool.and_eq_true] at f
    rw [List.any_cons, List.any_cons, eqU_of r f.1, any_eqU t f.2]
theorem mem_eqAt {A : Around} {s : Shared} {x : V} {v : Value} (rx : RelV x v) (fx : flatV x = true) : ∀ {xs : List V} {us : List Value}, Vals xs us → xs.all flatV = true → ∀ u ∈ us, SeqAt.EqAt A s u v (eqU x u)
  | _, _, .nil, _ => fun u hu => by cases hu
  | y :: xs, u :: us, .cons r t, f => fun u' hu => by
    rw [List.all_cons, Bool.and_eq_true] at f
    rcases List.mem_cons.mp hu with rfl | hu
    · rw [eqU_of r f.1]; exact eqAt_V r rx f.1 fx
    · exact mem_eqAt rx fx t f.2 u' hu
def inV (x : V) (xs : List V) : Bool := xs.any fun y => eqV y x
/-- x in a list or tuple of flat items -/
def rIn (K : PySem.W.Frag) (neg : Bool) : R2 := fun x y H Q => ∃ p xs, y = .ref p ∧ (SqL K H p xs ∨ SqT K H p xs) ∧ flatV x = true ∧ xs.all flatV = true ∧ Q (.bl (if neg then !inV x xs else inV x xs)) H
theorem op_in_seq : OpR X (compareOp .In) (rIn X.K false) := by
  intro pins s σ H x y v u Q I rx ry h
  obtain ⟨p, xs, rfl, hq, fx, fs, q⟩ := h
  cases ry
  rcases hq with hq | hq
  · obtain ⟨its, r, pl, hz⟩ := I.list hq
    refine SeqAt.in_listAt (eqU x) pl.isList (fun w hw => mem_eqAt rx fx r fs w (by simpa using hw)) ⟨.bl _, H, I, rfl, ?_⟩
    rw [show its.toArray.any (eqU x) = its.any (eqU x) by simp, any_eqU r fs]
    exact q
  · obtain ⟨its, r, pl, hz⟩ := I.tuple hq
    refine SeqAt.in_tupleAt (eqU x) pl (fun w hw => mem_eqAt rx fx r fs w (by simpa using hw)) ⟨.bl _, H, I, rfl, ?_⟩
    rw [show its.toArray.any (eqU x) = its.any (eqU x) by simp, any_eqU r fs]
    exact q
theorem op_notIn_seq : OpR X (compareOp .NotIn) (rIn X.K true) := by
  intro pins s σ H x y v u Q I rx ry h
  obtain ⟨p, xs, rfl, hq, fx, fs, q⟩ := h
  cases ry
  rcases hq with hq | hq
  · obtain ⟨its, r, pl, hz⟩ := I.list hq
    refine SeqAt.notIn_listAt (eqU x) pl.isList (fun w hw => mem_eqAt rx fx r fs w (by simpa using hw)) ⟨.bl _, H, I, rfl, ?_⟩
    rw [show its.toArray.any (eqU x) = its.any (eqU x) by simp, any_eqU r fs]
    exact q
  · obtain ⟨its, r, pl, hz⟩ := I.tuple hq
    refine SeqAt.notIn_tupleAt (eqU x) pl (fun w hw => mem_eqAt rx fx r fs w (by simpa using hw)) ⟨.bl _, H, I, rfl, ?_⟩
    rw [show its.toArray.any (eqU x) = its.any (eqU x) by simp, any_eqU r fs]
    exact q
theorem op_notIn_str : OpR X (compareOp .NotIn) (fun x y H Q => ∃ i j, x = .str i ∧ y = .str j ∧ Q (.bl (!(!(Builtin.Str.occurrences j i 0 j.length 1).isEmpty))) H) := by
  intro pins s σ H x y v u Q I rx ry h
  obtain ⟨i, j, rfl, rfl, q⟩ := h
  obtain ⟨t, rfl⟩ := rx
  obtain ⟨t', rfl⟩ := ry
  exact notIn_str ⟨.bl _, H, I, rfl, q⟩

/-! ### len, list(x), tuple(x) of any list or tuple that is read -/
theorem call_len_seq : CallR X (.builtin "len") (fun xs H Q => ∃ p ys, xs = [.ref p] ∧ (SqL X.K H p ys ∨ SqT X.K H p ys) ∧ Q (.int ys.length) H) := by
  intro pins s σ H xs us Q I r h
  obtain ⟨p, ys, rfl, hq, q⟩ := h
  obtain ⟨u, rfl, rx⟩ := vals1 r
  cases rx
  have hn := line63
  rcases hq with hq | hq
  · obtain ⟨its, r', pl, hz⟩ := I.list hq
    have hlen := r'.length
    exact Calls.call_len_list pl.isList (by simp only [List.size_toArray] <;> omega) ⟨.int ys.length, H, I.tok _, ⟨s.toks + 1, by rw [List.size_toArray, hlen]⟩, q⟩
  · obtain ⟨its, r', pl, hz⟩ := I.tuple hq
    have hlen := r'.length
    exact len_tuple pl (by simp only [List.size_toArray] <;> omega) ⟨.int ys.length, H, I.tok _, ⟨s.toks + 1, by rw [List.size_toArray, hlen]⟩, q⟩
theorem call_len_str : CallR X (.builtin "len") (fun xs H Q => ∃ z, xs = [.str z] ∧ z.length ≤ sizeLine ∧ Q (.int z.length) H) := by
  intro pins s σ H xs us Q I r h
  obtain ⟨z, rfl, hz, q⟩ := h
  obtain ⟨u, rfl, t, rfl⟩ := vals1 r
  have hn := line63
  exact len_str (by omega) ⟨.int z.length, H, I.tok _, ⟨_, rfl⟩, q⟩
theorem CallR.or {f : Value} {r r' : List V → Hp → VK → Prop} (h : CallR X f r) (h' : CallR X f r') : CallR X f (fun xs H Q => r xs H Q ∨ r' xs H Q) := by
  intro pins s σ H xs us Q I rs q
  rcases q with q | q
  · exact h pins s σ H xs us Q I rs q
  · exact h' pins s σ H xs us Q I rs q
theorem call_list_of : CallR X (.type "list") (fun xs H Q => ∃ p ys, xs = [.ref p] ∧ (SqL X.K H p ys ∨ SqT X.K H p ys) ∧ ∀ l, H l = none → Q (.ref l) (upd H l (.lst ys))) := by
  intro pins s σ H xs us Q I r h
  obtain ⟨p, ys, rfl, hq, q⟩ := h
  obtain ⟨u, rfl, rx⟩ := vals1 r
  cases rx
  have fin : ∀ (its : List Value), Vals ys its → ys.length ≤ sizeLine → ∀ (h' : Heap) (c' : Nat), (∀ b o', s.heap.get? b = some o' → h'.get? b = some o') →
      h'.get? s.heap.objs.size = some { cls := .type "list", dict := none, data := .seq its.toArray c', slots := #[] } → EP X pins σ Q (.ref s.heap.objs.size) { s with heap := h' } := fun its r' hz h' c' kp e =>
    ⟨.ref s.heap.objs.size, _, I.laid (t' := s.toks) kp (Nat.le_refl _) (show ObjOk X.prog X.w _ h' _ (.lst ys) from ⟨hz, its, c', r', e⟩), rfl, q _ (I.hok.fresh (Nat.le_refl _))⟩
  rcases hq with hq | hq
  · obtain ⟨its, r', pl, hz⟩ := I.list hq
    have hlen := r'.length
    obtain ⟨o, ho, hc, n, hd⟩ := pl.isList
    exact call_list_seq p (.inl rfl) ho hc hd (fun h' c' kp e => fin its r' hz h' c' kp e) (by simp only [List.size_toArray] <;> omega)
  · obtain ⟨its, r', pl, hz⟩ := I.tuple hq
    have hlen := r'.length
    obtain ⟨o, ho, hc, n, hd⟩ := pl
    exact call_list_seq p (.inr rfl) ho hc hd (fun h' c' kp e => fin its r' hz h' c' kp e) (by simp only [List.size_toArray] <;> omega)
theorem call_tuple_of : CallR X (.type "tuple") (fun xs H Q => ∃ p ys, xs = [.ref p] ∧ ((SqL X.K H p ys ∧ ∀ l, H l = none → Q (.ref l) (upd H l (.tup ys))) ∨ (SqT X.K H p ys ∧ Q (.ref p) H))) := by
  intro pins s σ H xs us Q I r h
  obtain ⟨p, ys, rfl, h⟩ := h
  obtain ⟨u, rfl, rx⟩ := vals1 r
  cases rx
  rcases h with ⟨hq, q⟩ | ⟨hq, q⟩
  · obtain ⟨its, r', pl, hz⟩ := I.list hq
    have hlen := r'.length
    refine call_tuple_list pl.isList (fun h' kp => ?_) (by simp only [List.size_toArray] <;> omega)
    have I1 : Inv X pins σ H { s with heap := h' } := I.kept (t' := s.toks) kp
    have I2 : Inv X pins σ (upd H h'.objs.size (.tup ys)) { s with heap := h'.push { cls := .type "tuple", data := .seq its.toArray } } :=
      I1.laid (t' := s.toks) (fun b o e => Heap.get?_push_of_some _ e) (Nat.le_refl _) (show ObjOk X.prog X.w _ _ _ (.tup ys) from ⟨hz, its, r', IsTup.new _ _⟩)
    exact ⟨.ref h'.objs.size, _, I2, rfl, q _ (I1.hok.fresh (Nat.le_refl _))⟩
  · obtain ⟨its, r', pl, hz⟩ := I.tuple hq
    exact call_tuple_same pl ⟨.ref p, H, I, rfl, q⟩

/-! ### the call of a builtin's method: o.m(..) -/
/-- the value is of that builtin type -/
def tyV (K : PySem.W.Frag) (T : String) (x : V) (H : Hp) : Prop := match x with
  | .str _ => T = "str"
  | .int _ => T = "int"
  | .ref p => (T = "list" ∧ ∃ xs, SqL K H p xs) ∨ (T = "tuple" ∧ ∃ o, K.lookup p = some o ∧ o.cls = .type "tuple" ∧ o.dict = none) ∨
      (T = "dict" ∧ ((∃ kvs, H p = some (.dK kvs)) ∨ ∃ kvs, H p = some (.dT kvs))) ∨ (T = "set" ∧ ∃ S n, H p = some (.set S n))
  | _ => False
theorem tyV_is {pins : List (Addr × Obj)} {σ : St} {H : Hp} {s : Shared} {T : String} {x : V} {v : Value} (I : Inv X pins σ H s) (r : RelV x v) (ty : tyV X.K T x H) :
    s.TypeIs v T ∧ ∀ a, v = .ref a → ∃ ob, s.heap.get? a = some ob ∧ ob.dict = none := by
  cases x with
  | str z =>
    obtain ⟨t, rfl⟩ := r
    cases (show T = "str" from ty)
    exact ⟨typeIs_str s z t, fun _ e => nomatch e⟩
  | int i =>
    obtain ⟨t, rfl⟩ := r
    cases (show T = "int" from ty)
    exact ⟨typeIs_int s i t, fun _ e => nomatch e⟩
  | ref p =>
    cases r
    rcases ty with ⟨rfl, xs, hq⟩ | ⟨rfl, o, hk, hc, hd⟩ | ⟨rfl, hk⟩ | ⟨rfl, S, n, hk⟩
    · obtain ⟨its, _, pl, _⟩ := I.list hq
      refine ⟨pl.isList.typeIs, fun a e => ?_⟩
      cases e
      obtain ⟨o, n, e, c, hd, _⟩ := pl
      exact ⟨o, e, hd⟩
    · refine ⟨⟨o, I.kIn p o hk, hc⟩, fun a e => ?_⟩
      cases e
      exact ⟨o, I.kIn _ o hk, hd⟩
    · have z : ∃ o, s.heap.get? p = some o ∧ o.ExactDict := by
        rcases hk with ⟨kvs, hk⟩ | ⟨kvs, hk⟩
        · obtain ⟨_, _, _, _, o, _, _, e, ex, _⟩ := I.hok p _ hk
          exact ⟨o, e, ex⟩
        · obtain ⟨_, _, _, _, o, _, _, e, ex, _⟩ := I.hok p _ hk
          exact ⟨o, e, ex⟩
      obtain ⟨o, e, ex⟩ := z
      refine ⟨⟨o, e, ex.1⟩, fun a e2 => ?_⟩
      cases e2
      exact ⟨o, e, ex.2.1⟩
    · obtain ⟨o, _, _, _, e, ex, _⟩ := I.hok p _ hk
      refine ⟨⟨o, e, ex.1⟩, fun a e2 => ?_⟩
      cases e2
      exact ⟨o, e, ex.2.1⟩
  | _ => exact False.elim ty
def tBM0 (K : PySem.W.Frag) (T : String) (r : V → List V → Hp → VK → Prop) (to : TE) : TE := fun σ H Q => to σ H fun x H1 => tyV K T x H1 ∧ r x [] H1 Q
def tBM (K : PySem.W.Frag) (T : String) (r : V → List V → Hp → VK → Prop) (to : TE) (t : TA) : TE := fun σ H Q => to σ H fun x H1 => tyV K T x H1 ∧ t σ H1 fun xs H2 => r x xs H2 Q
variable {o e : Expr} {es : List Expr} {to : TE} {t : TA} {name : Str} {apos cpos : Pos} {T id : String} {r : V → List V → Hp → VK → Prop}
theorem pe_bm0 (pa : PlainAttrs T) (slot : Slot T name id) (hty : typeOf (.builtin id) = pure (.type "method_descriptor")) (hm : MtR X id r) (ho : PE X o to)
    (hbase : attributeBase o name X.env (eval o X.env) = eval o X.env := by rfl) (hline : (apos.endLine == cpos.line) = true := by rfl) : PE X (.Call (.Attribute o name apos) [] [] cpos) (tBM0 X.K T r to) := by
  intro pins s σ H Q I h
  refine wpAny_Call_method0_late hbase hline (thn (ho pins s σ H _ I h) fun v s1 ⟨x, H1, I1, r1, ty, q1⟩ => ?_)
  obtain ⟨h1, h2⟩ := tyV_is I1 r1 ty
  exact ⟨T, id, pa, slot, hty, h1, h2, Calls.callWith_builtin rfl (PySem.evalArgs_none (hm pins s1 σ H1 x [] v [] Q I1 r1 .nil q1))⟩
theorem pe_bm (pa : PlainAttrs T) (slot : Slot T name id) (hty : typeOf (.builtin id) = pure (.type "method_descriptor")) (hm : MtR X id r) (ho : PE X o to) (ha : PA X (e :: es) t)
    (hbase : attributeBase o name X.env (eval o X.env) = eval o X.env := by rfl)
    (hfew : ((backTo cpos (starEach (e :: es) X.env)).all (fun x => !x.1) && (backToKw cpos (keywordEach [] X.env)).all (fun x => x.1.isSome)
      && decide ((e :: es).length + ([] : List Keyword).length + (if ([] : List Keyword).isEmpty then 0 else 1) < 30)) = true := by rfl)
    (hline : (apos.endLine == cpos.line) = true := by rfl) (hs : starEach (e :: es) X.env = (false, eval e X.env) :: starEach es X.env := by rfl) (hplain : (backTo cpos (starEach es X.env)).any (·.1) = false := by rfl) :
    PE X (.Call (.Attribute o name apos) (e :: es) [] cpos) (tBM X.K T r to t) := by
  intro pins s σ H Q I h
  refine wpAny_Call_method_late hbase hfew hline rfl (thn (ho pins s σ H _ I h) fun v s1 ⟨x, H1, I1, r1, ty, q1⟩ => ?_)
  obtain ⟨h1, h2⟩ := tyV_is I1 r1 ty
  refine ⟨T, id, pa, slot, hty, h1, h2, ?_⟩
  have hA := ha cpos pins s1 σ H1 _ I1 q1
  rw [hs] at hA ⊢
  refine Calls.callWith_builtin (by show (false || (backTo cpos (starEach es X.env)).any (·.1)) = false; rw [hplain] <;> rfl) (Calls.evalArgs_plain ?_)
  exact thn hA fun us s2 ⟨vs, H2, I2, r2, q2⟩ => hm pins s2 σ H2 x vs v us Q I2 r1 r2 q2
/- xs.append(e), list.index on a module's tuple .. are MtR facts of 06m -/
end
end L2

namespace L2
open PySem PySem.Spec PyProof.Rows

def MtM (X : Cx) (id : String) (r : V → List V → Hp → VK → Prop) : Prop :=
  ∀ (pins : List (Addr × Obj)) (s : Shared) (σ : St) (H : Hp) (x : V) (xs : List V) (v : Value) (us : List Value) (Q : VK), Inv X pins σ H s → RelV x v → Vals xs us → r x xs H Q →
    wpAny (model X.prog X.w) X.A (call (.builtin id) (v :: us)) (EP X pins σ Q) X.xe s

/-! ### lists of values -/
theorem Vals.one : ∀ {x : V} {us : List Value}, Vals [x] us → ∃ u, us = [u] ∧ RelV x u
  | _, _, .cons r .nil => ⟨_, rfl, r⟩
theorem Vals.two : ∀ {x y : V} {us : List Value}, Vals [x, y] us → ∃ u v, us = [u, v] ∧ RelV x u ∧ RelV y v
  | _, _, _, .cons r (.cons q .nil) => ⟨_, _, rfl, r, q⟩
theorem Vals.zero : ∀ {us : List Value}, Vals [] us → us = []
  | _, .nil => rfl
theorem Vals.dropLast {xs : List V} {us : List Value} (h : Vals xs us) : Vals xs.dropLast us.dropLast := by
  induction h with
  | nil => exact .nil
  | cons r t ih =>
    cases t with
    | nil => exact .nil
    | cons q t' => exact .cons r ih
theorem Vals.eraseIdx : ∀ {xs : List V} {us : List Value} (i : Nat), Vals xs us → Vals (xs.eraseIdx i) (us.eraseIdx i)
  | _, _, _, .nil => .nil
  | _, _, 0, .cons _ t => t
  | _, _, i + 1, .cons r t => .cons r (Vals.eraseIdx i t)
theorem Vals.reverse {xs : List V} {us : List Value} (h : Vals xs us) : Vals xs.reverse us.reverse := by
  induction h with
  | nil => exact .nil
  | cons r t ih => rw [List.reverse_cons, List.reverse_cons]; exact Vals.append ih (.cons r .nil)
theorem Vals.rep {xs : List V} {us : List Value} (h : Vals xs us) : ∀ k : Nat, Vals (List.replicate k xs).flatten (List.replicate k us).flatten
  | 0 => .nil
  | k + 1 => by
    rw [List.replicate_succ, List.replicate_succ, List.flatten_cons, List.flatten_cons]
    exact Vals.append h (Vals.rep h k)
theorem erase_last {α : Type} (l : List α) : l.eraseIdx (l.length - 1) = l.dropLast := by
  induction l with
  | nil => rfl
  | cons a r ih =>
    cases r with
    | nil => rfl
    | cons b r =>
      have e : (a :: b :: r).length - 1 = ((b :: r).length - 1) + 1 := by
        have h1 : (a :: b :: r).length = r.length + 2 := rfl
        have h2 : (b :: r).length = r.length + 1 := rfl
        omega
      rw [e, List.eraseIdx_cons_succ, ih]
      all_goals rfl
theorem len_erase {α : Type} : ∀ (l : List α) (i : Nat), (l.eraseIdx i).length ≤ l.length
  | [], _ => Nat.le_refl _
  | _ :: _, 0 => Nat.le_succ _
  | _ :: r, i + 1 => Nat.succ_le_succ (len_erase r i)
theorem foldl_rep (its : List Value) : ∀ (k : Nat) (acc : List Value),
    List.foldl (fun x1 x2 => x1 ++ x2) acc.toArray (List.replicate k its.toArray) = (acc ++ (List.replicate k its).flatten).toArray
  | 0, acc => by simp
  | k + 1, acc => by
    have e : acc.toArray ++ its.toArray = (acc ++ its).toArray := by simp
    have e2 : (acc ++ its) ++ (List.replicate k its).flatten = acc ++ (List.replicate (k + 1) its).flatten := by
      rw [List.replicate_succ, List.flatten_cons, List.append_assoc]
    rw [← e2, ← foldl_rep its k (acc ++ its), ← e, List.replicate_succ, List.foldl_cons]

section
variable {X : Cx} {pins : List (Addr × Obj)} {σ : St} {H : Hp} {s : Shared} {l b : Addr} {xs ys zs : List V}

/-! ### the two steps: a tracked list is rewritten, a new list is laid -/
theorem Inv.lset {its its' : List Value} {n : Nat} {f : Array Value → Array Value} {t' : Nat} (I : Inv X pins σ H s) (hH : H l = some (.lst xs))
    (e : s.heap.get? l = some { cls := .type "list", data := .seq its.toArray n }) (hf : f its.toArray = its'.toArray) (hv : Vals ys its') (hz : ys.length ≤ sizeLine) :
    Inv X pins σ (upd H l (.lst ys)) { s with heap := s.heap.update l (Obj.mapSeq f), toks := t' } := by
  have q := PySem.IsL.update e f
  rw [hf] at q
  refine I.write (x := l) (e := l) (by rw [hH]; exact trivial) (.inl rfl) (fun b' u hb hu => (Heap.get?_update_other s.heap (Obj.mapSeq f) (Ne.symm hb)).trans hu) ⟨_, q⟩ ?_
  exact ⟨hz, its', _, hv, q⟩
theorem Inv.lnew {its : List Value} {t' : Nat} (I : Inv X pins σ H s) (hv : Vals ys its) (hz : ys.length ≤ sizeLine) :
    Inv X pins σ (upd H s.heap.objs.size (.lst ys)) { s with heap := s.heap.push { cls := .type "list", data := .seq its.toArray }, toks := t' } :=
  I.laid (fun _ _ q => Heap.get?_push_of_some _ q) (Nat.le_refl _) ⟨hz, its, 0, hv, Heap.get?_push_size _ rfl⟩
theorem Inv.fresh (I : Inv X pins σ H s) : H s.heap.objs.size = none := I.hok.fresh (Nat.le_refl _)
theorem Inv.lstM (I : Inv X pins σ H s) (hH : H l = some (.lst xs)) : xs.length ≤ sizeLine ∧ ∃ (its : List Value) (n : Nat), Vals xs its ∧ xs.length = its.length ∧ s.heap.get? l = some { cls := .type "list", data := .seq its.toArray n } := by
  obtain ⟨z, its, n, r, e⟩ := I.hok l _ hH
  exact ⟨z, its, n, r, r.length, e⟩

theorem notLongL {n : Nat} (h : n ≤ sizeLine) : Builtin.List.listTooLong n = false := by
  unfold Builtin.List.listTooLong
  exact decide_eq_false (by omega)
end

section
variable {X : Cx}

/-! ### methods -/
def rAppend : V → List V → Hp → VK → Prop := fun x vs H Q => ∃ l xs y, x = .ref l ∧ vs = [y] ∧ H l = some (.lst xs) ∧ xs.length < sizeLine ∧ Q .non (upd H l (.lst (xs ++ [y])))
theorem mt_append : MtM X "list.append" rAppend := by
  intro pins s σ H x vs v us Q I rx rv h
  obtain ⟨l, xs, y, rfl, rfl, hH, hz, q⟩ := h
  cases rx
  obtain ⟨u, rfl, ru⟩ := rv.one
  obtain ⟨z, its, n, r, hl, e⟩ := I.lstM hH
  refine call_meets F.slot_list_append ⟨_, e, rfl⟩ F.entry_list_append (F.args_list_append_2 _ _) (PySem.list_append l its.toArray n u (by rw [List.size_toArray]; omega)) ⟨e, ?_⟩
  refine ⟨.non, _, I.lset (its' := its ++ [u]) hH e (by simp) (r.append (.cons ru .nil)) ?_, rfl, q⟩
  rw [List.length_append, List.length_singleton]
  omega

def rExtend : V → List V → Hp → VK → Prop := fun x vs H Q => ∃ l b xs zs, x = .ref l ∧ vs = [.ref b] ∧ H l = some (.lst xs) ∧ H b = some (.lst zs) ∧ xs.length + zs.length ≤ sizeLine ∧ Q .non (upd H l (.lst (xs ++ zs)))
theorem mt_extend : MtM X "list.extend" rExtend := by
  intro pins s σ H x vs v us Q I rx rv h
  obtain ⟨l, b, xs, zs, rfl, rfl, hH, hB, hz, q⟩ := h
  cases rx
  obtain ⟨u, rfl, ru⟩ := rv.one
  cases ru
  obtain ⟨z, its, n, r, hl, e⟩ := I.lstM hH
  obtain ⟨z2, its2, n2, r2, hl2, e2⟩ := I.lstM hB
  have hsz : its.toArray.size + its2.toArray.size ≤ sizeLine := by rw [List.size_toArray, List.size_toArray]; omega
  have hlong : ¬ (!its.toArray.isEmpty && Builtin.List.listTooLong (its.toArray.size + its2.toArray.size)) = true := by
    rw [notLongL hsz, Bool.and_false]
    exact Bool.false_ne_true
  refine call_meets F.slot_list_extend ⟨_, e, rfl⟩ F.entry_list_extend (F.args_list_extend_2 _ _)
    (AutoSeq1.list_extend_list_list_0 l its.toArray n b its2.toArray n2 hlong (by rw [List.size_toArray]; omega) (by omega)) ⟨e, e2, ?_⟩
  refine ⟨.non, _, I.lset (its' := its ++ its2) hH e (by simp) (r.append r2) ?_, rfl, q⟩
  rw [List.length_append]
  omega

def rPop : V → List V → Hp → VK → Prop := fun x vs H Q => ∃ l xs y, x = .ref l ∧ vs = [] ∧ H l = some (.lst xs) ∧ xs[xs.length - 1]? = some y ∧ Q y (upd H l (.lst xs.dropLast))
theorem mt_pop : MtM X "list.pop" rPop := by
  intro pins s σ H x vs v us Q I rx rv h
  obtain ⟨l, xs, y, rfl, rfl, hH, hy, q⟩ := h
  cases rx
  have hus := rv.zero
  subst hus
  obtain ⟨z, its, n, r, hl, e⟩ := I.lstM hH
  obtain ⟨u, hu, ru⟩ := r.get hy
  have hy' : its.toArray[its.toArray.size - 1]? = some u := by
    show its.toArray[its.length - 1]? = some u
    rw [← Array.getElem?_toList, ← hl]
    exact hu
  refine call_meets F.slot_list_pop ⟨_, e, rfl⟩ F.entry_list_pop (F.args_list_pop_1 _) (MeetsSeq.list_pop_last l its.toArray n u hy' (by rw [List.size_toArray]; omega)) ⟨e, ?_⟩
  refine ⟨y, _, I.lset (its' := its.dropLast) hH e ?_ r.dropLast ?_, ru, q⟩
  · show its.toArray.eraseIdxIfInBounds (its.toArray.size - 1) = its.dropLast.toArray
    rw [List.size_toArray, List.eraseIdxIfInBounds_toArray, erase_last]
  · rw [List.length_dropLast]
    omega

def rPopAt : V → List V → Hp → VK → Prop := fun x vs H Q => ∃ l xs i k y, x = .ref l ∧ vs = [.int i] ∧ H l = some (.lst xs) ∧ -(2 ^ 63) ≤ i ∧ i < 2 ^ 63 ∧ seqIndex? i xs.length = some k ∧ xs[k]? = some y ∧ Q y (upd H l (.lst (xs.eraseIdx k)))
theorem mt_popAt : MtM X "list.pop" rPopAt := by
  intro pins s σ H x vs v us Q I rx rv h
  obtain ⟨l, xs, i, k, y, rfl, rfl, hH, h1, h2, hk, hy, q⟩ := h
  cases rx
  obtain ⟨u, rfl, ru⟩ := rv.one
  obtain ⟨t, rfl⟩ := ru
  obtain ⟨z, its, n, r, hl, e⟩ := I.lstM hH
  obtain ⟨w, hw, rw'⟩ := r.get hy
  refine call_meets F.slot_list_pop ⟨_, e, rfl⟩ F.entry_list_pop (F.args_list_pop_2 _ _)
    (MeetsSeq.list_pop_at l its.toArray n i t k w (fitsIndex_both h1 h2) (by rw [List.size_toArray, ← hl]; exact hk) (by rw [← Array.getElem?_toList]; exact hw) (by rw [List.size_toArray]; omega)) ⟨e, ?_⟩
  refine ⟨y, _, I.lset (its' := its.eraseIdx k) hH e ?_ (r.eraseIdx k) ?_, rw', q⟩
  · show its.toArray.eraseIdxIfInBounds k = (its.eraseIdx k).toArray
    rw [List.eraseIdxIfInBounds_toArray]
  · have := len_erase xs k
    omega

def rReverse : V → List V → Hp → VK → Prop := fun x vs H Q => ∃ l xs, x = .ref l ∧ vs = [] ∧ H l = some (.lst xs) ∧ Q .non (upd H l (.lst xs.reverse))
theorem mt_reverse : MtM X "list.reverse" rReverse := by
  intro pins s σ H x vs v us Q I rx rv h
  obtain ⟨l, xs, rfl, rfl, hH, q⟩ := h
  cases rx
  have hus := rv.zero
  subst hus
  obtain ⟨z, its, n, r, hl, e⟩ := I.lstM hH
  refine call_meets F.slot_list_reverse ⟨_, e, rfl⟩ F.entry_list_reverse (F.args_list_reverse_1 _) (AutoSeq1.list_reverse_list_0 l its.toArray n (by rw [List.size_toArray]; omega)) ⟨e, ?_⟩
  refine ⟨.non, _, I.lset (its' := its.reverse) hH e (by simp) r.reverse ?_, rfl, q⟩
  rw [List.length_reverse]
  omega

def rClear : V → List V → Hp → VK → Prop := fun x vs H Q => ∃ l xs, x = .ref l ∧ vs = [] ∧ H l = some (.lst xs) ∧ Q .non (upd H l (.lst []))
theorem mt_clear : MtM X "list.clear" rClear := by
  intro pins s σ H x vs v us Q I rx rv h
  obtain ⟨l, xs, rfl, rfl, hH, q⟩ := h
  cases rx
  have hus := rv.zero
  subst hus
  obtain ⟨z, its, n, r, hl, e⟩ := I.lstM hH
  refine call_meets F.slot_list_clear ⟨_, e, rfl⟩ F.entry_list_clear (F.args_list_clear_1 _) (AutoSeq1.list_clear_list_0 l its.toArray n (by rw [List.size_toArray]; omega)) ⟨e, ?_⟩
  exact ⟨.non, _, I.lset (its' := []) (ys := []) hH e rfl .nil (Nat.zero_le _), rfl, q⟩

/-! ### list + list, list += list, list * int -/
def rCat : R2 := fun x y H Q => ∃ l b xs zs, x = .ref l ∧ y = .ref b ∧ H l = some (.lst xs) ∧ H b = some (.lst zs) ∧ xs.length + zs.length ≤ sizeLine ∧ ∀ p, H p = none → Q (.ref p) (upd H p (.lst (xs ++ zs)))
theorem op_cat : OpR X (binaryOp .Add) rCat := by
  intro pins s σ H x y v u Q I rx ry h
  obtain ⟨l, b, xs, zs, rfl, rfl, hH, hB, hz, q⟩ := h
  cases rx
  cases ry
  obtain ⟨z, its, n, r, hl, e⟩ := I.lstM hH
  obtain ⟨z2, its2, n2, r2, hl2, e2⟩ := I.lstM hB
  refine PySem.P.add_list e e2 ?_ (by rw [List.size_toArray, List.size_toArray]; omega)
  have ea : its.toArray ++ its2.toArray = (its ++ its2).toArray := by simp
  rw [ea]
  exact ⟨.ref _, _, I.lnew (t' := s.toks) (r.append r2) (by rw [List.length_append]; omega), rfl, q _ I.fresh⟩
/-- a list times an int (a negative one is nothing) -/
def rRep : R2 := fun x y H Q => ∃ l k xs, x = .ref l ∧ y = .int k ∧ H l = some (.lst xs) ∧ -(2 ^ 63) ≤ k ∧ k < 2 ^ 63 ∧ xs.length * k.toNat ≤ sizeLine ∧
  ∀ p, H p = none → Q (.ref p) (upd H p (.lst (List.replicate k.toNat xs).flatten))
theorem len_rep {α : Type} (xs : List α) (k : Nat) : (List.replicate k xs).flatten.length = k * xs.length := by
  induction k with
  | zero => simp
  | succ k ih => rw [List.replicate_succ, List.flatten_cons, List.length_append, ih, Nat.succ_mul, Nat.add_comm]
theorem op_rep : OpR X (binaryOp .Mult) rRep := by
  intro pins s σ H x y v u Q I rx ry h
  obtain ⟨l, k, xs, rfl, rfl, hH, h1, h2, hz, q⟩ := h
  cases rx
  obtain ⟨t, rfl⟩ := ry
  obtain ⟨z, its, n, r, hl, e⟩ := I.lstM hH
  have hlen : its.toArray.size * k.toNat ≤ sizeLine := by rw [List.size_toArray, ← hl]; exact hz
  have hcap : ¬ its.toArray.size * k.toNat > (2 ^ 63 - 1) / 8 := by
    have : (sizeLine : Nat) ≤ (2 ^ 63 - 1) / 8 := by decide
    omega
  have hfit : ¬ (!Builtin.List.listFitsIndex k) = true := by
    rw [fitsIndex_both h1 h2]
    exact Bool.false_ne_true
  have hlong : ¬ Builtin.List.listTooLong (its.toArray.size * k.toNat) = true := by
    rw [notLongL hlen]
    exact Bool.false_ne_true
  have hnew : List.foldl (fun x1 x2 => x1 ++ x2) #[] (List.replicate (if its.toArray.isEmpty = true then 0 else k.toNat) its.toArray) = (List.replicate k.toNat its).flatten.toArray := by
    have f0 : ∀ m : Nat, List.foldl (fun x1 x2 => x1 ++ x2) #[] (List.replicate m its.toArray) = (List.replicate m its).flatten.toArray := fun m => by
      have := foldl_rep its m []
      rw [List.nil_append] at this
      exact this
    rw [f0]
    cases its with
    | nil => simp
    | cons a r' => rw [if_neg (by simp)]
  refine wpAny_binaryOp_repeat_ref (T := "list") (U := "int") (by decide) ⟨_, e, rfl⟩ (fun s' => typeIs_int s' k t) noFill_list_mul F.fills_int_mul F.slot_int_rmul repeat_list F.slot_int_index.lookup
    (call_meets F.slot_int_rmul (typeIs_int s k t) F.entry_int_rmul (F.args_int_rmul_2 _ _) (int___rmul___int_list k t l its.toArray n)
      ⟨e, rfl, ⟨_, e, rfl⟩, call_meets F.slot_list_mul ⟨_, e, rfl⟩ F.entry_list_mul (F.args_list_mul_2 _ _) (AutoListH.list___mul___list_int_3 l its.toArray n k t hfit hcap hlong) ⟨e, ?_⟩⟩)
  rw [hnew]
  exact ⟨.ref _, _, I.lnew (t' := s.toks) (r.rep k.toNat) (by rw [len_rep, Nat.mul_comm]; exact hz), rfl, q _ I.fresh⟩

/-! ### del xs[i] -/
theorem del_list {pins : List (Addr × Obj)} {s : Shared} {σ : St} {H : Hp} {l : Addr} {xs : List V} {i : Int} {t : Tok} {k : Nat} {Q : Unit → Shared → Prop} (I : Inv X pins σ H s) (hH : H l = some (.lst xs))
    (h1 : -(2 ^ 63) ≤ i) (h2 : i < 2 ^ 63) (hk : seqIndex? i xs.length = some k) (h : ∀ s', Inv X pins σ (upd H l (.lst (xs.eraseIdx k))) s' → Q () s') :
    wpAny (model X.prog X.w) X.A (delItem (.ref l) (.int i t)) Q X.xe s := by
  obtain ⟨z, its, n, r, hl, e⟩ := I.lstM hH
  refine PySem.P.delItem_list (k := k) e (fitsIndex_both h1 h2) (by rw [List.size_toArray, ← hl]; exact hk) (h _ ?_) (by rw [List.size_toArray]; omega)
  refine I.lset (its' := its.eraseIdx k) (t' := s.toks) hH e ?_ (r.eraseIdx k) ?_
  · show its.toArray.eraseIdxIfInBounds k = (its.eraseIdx k).toArray
    rw [List.eraseIdxIfInBounds_toArray]
  · have := len_erase xs k
    omega
end

/-! ### xs[a:b] = ys -/
section
variable {prog : Program} {w : World} {A : Around} {E : Value → Shared → Prop} {s : Shared}
theorem splice_eq (its its2 : List Value) (a c : Nat) : its.toArray.extract 0 a ++ its2.toArray ++ its.toArray.extract c its.toArray.size = (its.take a ++ its2 ++ its.drop c).toArray := by
  apply Array.toList_inj.mp
  first
    | (simp
       exact List.take_of_length_le (by simp))
    | simp [List.take_of_length_le]
    | simp
theorem bounds_run {a c n : Nat} (hac : a ≤ c) (hc : c ≤ n) : sliceBounds (some (a : Int)) (some (c : Int)) none n = ((a : Int), (c : Int), 1) := by
  simp only [sliceBounds, Option.getD_none]
  have h1 : ¬ ((a : Int) < 0) := by omega
  have h2 : ¬ ((c : Int) < 0) := by omega
  simp only [h1, h2, if_false, show (1 : Int) > 0 by decide, if_true]
  congr 1
  · omega
  · congr 1; omega
set_option maxRecDepth 100000 in
/-- list.__setitem__ with a slice of step one and another list -/
theorem setItem_slice {l b sl : Addr} {items new : Array Value} {n n2 : Nat} {vl vu : Value} {a c : Nat} {Q : Unit → Shared → Prop}
    (e : s.heap.get? l = some { cls := .type "list", data := .seq items n }) (e2 : s.heap.get? b = some { cls := .type "list", data := .seq new n2 }) (hne : l ≠ b)
    (hs : s.heap.IsSliceOf sl vl vu .none) (pl : IsPart vl (some (a : Int))) (pu : IsPart vu (some (c : Int))) (hac : a ≤ c) (hc : c ≤ items.size)
    (hsz : items.size + new.size ≤ sizeLine) (h : Q () { s with heap := s.heap.update l (Obj.mapSeq fun xs => xs.extract 0 a ++ new ++ xs.extract c xs.size) }) :
    wpAny (model prog w) A (setItem (.ref l) (.ref sl) (.ref b)) Q E s := by
  have hl : s.heap.IsList l items := PySem.IsL.isList e
  have hb : s.heap.IsList b new := PySem.IsL.isList e2
  obtain ⟨os, hos, hcs, hds⟩ := id hs
  have hTs : s.TypeIs (.ref sl) "slice" := ⟨os, hos, hcs⟩
  have hstep : ¬ ((rawPart none == rawInt 0) = true) := Bool.false_ne_true
  have hsame : Builtin.List.listSameRef (.ref l) (.ref b) = false := by
    unfold Builtin.List.listSameRef
    exact beq_eq_false_iff_ne.mpr hne
  have hmax : (max (a : Int) (c : Int)).toNat = c := by omega
  have hz' : ((fun xs : Array Value => xs.extract 0 a ++ new ++ xs.extract c xs.size) items).size ≤ sizeLine + 1 := by
    simp only [Array.size_append, Array.size_extract]
    omega
  unfold setItem
  try with_reducible refine wpAny_holding ?_
  first | refine wpAny_bind (wpAny_pure ?_) | skip
  refine wpAny_bind (wpAny_sequenceKey hl.typeIs (by decide) ?_)
  refine wpAny_bind (wpAny_callSpecial?_slot (name := Str.ofString "__setitem__") hl.typeIs slot_list_setitem
    (wpAny_call_entry slot_list_setitem hl.typeIs entry_list_setitem ?_ (args_list_setitem _ _ _)))
  show wpAny _ _ (Builtin.List.listSubscript? (.ref sl) >>= _) _ _ s
  refine wpAny_bind ?_
  unfold Builtin.List.listSubscript?
  refine wpAny_bind (wpAny_specialOf hTs slice_no_index ?_)
  simp only [Option.isNone_none, if_true]
  refine wpAny_pure ?_
  show wpAny _ _ (typeOf (.ref sl) >>= _) _ _ s
  refine wpAny_bind (wpAny_typeOf hTs ?_)
  first
    | rw [if_neg (by decide)]
    | refine PySem.W.KFB.if_not (by decide) ?_
  rw [listSliceParts_eq]
  refine wpAny_bind (wpAny_bind (wpAny_field hos hds (x := .none) rfl (wpAny_bind (wpAny_listPart .none ?_))))
  rw [if_neg hstep]
  refine wpAny_bind (wpAny_field hos hds (x := vl) rfl (wpAny_bind (wpAny_listPart pl ?_)))
  refine wpAny_bind (wpAny_field hos hds (x := vu) rfl (wpAny_bind (wpAny_listPart pu (wpAny_pure ?_))))
  first
    | simp only [hsame, Bool.false_eq_true, if_false]
    | refine PySem.W.KFB.if_not hsame ?_
    | (dsimp only
       rw [if_neg (by rw [hsame]; exact Bool.false_ne_true)])
  refine wpAny_bind (m := Builtin.List.listAllItems (.ref b) "must assign iterable to extended slice") ?_
  unfold Builtin.List.listAllItems
  refine wpAny_bind (wpAny_typeOf hb.typeIs ?_)
  first
    | refine PySem.W.KFB.if_so (by decide) ?_
    | rw [if_pos (by decide)]
    | simp only [beq_self_eq_true, Bool.true_or, if_true]
  unfold Builtin.List.listItems
  refine wpAny_bind (wpAny_seqItems e2 rfl (wpAny_pure ?_))
  refine wpAny_bind (wpAny_bind (wpAny_seqItems e rfl (wpAny_pure ?_)))
  refine wpAny_bind (wpAny_of_eq ((sliceIndices_raw (some (a : Int)) (some (c : Int)) none items.size (by simp)).trans (congrArg (pure : Int × Int × Int → Sem (Int × Int × Int)) (bounds_run hac hc))) ?_)
  show wpAny _ _ (if ((1 : Int) == 1) = true then _ else _) _ _ s
  rw [if_pos (by decide)]
  refine wpAny_bind (wpAny_rule ?_)
  first
    | simp only [notLongL hsz, Bool.false_eq_true, if_false]
    | refine PySem.W.KFB.if_not (notLongL hsz) ?_
  first | refine wpAny_bind (wpAny_pure ?_) | skip
  show wpAny _ _ (updateSeq l (fun xs => xs.extract 0 ((a : Int)).toNat ++ new ++ xs.extract (max (a : Int) (c : Int)).toNat xs.size) >>= _) _ _ s
  rw [hmax, Int.toNat_natCast]
  refine wpAny_bind (wpAny_updateSeq (hz := Nat.le_trans (Nat.le_add_right _ _) hsz) (_hz' := hz') e rfl ?_)
  refine wpAny_bind (wpAny_letGo ?_)
  first
    | exact wpAny_bind (wpAny_pure (wpAny_pure ⟨.none, rfl, wpAny_pure h⟩))
    | exact wpAny_pure ⟨.none, rfl, wpAny_pure h⟩
end

section
variable {X : Cx}
/-- xs[a:c] = ys of another list, at the value level: sl is the slice object that was just made -/
theorem set_slice {pins : List (Addr × Obj)} {s : Shared} {σ : St} {H : Hp} {l b sl : Addr} {xs ys : List V} {a c : Int} {vl vu : Value} {Q : Unit → Shared → Prop} (I : Inv X pins σ H s)
    (hH : H l = some (.lst xs)) (hB : H b = some (.lst ys)) (hne : l ≠ b) (hs : s.heap.IsSliceOf sl vl vu .none) (ra : RelV (.int a) vl) (rc : RelV (.int c) vu) (h0 : 0 ≤ a) (hac : a ≤ c) (hc : c ≤ xs.length)
    (hz : xs.length + ys.length ≤ sizeLine) (h : ∀ s', Inv X pins σ (upd H l (.lst (xs.take a.toNat ++ ys ++ xs.drop c.toNat))) s' → Q () s') :
    wpAny (model X.prog X.w) X.A (setItem (.ref l) (.ref sl) (.ref b)) Q X.xe s := by
  obtain ⟨ta, rfl⟩ := ra
  obtain ⟨tc, rfl⟩ := rc
  obtain ⟨z, its, n, r, hl, e⟩ := I.lstM hH
  obtain ⟨z2, its2, n2, r2, hl2, e2⟩ := I.lstM hB
  obtain ⟨a', rfl⟩ := Int.eq_ofNat_of_zero_le h0
  obtain ⟨c', rfl⟩ := Int.eq_ofNat_of_zero_le (Int.le_trans h0 hac)
  simp only [Int.toNat_natCast] at h
  refine setItem_slice (a := a') (c := c') e e2 hne hs (.int _ _) (.int _ _) (by omega) (by rw [List.size_toArray]; omega) (by rw [List.size_toArray, List.size_toArray]; omega) (h _ ?_)
  refine I.lset (its' := its.take a' ++ its2 ++ its.drop c') (t' := s.toks) hH e ?_ (Vals.append (Vals.append (r.take _) r2) (r.drop _)) ?_
  · exact splice_eq its its2 a' c'
  · rw [List.length_append, List.length_append, List.length_take, List.length_drop]
    omega
end
end L2

namespace Att
open PySem PySem.W PySem.Calls PyProof.Rows

/-! ### the script -/
theorem ints_of_wellAll {P : Params} {h : Heap} : ∀ (ns : List Int) (vs : List Value), WellAll P h vs (ns.map WData.int) → IntsAre vs ns := by
  intro ns
  induction ns with
  | nil =>
    intro vs w
    rw [List.map_nil] at w
    cases w
    exact .nil
  | cons n ns ih =>
    intro vs w
    rw [List.map_cons] at w
    cases w with
    | cons a b =>
      cases a
      exact .cons _ _ (ih _ b)

theorem script_of {l : OpenLaw} {n : Nat} (hn : l.most = some n) {P : Params} {h : Heap} {args : List WData} {vals : List Value}
    (hpre : l.row.toRowW.claim.pre args = true) (hwl : WellAll P h vals args) :
    ∃ a vs ns, vals = [Value.ref a] ∧ args = [WData.list (ns.map WData.int)] ∧ h.get? a = some { cls := .type "list", data := .seq vs.toArray } ∧ IntsAre vs ns ∧ ns.length ≤ n := by
  have hsh : WShape.hasAll [] args [.list .int] = true := (pre_splitW hpre).1
  have hc : l.pre.holds [] { args := args } = true := (pre_splitW hpre).2
  obtain ⟨d, r, rfl, h1, h2⟩ := hasAllW_cons hsh
  obtain rfl := hasAllW_nil h2
  obtain ⟨xs, rfl, h3⟩ := hasW_list h1
  obtain ⟨ns, rfl⟩ := items_int h3
  have hlen : ns.length ≤ n := by
    unfold OpenLaw.pre at hc
    have h4 : (WTm.not (.lt (.lit (.int (n : Int))) (.len (.arg 0)))).holds [] { args := [.list (ns.map .int)] } = true := by
      have h4 := (holds_andW hc).1
      rw [hn] at h4
      exact h4
    have h5 := condW_of h4 (w_not (w_lt w_lit (w_len_list (w_arg rfl))))
    rw [List.length_map] at h5
    refine Nat.le_of_not_lt fun q => ?_
    have q' : (n : Int) < ((ns.length : Nat) : Int) := by omega
    first
      | (rw [decide_eq_true q'] at h5; exact absurd h5 (by decide))
      | (simp at h5; omega)
  cases hwl with
  | cons w1 w2 =>
    cases w2
    cases w1 with
    | list ho hall => exact ⟨_, _, ns, rfl, rfl, ho, ints_of_wellAll ns _ hall, hlen⟩

theorem post_true (l : OpenLaw) (args : List WData) : l.row.toRowW.claim.post args (.bool true) args = true :=
  postW_of (r := l.row.toRowW) (X := (true == true))
    (show WShape.has [] (.bool true) .bool = true by first | rfl | decide | simp [WShape.has, WShape.arms, WShape.armsAll])
    (show (WTm.eq .res (.lit (.bool true))).value [] { args := args, res := some (.bool true), after := args } = some (.bool (true == true)) from w_eq_bool (w_res rfl) w_lit) rfl

/-! ### the attachment: holds_open's last premise (the goal 'hc' behind k_head) from a wpAny of the law's body -/
theorem attach {l : OpenLaw} {n : Nat} {q : Program} {loose : List Str} {XP : (Str → Option Value) → Heap → Prop} {YP : World → Heap → Prop} {d : DefRec} {x : Str}
    (hn : l.most = some n) (hdf : d.params.defaults = [])
    (hbind : ∀ pm cd doc v : Value, bindArgs (docDef d.name d.params d.body d.scope pm cd doc) ⟨[v], []⟩ = pure [(x, v)])
    (hx : d.scope.names.lookup x = some .local ∨ d.scope.names.lookup x = some .cell)
    (hk : d.scope.kind = .function) (hco : d.scope.isCoroutine = false) (hgen : d.scope.isGenerator = false)
    (body : ∀ (w : World) (s₀ s₁ s : Shared) (mg mb : Str → Option Value) (fa : Addr) (o : Obj) (pm cd doc : Value) (a : Addr) (vs : List Value) (ns : List Int),
      Ground q loose [] XP w s₀ mg mb s₁.heap → YP w s₁.heap →
      s₁.heap.get? fa = some o → o.data = .func (docDef d.name d.params d.body d.scope pm cd doc) → s₁.heap.CodeRec cd d.name → mg d.name = some (.ref fa) →
      s₁.heap.get? a = some { cls := .type "list", data := .seq vs.toArray } → IntsAre vs ns → ns.length ≤ n →
      s.gens = #[] → s.os = s₁.os →
      Fr s₁.heap s₁.heap.objs.size s.heap (bindL (envOfC d.name d.scope s₁.heap.objs.size fa cd).kindOf [(x, .ref a)] fun _ => none) →
      Cl s₁.heap.objs.size (cellsFrom (s₁.heap.objs.size + 1) d.scope.names []) s.heap (bindC (envOfC d.name d.scope s₁.heap.objs.size fa cd).kindOf [(x, .ref a)] fun _ => none) →
      wpAny (model l.prog w) (callerA.deeper (envOfC d.name d.scope s₁.heap.objs.size fa cd)) (execs d.body (envOfC d.name d.scope s₁.heap.objs.size fa cd))
        (fun f s' => f = .ret (.bool true) ∧ OldK s₁.heap s'.heap ∧ s'.os = s₁.os ∧ AllBare s'.gens) (fun _ _ => False) s) :
    WalkO q loose XP YP l.row.toRowW d [] (fun f vs => PySem.call f vs) := by
  intro w s₀ s₁ mg mb G Y fa o pm cd doc dV kV ho hd hcd hD hmg hg args vals as hpre hlay hrd hwl hlo
  obtain rfl : dV = .none := Dflts.none hD hdf
  obtain rfl : kV = .none := Dflts.noKw hD
  obtain ⟨a, vs, ns, rfl, rfl, hobj, hints, hlen⟩ := script_of hn hpre hwl
  refine enter_call ?_
  refine call_cells_ret (o := o) (by rw [depth_caller]; decide) ho (fd_plain hd) G.T.nolimit hcd (hbind pm cd doc (.ref a)) (fun y hy => ?_) (fun h₁ tk F X => ?_) hco hgen hk
  · obtain rfl : y = (x, Value.ref a) := List.mem_singleton.mp hy
    rcases hx with e | e
    · exact .inl e
    · exact .inr ⟨e, cellsFrom_some _ _ _ (.inl e)⟩
  · refine wpAny_mono (body w s₀ s₁ { s₁ with heap := h₁, toks := tk } mg mb fa o pm cd doc a vs ns G Y ho (fd_plain hd) hcd hmg hobj hints hlen hg rfl F X) (fun f s' hq => ?_) (fun _ _ hq => hq)
    obtain ⟨rfl, h2, h3, h4⟩ := hq
    exact ⟨.inl ⟨.bool true, .bool true, [], rfl, fun _ => rfl, .bool true, post_true l _, fun _ => ⟨List.Pairwise.nil, fun _ hm => (nomatch hm)⟩⟩, h2, h3, h4⟩

/-- the same from a codeAny of the CALL (for a layer whose function contracts speak of calls) -/
theorem attach_call {l : OpenLaw} {n : Nat} {q : Program} {loose : List Str} {XP : (Str → Option Value) → Heap → Prop} {YP : World → Heap → Prop} {d : DefRec}
    (hn : l.most = some n) (hdf : d.params.defaults = [])
    (call : ∀ (w : World) (s₀ s₁ : Shared) (mg mb : Str → Option Value) (fa : Addr) (o : Obj) (pm cd doc : Value) (a : Addr) (vs : List Value) (ns : List Int),
      Ground q loose [] XP w s₀ mg mb s₁.heap → YP w s₁.heap →
      s₁.heap.get? fa = some o → o.data = .func (docDef d.name d.params d.body d.scope pm cd doc) → s₁.heap.CodeRec cd d.name → mg d.name = some (.ref fa) →
      s₁.heap.get? a = some { cls := .type "list", data := .seq vs.toArray } → IntsAre vs ns → ns.length ≤ n → s₁.gens = #[] →
      codeAny (model l.prog w) callerA (.call (.ref fa) ⟨[.ref a], []⟩) (fun r s' => r = .ok (.ret (.bool true)) ∧ OldK s₁.heap s'.heap ∧ s'.os = s₁.os ∧ AllBare s'.gens) s₁) :
    WalkO q loose XP YP l.row.toRowW d [] (fun f vs => PySem.call f vs) := by
  intro w s₀ s₁ mg mb G Y fa o pm cd doc dV kV ho hd hcd hD hmg hg args vals as hpre hlay hrd hwl hlo
  obtain rfl : dV = .none := Dflts.none hD hdf
  obtain rfl : kV = .none := Dflts.noKw hD
  obtain ⟨a, vs, ns, rfl, rfl, hobj, hints, hlen⟩ := script_of hn hpre hwl
  refine enter_call (codeAny_mono (call w s₀ s₁ mg mb fa o pm cd doc a vs ns G Y ho (fd_plain hd) hcd hmg hobj hints hlen hg) fun r s' hq => ?_)
  obtain ⟨rfl, h2, h3, h4⟩ := hq
  exact ⟨.inl ⟨.bool true, .bool true, [], rfl, fun _ => rfl, .bool true, post_true l _, fun _ => ⟨List.Pairwise.nil, fun _ hm => (nomatch hm)⟩⟩, h2, h3, h4⟩

/-- the same where the top left finished generators (o_head chose holds_openN): nothing may have changed at all and no generator may be left -/
theorem attachN {l : OpenLaw} {n : Nat} {q : Program} {loose : List Str} {XP : (Str → Option Value) → Heap → Prop} {YP : World → Heap → Prop} {d : DefRec} {x : Str}
    (hn : l.most = some n) (hdf : d.params.defaults = [])
    (hbind : ∀ pm cd doc v : Value, bindArgs (docDef d.name d.params d.body d.scope pm cd doc) ⟨[v], []⟩ = pure [(x, v)])
    (hx : d.scope.names.lookup x = some .local ∨ d.scope.names.lookup x = some .cell)
    (hk : d.scope.kind = .function) (hco : d.scope.isCoroutine = false) (hgen : d.scope.isGenerator = false)
    (body : ∀ (w : World) (s₀ s₁ s : Shared) (mg mb : Str → Option Value) (fa : Addr) (o : Obj) (pm cd doc : Value) (a : Addr) (vs : List Value) (ns : List Int),
      Ground q loose [] XP w s₀ mg mb s₁.heap → YP w s₁.heap →
      s₁.heap.get? fa = some o → o.data = .func (docDef d.name d.params d.body d.scope pm cd doc) → s₁.heap.CodeRec cd d.name → mg d.name = some (.ref fa) →
      s₁.heap.get? a = some { cls := .type "list", data := .seq vs.toArray } → IntsAre vs ns → ns.length ≤ n →
      s.gens = #[] → s.os = s₁.os →
      Fr s₁.heap s₁.heap.objs.size s.heap (bindL (envOfC d.name d.scope s₁.heap.objs.size fa cd).kindOf [(x, .ref a)] fun _ => none) →
      Cl s₁.heap.objs.size (cellsFrom (s₁.heap.objs.size + 1) d.scope.names []) s.heap (bindC (envOfC d.name d.scope s₁.heap.objs.size fa cd).kindOf [(x, .ref a)] fun _ => none) →
      wpAny (model l.prog w) (callerA.deeper (envOfC d.name d.scope s₁.heap.objs.size fa cd)) (execs d.body (envOfC d.name d.scope s₁.heap.objs.size fa cd))
        (fun f s' => f = .ret (.bool true) ∧ (∀ b o, s₁.heap.get? b = some o → s'.heap.get? b = some o) ∧ s'.os = s₁.os ∧ s'.gens = #[]) (fun _ _ => False) s) :
    WalkN q loose XP YP l.row.toRowW d [] (fun f vs => PySem.call f vs) := by
  intro w s₀ s₁ mg mb G Y fa o pm cd doc dV kV ho hd hcd hD hmg hg args vals as hpre hlay hrd hwl hlo
  obtain rfl : dV = .none := Dflts.none hD hdf
  obtain rfl : kV = .none := Dflts.noKw hD
  obtain ⟨a, vs, ns, rfl, rfl, hobj, hints, hlen⟩ := script_of hn hpre hwl
  refine enter_callW ?_
  refine call_cells_ret (o := o) (by rw [depth_caller]; decide) ho (fd_plain hd) G.T.nolimit hcd (hbind pm cd doc (.ref a)) (fun y hy => ?_) (fun h₁ tk F X => ?_) hco hgen hk
  · obtain rfl : y = (x, Value.ref a) := List.mem_singleton.mp hy
    rcases hx with e | e
    · exact .inl e
    · exact .inr ⟨e, cellsFrom_some _ _ _ (.inl e)⟩
  · refine wpAny_mono (body w s₀ s₁ { s₁ with heap := h₁, toks := tk } mg mb fa o pm cd doc a vs ns G Y ho (fd_plain hd) hcd hmg hobj hints hlen hg rfl F X) (fun f s' hq => ?_) (fun _ _ hq => hq)
    obtain ⟨rfl, h2, h3, h4⟩ := hq
    exact ⟨.inl ⟨.bool true, .bool true, [], rfl, fun _ => rfl, .bool true, post_true l _, fun _ => ⟨List.Pairwise.nil, fun _ hm => (nomatch hm)⟩⟩, h2, h3, h4⟩

/-! ### rules over ANY heap (no ledger) from facts about the written part K: the library's own take a ledger (News) for what they write -/
section
variable {prog : Program} {w : World} {A : Around} {E : Value → Shared → Prop} {s : Shared} {K : Frag}

/-- a def of the module, or a method (qual 'C.m'), entered: the frame is the next address; cells behind it -/
theorem call_fn {R : Result → Shared → Prop} {name qual : Str} {params : Arguments} {body : List Stmt} {scope : Scope} {dV kV doc pm cdv ct oc : Value} {an od : Option Addr} {osl : Array (Option Value)} {f : Addr} {args : Args} {binds : List (Str × Value)}
    (X : K.In s.heap) (hlim : s.heap.NoLimit) (ho : K.lookup f = some ⟨oc, od, .func (fnOf name qual params body scope dV kV doc pm an cdv ct), osl⟩) (hcd : codeIn K cdv qual = true) (hroom : A.depth < recursionLimit)
    (hbind : BindsTo s (fnOf name qual params body scope dV kV doc pm an cdv ct) args binds)
    (hkind : (binds.all fun y => scope.names.lookup y.1 == some .local || scope.names.lookup y.1 == some .cell) = true)
    (h : ∀ s₁, InCallC s s.heap.objs.size (bindL (envOfC qual scope s.heap.objs.size f cdv).kindOf binds fun _ => none) (cellsFrom (s.heap.objs.size + 1) scope.names [])
        (bindC (envOfC qual scope s.heap.objs.size f cdv).kindOf binds fun _ => none) s₁ →
      wpAny (model prog w) (A.deeper (envOfC qual scope s.heap.objs.size f cdv)) (execs body (envOfC qual scope s.heap.objs.size f cdv))
        (fun fl s' => R (.ok (.ret (match fl with | .ret v => v | _ => .none))) s')
        (fun e s' => wpAny (model prog w) (A.deeper (envOfC qual scope s.heap.objs.size f cdv)) (leaving (envOfC qual scope s.heap.objs.size f cdv) e) (fun _ s'' => R (.error e) s'') (fun e' s'' => R (.error e') s'') s') s₁)
    (hco : scope.isCoroutine = false) (hgen : scope.isGenerator = false) (hk : scope.kind = .function) : codeAny (model prog w) A (.call (.ref f) args) R s := by
  refine codeAny_call_function hroom (X _ _ ho) rfl hco hgen rfl (codeRec_of X hcd) (hbind _ _ _ _ ?_)
  refine wpAny_newFunctionEnv_cells hk (kindsX hkind _) fun env he s₁ x => ?_
  subst he
  exact ⟨hlim.keeps x.toInCall.keep, codeAny_func (h s₁ x)⟩

/-- C(..): dict at size, instance at size + 1, then __init__ -/
theorem make_obj {R : Result → Shared → Prop} {C fI : Addr} {rest : List Value} {kw : List (Str × Value)}
    (X : K.In s.heap) (hm : makesIn K C = true) (hi : findIn K (.ref C) "__init__" = some (some (.ref fI))) (hf : isFn K (.ref fI) = true)
    (h : codeAny (model prog w) (A.under (.builtin "type.__call__" ⟨.ref C :: rest, kw⟩)) (.call (.ref fI) ⟨.ref (s.heap.objs.size + 1) :: rest, kw⟩) (InitBack (s.heap.objs.size + 1) R)
      { s with heap := (s.heap.push emptyDict).push (instObj C s.heap.objs.size) }) : codeAny (model prog w) A (.call (.ref C) ⟨rest, kw⟩) R s := by
  obtain ⟨hh, g, d, t, os⟩ := s
  exact make_core (makes_of X hm) (looks_findIn X hi) (fun self => bind_fn X self (beq_iff_eq.mp hf)) (.inl rfl) h

/-- x.name where the instance's dict holds the name and the class does not -/
theorem get_field {x C : Addr} {ox : Obj} {es : List DictEntry} {n : Nat} {name : Str} {expr : Bool} {v : Value} {Q : Value → Shared → Prop}
    (X : K.In s.heap) (I : PySem.W.InstAt s.heap x ox C (some (dictOf es n))) (hg : plainGet K C name = true) (hh : hasDictIn K C = true) (ha : findIn K (.ref C) name = some none)
    (hl : getL name es = some (some v)) (hv : handedIn v = true) (h : Q v { s with toks := s.toks + 1 }) : wpAny (model prog w) A (getAttr (.ref x) name expr) Q E s :=
  get_value X I (plainGet_of hg).1 (findObj_own hh ha rfl hl) hv h

/-- x.m(..): the method found in the class -/
theorem get_method {x C f : Addr} {ox : Obj} {es : List DictEntry} {n : Nat} {name : Str} {pl : Sem Bool} {Q : Value × List Value → Shared → Prop}
    (X : K.In s.heap) (I : PySem.W.InstAt s.heap x ox C (some (dictOf es n))) (hg : plainGet K C name = true) (hf : findIn K (.ref C) name = some (some (.ref f))) (ht : isFn K (.ref f) = true)
    (hl : getL name es = some none) (h : Q (.ref f, [.ref x]) s) : wpAny (model prog w) A (getMethod (.ref x) name pl) Q E s :=
  method_fn X I (plainGet_of hg).1 (plainGet_of hg).2 hf (beq_iff_eq.mp ht) (by show (lookIn name (dictOf es n)).map _ = _; rw [lookIn_dict, hl]; rfl) h

/-! the whole heap as the ledger: makes every rule that writes through a ledger a rule over any heap -/
def noObjs (h : Heap) : Heap := { h with objs := #[] }
theorem noObjs_get (h : Heap) (b : Addr) : (noObjs h).get? b = none := by
  cases e : (noObjs h).get? b with
  | none => rfl
  | some o => exact absurd (Heap.lt_size e) (Nat.not_lt_zero _)
def ledger (h : Heap) (L d : Addr) : List (Addr × Obj) := (List.range h.objs.size).filterMap fun a => if a = L ∨ a = d then none else (h.get? a).map fun o => (a, o)
theorem mem_ledger {h : Heap} {L d a : Addr} {o : Obj} : (a, o) ∈ ledger h L d ↔ a ≠ L ∧ a ≠ d ∧ h.get? a = some o := by
  unfold ledger
  rw [List.mem_filterMap]
  constructor
  · rintro ⟨b, _, e⟩
    split at e
    · cases e
    · rename_i hb
      obtain ⟨o', ho, e'⟩ := Option.map_eq_some_iff.mp e
      cases e'
      exact ⟨fun q => hb (.inl q), fun q => hb (.inr q), ho⟩
  · rintro ⟨n1, n2, ho⟩
    refine ⟨a, List.mem_range.mpr (Heap.lt_size ho), ?_⟩
    rw [if_neg (show ¬ (a = L ∨ a = d) from fun q => q.elim n1 n2), ho] <;> rfl
theorem news_ledger {h : Heap} {L d : Addr} {od : Obj} (hne : d ≠ L) (ho : h.get? d = some od) : News (noObjs h) L h ([] ++ (d, od) :: ledger h L d) := by
  rintro ⟨a, o⟩ hp
  rcases List.mem_cons.mp hp with e | hp
  · cases e
    exact ⟨ho, hne, noObjs_get _ _⟩
  · obtain ⟨n1, n2, e⟩ := mem_ledger.mp hp
    exact ⟨e, n1, noObjs_get _ _⟩
theorem fr_all {h : Heap} {L : Addr} {m : Str → Option Value} (n : h.Ns L m) : Fr (noObjs h) L h m :=
  ⟨n, fun b o e => (by rw [noObjs_get] at e; cases e), Nat.zero_le _⟩
/-- Upd of the head entry (for append_K, setItem_K ..) -/
theorem upd_ledger {h : Heap} {L d : Addr} {o o' : Obj} : Upd d o o' ((d, o) :: ledger h L d) ((d, o') :: ledger h L d) :=
  .head fun ⟨_, _⟩ hp => (mem_ledger.mp hp).2.1

/-- x.name = v over any heap: L is any namespace of the heap (the frame's, say): its map stays, its object is not told; all else but the dict stays -/
theorem set_field {x C dx L : Addr} {ox : Obj} {m : Str → Option Value} {es es' : List DictEntry} {n n' : Nat} {name : Str} {v : Value} {Q : Unit → Shared → Prop}
    (X : K.In s.heap) (I : PySem.W.InstAt s.heap x ox C (some (dictOf es n))) (hd : ox.dict = some dx) (hL : s.heap.Ns L m) (hne : dx ≠ L)
    (hs : findIn K (.ref C) "__setattr__" = some (some (.builtin "object.__setattr__"))) (hp : plainOver K C = true) (ht : takerIn K C name = some none) (hh : hasDictIn K C = true) (hl : (getL name es).isSome = true)
    (e : (putL name (PyData.keyHash w.params name) (.str name (s.toks + 1)) v es, putN name es n) = (es', n')) (hz : es'.length ≤ 1000)
    (h : ∀ h' : Heap, h'.Ns L m → h'.get? dx = some (dictOf es' n') → (∀ b o, b ≠ dx → b ≠ L → s.heap.get? b = some o → h'.get? b = some o) → Q () { s with heap := h', toks := s.toks + 2 }) :
    wpAny (model prog w) A (setAttr (.ref x) name v) Q E s := by
  obtain ⟨e1, e2⟩ := Prod.mk.inj e
  have hdx : s.heap.get? dx = some (dictOf es n) := by
    have := I.dict
    rw [hd] at this
    exact this
  refine set_plain X I hs (osa_dict (s := { s with toks := s.toks + 1 }) (h₀ := noObjs s.heap) (L := L) (m := m) (od := dictOf es n) (od' := dictOf es' n') (es := es') (n := n') (pre := []) (post := ledger s.heap L dx)
    (fr_all hL) (news_ledger hne hdx) X I hd hp ht hh hl (fun _ q => nomatch q) (fun ⟨_, _⟩ q => (mem_ledger.mp q).2.1) (by rw [putName_dict, e1, e2]) rfl hz fun h' F' N' => ?_)
  exact h h' F'.ns (N'.get (List.Mem.head _)) fun b o n1 n2 ho => N'.get (List.Mem.tail _ (mem_ledger.mpr ⟨n2, n1, ho⟩))
end
end Att

namespace L2
open PySem PySem.Spec PyProof.Rows

theorem vals_ints : ∀ {vs : List Value} {ns : List Int}, IntsAre vs ns → Vals (ns.map V.int) vs
  | _, _, .nil => .nil
  | _, _, .cons n t h => .cons ⟨t, rfl⟩ (vals_ints h)

/-- nothing is tracked but the script, known to the object (or it is an object of the module) -/
def Only (H : Hp) : Prop := ∀ b, H b = none ∨ ∃ o xs, H b = some (.frz o (.lst xs))

/-- THE HEAD: the law's promise, at the heap behind the top. F, the promise of the law's def, may use that base is part of the heap (so K.In base, base.Ns mainGlobals mg stand in Mod) -/
theorem law_call {P : Program} {w : World} {K : PySem.W.Frag} {mg mb : Str → Option Value} {CX : CXT} {k : Nat} {fa a : Addr} {fd : FuncData} {x : Str} {sp : Sp} {s₁ : Shared} {vs : List Value} {ns : List Int}
    (KX : K.In s₁.heap) (hns : s₁.heap.Ns mainGlobals mg) (hb : s₁.heap.Ns builtinsNs mb) (hbb : ∀ x : Str, x ≠ "__name__" → mb x = bootBuiltins x) (hlim : s₁.heap.NoLimit) (hg : s₁.gens = #[])
    (ha : s₁.heap.get? a = some { cls := .type "list", data := .seq vs.toArray }) (hi : IntsAre vs ns) (hl : ns.length ≤ sizeLine) (hr : Room k callerA)
    (F : ∀ base : Heap, K.In base → base.Ns mainGlobals mg → FnOk P w K mg base CX k fa fd [x] sp) (hbind : ∀ (s : Shared) (u : Value), BindsTo s fd ⟨[u], []⟩ [(x, u)])
    (hsp : ∀ H : Hp, Only H → SqL K H a (ns.map V.int) → sp [.ref a] H (fun v _ => v = .bl true) fun _ _ _ => False)
    (hCX : ∀ H e s', CX [] H s₁ (fun _ _ _ => False) e s' → False) :
    codeAny (model P w) callerA (.call (.ref fa) ⟨[.ref a], []⟩) (fun r s' => r = .ok (.ret (.bool true)) ∧ OldK s₁.heap s'.heap ∧ s'.os = s₁.os ∧ AllBare s'.gens) s₁ := by
  have rv := vals_ints hi
  have lenV := hi.length
  -- from an abstract heap in which nothing but the script may be tracked
  have core : ∀ H : Hp, Only H → SqL K H a (ns.map V.int) → HOk P w H s₁.heap → (∀ b, H b ≠ none → b = a) → (H a ≠ none → K.lookup a = none) →
      codeAny (model P w) callerA (.call (.ref fa) ⟨[.ref a], []⟩) (fun r s' => r = .ok (.ret (.bool true)) ∧ OldK s₁.heap s'.heap ∧ s'.os = s₁.os ∧ AllBare s'.gens) s₁ := by
    intro H hO hS hok hA hK
    have base_of : ∀ {b : Addr} {o : Obj}, s₁.heap.get? b = some o → H b = none → (hidT s₁.heap H).get? b = some o := fun e n => hidT_get e n
    have noA : ∀ {b : Addr} {o : Obj} {es : Array DictEntry} {ep : Nat}, s₁.heap.get? b = some o → o.data = .dict es ep → H b = none := fun {b o es ep} e d => by
      cases q : H b with
      | none => rfl
      | some u =>
        have e' : b = a := hA b (by rw [q]; simp)
        subst e'
        rw [ha] at e; cases e
        have d' : Data.seq vs.toArray _ = Data.dict es ep := d
        cases d'
    have nsK : ∀ {b : Addr} {m : Str → Option Value}, s₁.heap.Ns b m → (hidT s₁.heap H).Ns b m := fun {b m} ⟨o, es, ep, e, d, r⟩ => ⟨o, es, ep, base_of e (noA e d), d, r⟩
    have hKb : K.In (hidT s₁.heap H) := fun b o e => base_of (KX b o e) (by
      cases q : H b with
      | none => rfl
      | some u =>
        have e' : b = a := hA b (by rw [q]; simp)
        subst e'
        rw [hK (by rw [q]; simp)] at e; cases e)
    have hM : Mod K mg (hidT s₁.heap H) := ⟨hKb, nsK hns, ⟨mb, nsK hb, hbb⟩, let ⟨mc, h1, h2⟩ := hlim; ⟨mc, nsK h1, h2⟩⟩
    have e0 : Env0 P w K mg (hidT s₁.heap H) callerA [] s₁ H := ⟨rfl, hM, fun b o e => of_hidT e, Nat.le_of_eq (hidT_size _ _), trivial, fun b hb => absurd (show b ∈ ([] : List Addr) from hb) (by simp), hok, .of_eq hg⟩
    refine codeAny_mono ((F _ hKb (nsK hns)).run callerA [] s₁ H ⟨[.ref a], []⟩ [.ref a] [.ref a] _ _ hr e0 (hbind s₁ (.ref a)) (.cons rfl .nil) (hsp H hO hS)) fun r s' h => ?_
    cases r with
    | error e => exact (hCX H e s' h).elim
    | ok fl =>
      cases fl with
      | next => exact False.elim h
      | brk => exact False.elim h
      | cont => exact False.elim h
      | ret u =>
        obtain ⟨v, H', os, bare, un, hok', r', q⟩ := h
        have q' : v = .bl true := q
        subst q'
        obtain rfl : u = Value.bool true := r'
        refine ⟨rfl, OldK.of_keep fun b o e => ?_, os, bare⟩
        cases q : H b with
        | none => exact un.keep b o e q (by intro z; exact absurd (show b ∈ ([] : List Addr) from z) (by simp)) (by simp)
        | some u =>
          rcases hO b with z | ⟨ob, xs, z⟩
          · rw [q] at z; cases z
          · have z2 := un.frzs b ob _ z
            obtain ⟨e1, _⟩ := hok b _ z
            obtain ⟨e2, _⟩ := hok' b _ z2
            rw [e] at e1; cases e1
            exact e2
  cases hk : K.lookup a with
  | some o =>
    -- the script is one of the module's own objects
    have e := KX a o hk
    rw [ha] at e
    cases e
    refine core (fun _ => none) (fun _ => .inl rfl) (.inr ⟨_, vs.toArray, _, hk, rfl, rfl, rfl, by rw [List.size_toArray, lenV]; exact hl, by simpa using rv⟩) (fun b u z => by have z' : (none : Option HO) = some u := z; cases z') (fun b z => absurd rfl z) fun z => absurd rfl z
  | none =>
    refine core (fun b => if b = a then some (.frz { cls := .type "list", data := .seq vs.toArray } (.lst (ns.map V.int))) else none) (fun b => ?_) (.inl (.inr ⟨{ cls := .type "list", data := .seq vs.toArray }, if_pos rfl⟩)) (fun b u z => ?_) (fun b z => ?_) fun _ => hk
    · by_cases hb : b = a
      · exact .inr ⟨_, _, if_pos hb⟩
      · exact .inl (if_neg hb)
    · by_cases hb : b = a
      · have z' := (if_pos hb).symm.trans z
        cases z'
        subst hb
        exact ⟨ha, by rw [List.length_map]; exact hl, vs, _, rv, ha⟩
      · have z' := (if_neg hb).symm.trans z
        cases z'
    · by_cases hb : b = a
      · exact hb
      · exact absurd (if_neg hb) z
end L2

namespace L2
open PySem PySem.Spec PyProof.Rows

abbrev KOf {K : PySem.W.Frag} {h : Heap} (_ : K.In h) : PySem.W.Frag := K

/-- the goal that k_head leaves (case hc), from the law's promise. F gives the function object fd (K's own) once, then the promise over every base -/
theorem walk_of {l : PySem.W.OpenLaw} {n k : Nat} {q : Program} {loose : List Str} {XP : (Str → Option Value) → Heap → Prop} {YP : World → Heap → Prop} {d : DefRec} {K : Params → PySem.W.Frag} {CX : World → CXT} {sp : World → Sp} {x : Str}
    (hn : l.most = some n) (hn2 : n ≤ sizeLine) (hdf : d.params.defaults = []) (hr : Room k callerA)
    (hY : ∀ (w : World) (h : Heap), YP w h → (K w.params).In h)
    (F : ∀ (w : World) (mg : Str → Option Value) (fa : Addr) (h : Heap), (K w.params).In h → h.Ns mainGlobals mg → mg d.name = some (.ref fa) →
      ∃ fd : FuncData, (∀ (s : Shared) (u : Value), BindsTo s fd ⟨[u], []⟩ [(x, u)]) ∧
        ∀ base : Heap, (K w.params).In base → base.Ns mainGlobals mg → FnOk l.prog w (K w.params) mg base (CX w) k fa fd [x] (sp w))
    (hsp : ∀ (w : World) (H : Hp) (a : Addr) (ns : List Int), ns.length ≤ n → Only H → SqL (K w.params) H a (ns.map V.int) → sp w [.ref a] H (fun v _ => v = .bl true) fun _ _ _ => False)
    (hCX : ∀ (w : World) (H : Hp) (s : Shared) (e : Value) (s' : Shared), CX w [] H s (fun _ _ _ => False) e s' → False) :
    PySem.W.WalkO q loose XP YP l.row.toRowW d [] (fun f vs => PySem.call f vs) := by
  refine Att.attach_call hn hdf fun w s₀ s₁ mg mb fa o pm cd doc a vs ns G Y ho hd hcd hmg hobj hints hlen hg => ?_
  have KX := hY w _ Y
  obtain ⟨fd, hb, hF⟩ := F w mg fa _ KX G.T.g hmg
  exact law_call KX G.T.g G.T.b G.T.builtins G.T.nolimit hg hobj hints (Nat.le_trans hlen hn2) hr hF hb (fun H hO hS => hsp w H a ns hlen hO hS) fun H e s' => hCX w H s₁ e s'
/-- the same where the promise hangs on the written part alone: (sp := My.sp_law), no hole under a binder -/
theorem walk_ofK {l : PySem.W.OpenLaw} {n k : Nat} {q : Program} {loose : List Str} {XP : (Str → Option Value) → Heap → Prop} {YP : World → Heap → Prop} {d : DefRec} {K : Params → PySem.W.Frag} {CX : CXT} {sp : PySem.W.Frag → Sp} {x : Str}
    (hn : l.most = some n) (hn2 : n ≤ sizeLine) (hdf : d.params.defaults = []) (hr : Room k callerA)
    (hY : ∀ (w : World) (h : Heap), YP w h → (K w.params).In h)
    (F : ∀ (w : World) (mg : Str → Option Value) (fa : Addr) (h : Heap), (K w.params).In h → h.Ns mainGlobals mg → mg d.name = some (.ref fa) →
      ∃ fd : FuncData, (∀ (s : Shared) (u : Value), BindsTo s fd ⟨[u], []⟩ [(x, u)]) ∧
        ∀ base : Heap, (K w.params).In base → base.Ns mainGlobals mg → FnOk l.prog w (K w.params) mg base CX k fa fd [x] (sp (K w.params)))
    (hsp : ∀ (K : PySem.W.Frag) (H : Hp) (a : Addr) (ns : List Int), ns.length ≤ n → Only H → SqL K H a (ns.map V.int) → sp K [.ref a] H (fun v _ => v = .bl true) fun _ _ _ => False)
    (hCX : ∀ (H : Hp) (s : Shared) (e : Value) (s' : Shared), CX [] H s (fun _ _ _ => False) e s' → False) :
    PySem.W.WalkO q loose XP YP l.row.toRowW d [] (fun f vs => PySem.call f vs) :=
  walk_of (K := K) (CX := fun _ => CX) (sp := fun w => sp (K w.params)) hn hn2 hdf hr hY F (fun w H a ns h1 h2 h3 => hsp (K w.params) H a ns h1 h2 h3) fun _ H s e s' => hCX H s e s'
end L2



/-! SHORT WORDS over the layer: a def of the text, its body, what a loop and a test want. -/
namespace L2
open PySem PySem.Spec PyProof.Rows

/-! ### the text by places -/
/-- the j-th statement of a class's body -/
def inClass (s : Stmt) (j : Nat) : Stmt := match s with
  | .ClassDef _ _ _ body _ _ _ _ _ _ _ => body.getD j (.Pass ⟨0, 0, 0, 0⟩)
  | _ => .Pass ⟨0, 0, 0, 0⟩
def defArgs (s : Stmt) : Arguments := match s with
  | .FunctionDef _ a _ _ _ _ _ _ _ _ => a
  | _ => { posonlyargs := [], args := [], vararg := none, kwonlyargs := [], kw_defaults := [], kwarg := none, defaults := [] }
def defBody (s : Stmt) : List Stmt := match s with
  | .FunctionDef _ _ b _ _ _ _ _ _ _ => b
  | _ => []
def defScope (s : Stmt) : Scope := match s with
  | .FunctionDef _ _ _ _ _ _ sc _ _ _ => sc
  | _ => { kind := .function, names := [], isGenerator := false, isCoroutine := false }

/-! ### no exception leaves a def -/
abbrev CX0 : CXT := fun _ _ _ _ _ _ => False
abbrev E0 : XK := fun _ _ _ => False
theorem pass0 {X : Cx} : Passes CX0 X E0 := fun _ _ _ _ _ _ _ h => h.elim

/-! ### a def (or method) of the text as it stands behind the top -/
structure Fun (K : PySem.W.Frag) (x qual : Str) (st : Stmt) (f : Addr) (fd : FuncData) : Prop where
  ex : ∃ (oc : Value) (od : Option Addr) (kV doc pm : Value) (an : Option Addr) (cdv ct : Value) (osl : Array (Option Value)),
    fd = PySem.W.fnOf x qual (defArgs st) (defBody st) (defScope st) .none kV doc pm an cdv ct ∧ K.lookup f = some ⟨oc, od, .func fd, osl⟩ ∧ PySem.W.codeIn K cdv qual = true
  kp : PySem.W.keepIn K (.ref f) = true
section
variable {P : Program} {w : World} {K : PySem.W.Frag} {mg : Str → Option Value} {base : Heap}
/-- THE RULE for a def: its body as a term of rules, and the reading of that term -/
theorem Fun.ok {x qual : Str} {st : Stmt} {f : Addr} {fd : FuncData} {N ps : List Str} {k : Nat} {sp : Sp} (F : Fun K x qual st f fd) (S : FnScope N ps (defScope st)) (len : ∀ vs H Q E, sp vs H Q E → vs.length = ps.length)
    (hbody : ∀ (cdv : Value) (A : Around) (outer : List Env) (s : Shared) (H : Hp) (vs : List V) (Q : VK) (E : XK), Room k (A.deeper (envOfC qual (defScope st) s.heap.objs.size f cdv)) → sp vs H Q E →
      ∃ t, PSs (cxOf CX0 P w K mg base N qual (defScope st) f cdv A outer s H E).nox (defBody st) t ∧ t { nx := fun _ H' => Q .non H', rt := Q } (start N vs) H) : FnOk P w K mg base CX0 (k + 1) f fd ps sp := by
  obtain ⟨oc, od, kV, doc, pm, an, cdv, ct, osl, rfl, lk, hcd⟩ := F.ex
  refine fn_of lk hcd S len fun A outer s H vs Q E hr hsp => ?_
  obtain ⟨t, h, q⟩ := hbody cdv A outer s H vs Q E hr hsp
  exact ⟨t, h.nox, q⟩
/-- how its arguments bind (no defaults): h is «fun _ _ _ _ _ _ us hl => match us, hl with | [_, _], _ => rfl», one _ a parameter -/
theorem Fun.binds {x qual : Str} {st : Stmt} {f : Addr} {fd : FuncData} {ps : List Str} (F : Fun K x qual st f fd)
    (h : ∀ (kV doc pm : Value) (an : Option Addr) (cdv ct : Value) (us : List Value), us.length = ps.length → bindArgs (PySem.W.fnOf x qual (defArgs st) (defBody st) (defScope st) .none kV doc pm an cdv ct) ⟨us, []⟩ = pure (ps.zip us)) : Binds K fd ps [] := by
  obtain ⟨oc, od, kV, doc, pm, an, cdv, ct, osl, rfl, lk, hcd⟩ := F.ex
  exact .all (h kV doc pm an cdv ct)
theorem fun_mk {x qual : Str} {st : Stmt} {f : Addr} {oc : Value} {od an : Option Addr} {osl : Array (Option Value)} {kV doc pm cdv ct : Value} (l : K.lookup f = some ⟨oc, od, .func (PySem.W.fnOf x qual (defArgs st) (defBody st) (defScope st) .none kV doc pm an cdv ct), osl⟩)
    (c : PySem.W.codeIn K cdv qual = true) (k : PySem.W.keepIn K (.ref f) = true) : Fun K x qual st f (PySem.W.fnOf x qual (defArgs st) (defBody st) (defScope st) .none kV doc pm an cdv ct) := ⟨⟨oc, od, kV, doc, pm, an, cdv, ct, osl, rfl, l, c⟩, k⟩
end
theorem hu_of {A : Around} {k : Nat} (hr : Room k A) : A.units + 1 < cLine := Nat.lt_of_le_of_lt (Nat.add_le_add_left (by decide : 1 ≤ 64) _) hr.units
theorem small1000 {n : Nat} (h : n ≤ 1000) : n < sizeLine := Nat.lt_of_le_of_lt h (by decide)

/-! ### expressions in short: the name that stands in the i-th slot -/
section
variable {X : Cx}
theorem pv (i : Nat) {x : Str} {pos : Pos} (hN : X.N[i]? = some x := by rfl) (hv : Vis X.env.scope x := by first | exact Or.inl rfl | exact Or.inr (Or.inl rfl) | exact Or.inr (Or.inr rfl)) (hd : (x == ("__debug__" : Str)) = false := by decide)
    (hcd : (x == ("__classdict__" : Str)) = false := by decide) : PE X (.Name x pos) (tVar i) := pe_var hN hv hd hcd
end

/-! ### tests -/
theorem iteF {A B : Prop} (h : B) : if false = true then A else B := by
  rw [if_neg Bool.false_ne_true]
  exact h
theorem iteT {A B : Prop} (h : A) : if true = true then A else B := by
  rw [if_pos rfl]
  exact h
theorem ite2 {c A B : Prop} [Decidable c] (h1 : c → A) (h2 : ¬ c → B) : if c then A else B := by
  by_cases h : c
  · rw [if_pos h]
    exact h1 h
  · rw [if_neg h]
    exact h2 h
theorem iteNS {c A B : Prop} [Decidable c] (hc : c) (h : B) : if (!decide c) = true then A else B := by
  rw [decide_eq_true hc]
  exact iteF h

/-! ### heaps -/
/-- all that was tracked is as it was -/
def Same (H H' : Hp) : Prop := ∀ b o, H b = some o → H' b = some o
theorem Same.refl (H : Hp) : Same H H := fun _ _ h => h
theorem Same.trans {H H1 H2 : Hp} (a : Same H H1) (b : Same H1 H2) : Same H H2 := fun c o h => b c o (a c o h)
theorem Same.free {H H' : Hp} (e : Same H H') {l : Addr} (h : H' l = Option.none) : H l = Option.none := by
  cases q : H l with
  | none => rfl
  | some o =>
    rw [e l o q] at h
    cases h
theorem Same.seq {K : PySem.W.Frag} {H H' : Hp} {a : Addr} {xs : List V} (e : Same H H') (h : SqL K H a xs) : SqL K H' a xs := by
  rcases h with (h | ⟨o, h⟩) | h
  · exact .inl (.inl (e _ _ h))
  · exact .inl (.inr ⟨o, e _ _ h⟩)
  · exact .inr h

/-! ### lists -/
theorem at_of {xs : List V} {z : Int} {j : Nat} {v : V} (e : z = (j : Int)) (h : xs[j]? = some v) : atI xs z = some v := by
  rw [e]
  exact atI_nat h
theorem nd_ix {α : Type} {l : List α} (hN : l.Nodup) {i j : Nat} {x : α} (a : l[i]? = some x) (b : l[j]? = some x) : i = j := by
  obtain ⟨h1, e1⟩ := List.getElem?_eq_some_iff.mp a
  obtain ⟨h2, e2⟩ := List.getElem?_eq_some_iff.mp b
  exact (List.getElem_inj hN).mp (e1.trans e2.symm)
theorem sum_set : ∀ {l : List Int} {j : Nat} {z y : Int}, l[j]? = some z → (l.set j y).sum = l.sum - z + y
  | [], j, z, y, h => by simp at h
  | a :: r, 0, z, y, h => by
    have e : a = z := Option.some.inj h
    subst e
    show (y :: r).sum = (a :: r).sum - a + y
    rw [List.sum_cons, List.sum_cons]
    omega
  | a :: r, j + 1, z, y, h => by
    have ih := sum_set (l := r) (j := j) (z := z) (y := y) h
    show (a :: r.set j y).sum = (a :: r).sum - z + y
    rw [List.sum_cons, List.sum_cons, ih]
    omega
theorem sum_take : ∀ {l : List Int} {i : Nat} {z : Int}, l[i]? = some z → (l.take (i + 1)).sum = (l.take i).sum + z
  | [], i, z, h => by simp at h
  | a :: r, 0, z, h => by
    have e : a = z := Option.some.inj h
    subst e
    show ([a] : List Int).sum = ([] : List Int).sum + a
    rw [List.sum_cons]
    exact Int.add_comm _ _
  | a :: r, i + 1, z, h => by
    have ih := sum_take (l := r) (i := i) (z := z) h
    show (a :: r.take (i + 1)).sum = (a :: r.take i).sum + z
    rw [List.sum_cons, List.sum_cons, ih]
    omega
/-- a new instance and its __init__ leave all that was tracked as it was -/
theorem Same.made {H H1 : Hp} {x dx C : Addr} (nx : H x = Option.none) (nd : H dx = Option.none) (k : ∀ b o, (upd (upd H dx (.own x)) x (.ins C dx [])) b = some o → b ≠ x → H1 b = some o) : Same H H1 := fun b o e =>
  k b o (by rw [upd_ne (ne_of_none e nx), upd_ne (ne_of_none e nd)]; exact e) (ne_of_none e nx)
end L2

end
section
set_option Elab.async false
set_option linter.all false
set_option maxRecDepth 100000
set_option maxHeartbeats 2000000
namespace L2
open PySem PySem.Spec PyProof.Rows
open PySem.W (WData Codec OpenSpec Well WellAll ReadsW ReadsAllW)
/-! ### an answer as data -/
mutual
/-- x stands for the datum d, lists and tuples all the way -/
inductive Dw (K : PySem.W.Frag) (H : Hp) : V → WData → Prop
  | non : Dw K H .non .none
  | bl (b : Bool) : Dw K H (.bl b) (.bool b)
  | int (i : Int) : Dw K H (.int i) (.int i)
  | str (x : Str) : Dw K H (.str x) (.str x)
  | byt (b : Array UInt8) : Dw K H (.byt b) (.bytes b.toList)
  | lst {a : Addr} {xs : List V} {ds : List WData} : SqL K H a xs → DwAll K H xs ds → Dw K H (.ref a) (.list ds)
  | tup {a : Addr} {xs : List V} {ds : List WData} : SqT K H a xs → DwAll K H xs ds → Dw K H (.ref a) (.tuple ds)
inductive DwAll (K : PySem.W.Frag) (H : Hp) : List V → List WData → Prop
  | nil : DwAll K H [] []
  | cons {v : V} {vs : List V} {d : WData} {ds : List WData} : Dw K H v d → DwAll K H vs ds → DwAll K H (v :: vs) (d :: ds)
end
theorem dw_ints {K : PySem.W.Frag} {H : Hp} : ∀ ns : List Int, DwAll K H (ns.map V.int) (ns.map WData.int)
  | [] => .nil
  | n :: r => .cons (.int n) (dw_ints r)
theorem ints_dw {K : PySem.W.Frag} {H : Hp} : ∀ (ns : List Int) (xs : List V), DwAll K H xs (ns.map WData.int) → xs = ns.map V.int
  | [], xs, h => by
    cases h
    rfl
  | n :: r, xs, h => by
    cases h with
    | cons h1 h2 =>
      cases h1
      rw [ints_dw r _ h2] <;> rfl
section
variable {P : Program} {w : World} {K : PySem.W.Frag} {H : Hp} {h : Heap} {R : PySem.W.WRecords} {cl : Str → Option Addr}
theorem sqL_at {a : Addr} {xs : List V} (hok : HOk P w H h) (KX : K.In h) (q : SqL K H a xs) : ∃ (its : List Value) (o : Obj) (n : Nat), Vals xs its ∧ h.get? a = some o ∧ o.cls = .type "list" ∧ o.data = .seq its.toArray n := by
  rcases q with q | ⟨o, its, n, e, hc, _, hd, _, hv⟩
  · obtain ⟨_, its, n, hv, e⟩ := (show ObjOk P w H h a (.lst xs) from q.ok hok)
    exact ⟨its, _, n, hv, e, rfl, rfl⟩
  · exact ⟨its.toList, o, n, hv, KX _ _ e, hc, by simp [hd]⟩
theorem sqT_at {a : Addr} {xs : List V} (hok : HOk P w H h) (KX : K.In h) (q : SqT K H a xs) : ∃ (its : List Value) (o : Obj) (n : Nat), Vals xs its ∧ h.get? a = some o ∧ o.cls = .type "tuple" ∧ o.data = .seq its.toArray n := by
  rcases q with q | ⟨o, its, n, e, hc, hd, _, hv⟩
  · obtain ⟨_, its, hv, o, e, hc, n, hd⟩ := (show ObjOk P w H h a (.tup xs) from q.ok hok)
    exact ⟨its, o, n, hv, e, hc, hd⟩
  · exact ⟨its.toList, o, n, hv, KX _ _ e, hc, by simp [hd]⟩
mutual
theorem Dw.reads (hok : HOk P w H h) (KX : K.In h) : ∀ (d : WData) (v : V) (u : Value), Dw K H v d → RelV v u → ∃ as, ReadsW R cl h u d as
  | .none, _, _, x, r => by
    cases x
    cases r
    exact ⟨_, ReadsW.none⟩
  | .bool b, _, _, x, r => by
    cases x
    cases r
    exact ⟨_, ReadsW.bool b⟩
  | .int i, _, _, x, r => by
    cases x
    obtain ⟨t, rfl⟩ := r
    exact ⟨_, ReadsW.int i t⟩
  | .str s, _, _, x, r => by
    cases x
    obtain ⟨t, rfl⟩ := r
    exact ⟨_, ReadsW.str s t⟩
  | .bytes b, _, _, x, r => by
    cases x
    obtain ⟨t, rfl⟩ := r
    exact ⟨_, ReadsW.bytes _ t⟩
  | .list ds, _, _, x, r => by
    cases x with
    | lst hs ha =>
      cases r
      obtain ⟨its, o, n, rv, ho, hc, hd⟩ := sqL_at hok KX hs
      obtain ⟨as, hr⟩ := Dw.readsAll hok KX ds _ its ha rv
      exact ⟨_, ReadsW.list ho hc hd hr⟩
  | .tuple ds, _, _, x, r => by
    cases x with
    | tup hs ha =>
      cases r
      obtain ⟨its, o, n, rv, ho, hc, hd⟩ := sqT_at hok KX hs
      obtain ⟨as, hr⟩ := Dw.readsAll hok KX ds _ its ha rv
      exact ⟨_, ReadsW.tuple ho hc hd hr⟩
  | .float _, _, _, x, _ => by cases x
  | .dict _, _, _, x, _ => by cases x
  | .bytearray _, _, _, x, _ => by cases x
  | .set _, _, _, x, _ => by cases x
  | .frozenset _, _, _, x, _ => by cases x
  | .obj _ _, _, _, x, _ => by cases x
theorem Dw.readsAll (hok : HOk P w H h) (KX : K.In h) : ∀ (ds : List WData) (vs : List V) (us : List Value), DwAll K H vs ds → Vals vs us → ∃ as, ReadsAllW R cl h us ds as
  | [], _, _, x, r => by
    cases x
    cases r
    exact ⟨_, ReadsAllW.nil⟩
  | d :: ds, _, _, x, r => by
    cases x with
    | cons h1 h2 =>
      cases r with
      | cons r1 r2 =>
        obtain ⟨as, q1⟩ := Dw.reads hok KX d _ _ h1 r1
        obtain ⟨bs, q2⟩ := Dw.readsAll hok KX ds _ _ h2 r2
        exact ⟨_, ReadsAllW.cons q1 q2⟩
end
end
/-! ### the arguments -/
mutual
/-- data that a codec tells -/
def plW : WData → Bool
  | .none => true
  | .bool _ => true
  | .int _ => true
  | .str _ => true
  | .bytes _ => true
  | .list xs => plWs xs
  | .tuple xs => plWs xs
  | _ => false
def plWs : List WData → Bool
  | [] => true
  | x :: r => plW x && plWs r
end
theorem plWs_map {α : Type} {f : α → WData} (h : ∀ a, plW (f a) = true) : ∀ l : List α, plWs (l.map f) = true
  | [] => rfl
  | x :: r => by
    show (plW (f x) && plWs (r.map f)) = true
    rw [h x, plWs_map h r] <;> rfl
theorem pl_enc : ∀ (c : Codec) (a : c.denote), plW (c.enc a) = true
  | .unit, _ => rfl
  | .bool, _ => rfl
  | .int _ _, _ => rfl
  | .nat _ _, _ => rfl
  | .u8, _ => rfl
  | .bytes _ _, _ => rfl
  | .text _ _ _ _, _ => rfl
  | .list _ _ c, a => plWs_map (fun x => pl_enc c x) a
  | .pair c d, a => by
    show (plW (c.enc a.1) && (plW (d.enc a.2) && true)) = true
    rw [pl_enc c a.1, pl_enc d a.2] <;> rfl
  | .triple c d e, a => by
    show (plW (c.enc a.1) && (plW (d.enc a.2.1) && (plW (e.enc a.2.2) && true))) = true
    rw [pl_enc c a.1, pl_enc d a.2.1, pl_enc e a.2.2] <;> rfl
  | .option c, none => rfl
  | .option c, some x => pl_enc c x
theorem pl_encAll : ∀ (cs : List Codec) (a : Codec.denoteAll cs), plWs (Codec.encAll cs a) = true
  | [], _ => rfl
  | c :: cs, a => by
    show (plW (c.enc a.1) && plWs (Codec.encAll cs a.2)) = true
    rw [pl_enc c a.1, pl_encAll cs a.2] <;> rfl
theorem weight_mem : ∀ {xs : List WData} {d : WData}, d ∈ xs → d.weight ≤ WData.weightAll xs
  | [], d, h => absurd h (by simp)
  | x :: r, d, h => by
    show d.weight ≤ x.weight + 1 + WData.weightAll r
    rcases List.mem_cons.mp h with e | m
    · rw [e]
      omega
    · have z := weight_mem m
      omega
def toV : Value → V
  | .none => .non
  | .bool b => .bl b
  | .int i _ => .int i
  | .str x _ => .str x
  | .bytes b _ => .byt b
  | .ref a => .ref a
  | _ => .non
/-- a value of the arguments, its objects among A -/
def OkU (A : List Addr) : Value → Prop
  | .none => True
  | .bool _ => True
  | .int _ _ => True
  | .str _ _ => True
  | .bytes _ _ => True
  | .ref a => a ∈ A
  | _ => False
theorem OkU.mono {A B : List Addr} (h : ∀ a ∈ A, a ∈ B) : ∀ {u : Value}, OkU A u → OkU B u := fun {u} x => by
  cases u with
  | ref a => exact h a x
  | none => trivial
  | bool b => trivial
  | int i t => trivial
  | str s t => trivial
  | bytes b t => trivial
  | _ => exact False.elim x
theorem relV_toV {A : List Addr} {u : Value} (x : OkU A u) : RelV (toV u) u := by
  cases u with
  | ref a => rfl
  | none => rfl
  | bool b => rfl
  | int i t => exact ⟨t, rfl⟩
  | str s t => exact ⟨t, rfl⟩
  | bytes b t => exact ⟨t, rfl⟩
  | _ => exact False.elim x
theorem vals_toV {A : List Addr} : ∀ {vs : List Value}, (∀ u ∈ vs, OkU A u) → Vals (vs.map toV) vs
  | [], _ => .nil
  | u :: r, h => .cons (relV_toV (h u (List.mem_cons_self ..))) (vals_toV fun x hx => h x (List.mem_cons_of_mem _ hx))
/-- an object of the arguments -/
def ArgOb (h : Heap) (A : List Addr) (a : Addr) : Prop := ∃ vs : List Value, vs.length ≤ sizeLine ∧ (∀ u ∈ vs, OkU A u) ∧
  (h.get? a = some { cls := .type "list", data := .seq vs.toArray } ∨ h.get? a = some { cls := .type "tuple", data := .seq vs.toArray })
theorem ArgOb.mono {h : Heap} {A B : List Addr} {a : Addr} (k : ∀ a ∈ A, a ∈ B) (x : ArgOb h A a) : ArgOb h B a := by
  obtain ⟨vs, h1, h2, h3⟩ := x
  exact ⟨vs, h1, fun u hu => (h2 u hu).mono k, h3⟩
theorem wellAll_len {P : Params} {h : Heap} : ∀ {vs : List Value} {ds : List WData}, WellAll P h vs ds → vs.length = ds.length
  | _, _, .nil => rfl
  | _, _, .cons _ b => by
    show _ + 1 = _ + 1
    rw [wellAll_len b]
theorem well_list {P : Params} {h : Heap} {v : Value} {ds : List WData} (x : Well P h v (.list ds)) : ∃ (a : Addr) (vs : List Value), v = .ref a ∧ h.get? a = some { cls := .type "list", data := .seq vs.toArray } ∧ WellAll P h vs ds := by
  cases x with
  | list ho hall => exact ⟨_, _, rfl, ho, hall⟩
theorem well_tuple {P : Params} {h : Heap} {v : Value} {ds : List WData} (x : Well P h v (.tuple ds)) : ∃ (a : Addr) (vs : List Value), v = .ref a ∧ h.get? a = some { cls := .type "tuple", data := .seq vs.toArray } ∧ WellAll P h vs ds := by
  cases x with
  | tuple ho hall => exact ⟨_, _, rfl, ho, hall⟩
theorem well_cons {P : Params} {h : Heap} {us : List Value} {d : WData} {ds : List WData} (x : WellAll P h us (d :: ds)) : ∃ (v : Value) (vs : List Value), us = v :: vs ∧ Well P h v d ∧ WellAll P h vs ds := by
  cases x with
  | cons a b => exact ⟨_, _, rfl, a, b⟩
theorem line_of {n : Nat} (h : n ≤ 1048576) : n ≤ sizeLine := Nat.le_trans h (by decide)
section
variable {P : Params} {h : Heap}
mutual
theorem area_one : ∀ (d : WData) (v : Value), Well P h v d → plW d = true → d.weight ≤ 1048576 → ∃ A : List Addr, OkU A v ∧ ∀ a ∈ A, ArgOb h A a
  | .none, _, x, _, _ => by
    cases x
    exact ⟨[], trivial, fun a m => absurd m (by simp)⟩
  | .bool b, _, x, _, _ => by
    cases x
    exact ⟨[], trivial, fun a m => absurd m (by simp)⟩
  | .int i, _, x, _, _ => by
    cases x
    exact ⟨[], trivial, fun a m => absurd m (by simp)⟩
  | .str s, _, x, _, _ => by
    cases x
    exact ⟨[], trivial, fun a m => absurd m (by simp)⟩
  | .bytes b, _, x, _, _ => by
    cases x
    exact ⟨[], trivial, fun a m => absurd m (by simp)⟩
  | .list ds, _, x, p, z => by
    obtain ⟨a, vs, rfl, ho, hall⟩ := well_list x
    have z2 : WData.weightAll ds ≤ 1048576 := z
    obtain ⟨A, h1, h2⟩ := area_all ds _ hall p fun d hd => Nat.le_trans (weight_mem hd) z2
    have k : ∀ b ∈ A, b ∈ a :: A := fun b hb => List.mem_cons_of_mem _ hb
    refine ⟨a :: A, List.mem_cons_self .., fun b hb => ?_⟩
    rcases List.mem_cons.mp hb with e | m
    · rw [e]
      exact ⟨vs, line_of (by rw [wellAll_len hall]; exact Nat.le_trans (PySem.W.length_le_weightAllW ds) z2), fun u hu => (h1 u hu).mono k, .inl ho⟩
    · exact (h2 b m).mono k
  | .tuple ds, _, x, p, z => by
    obtain ⟨a, vs, rfl, ho, hall⟩ := well_tuple x
    have z2 : WData.weightAll ds ≤ 1048576 := z
    obtain ⟨A, h1, h2⟩ := area_all ds _ hall p fun d hd => Nat.le_trans (weight_mem hd) z2
    have k : ∀ b ∈ A, b ∈ a :: A := fun b hb => List.mem_cons_of_mem _ hb
    refine ⟨a :: A, List.mem_cons_self .., fun b hb => ?_⟩
    rcases List.mem_cons.mp hb with e | m
    · rw [e]
      exact ⟨vs, line_of (by rw [wellAll_len hall]; exact Nat.le_trans (PySem.W.length_le_weightAllW ds) z2), fun u hu => (h1 u hu).mono k, .inr ho⟩
    · exact (h2 b m).mono k
  | .float _, _, _, p, _ => Bool.noConfusion (show false = true from p)
  | .dict _, _, _, p, _ => Bool.noConfusion (show false = true from p)
  | .bytearray _, _, _, p, _ => Bool.noConfusion (show false = true from p)
  | .set _, _, _, p, _ => Bool.noConfusion (show false = true from p)
  | .frozenset _, _, _, p, _ => Bool.noConfusion (show false = true from p)
  | .obj _ _, _, _, p, _ => Bool.noConfusion (show false = true from p)
theorem area_all : ∀ (ds : List WData) (vs : List Value), WellAll P h vs ds → plWs ds = true → (∀ d ∈ ds, d.weight ≤ 1048576) → ∃ A : List Addr, (∀ u ∈ vs, OkU A u) ∧ ∀ a ∈ A, ArgOb h A a
  | [], _, x, _, _ => by
    cases x
    exact ⟨[], fun u m => absurd m (by simp), fun a m => absurd m (by simp)⟩
  | d :: ds, _, x, p, z => by
    obtain ⟨v, vs, rfl, x1, x2⟩ := well_cons x
    have q : plW d = true ∧ plWs ds = true := Bool.and_eq_true_iff.mp p
    obtain ⟨A, a1, a2⟩ := area_one d v x1 q.1 (z d (List.mem_cons_self ..))
    obtain ⟨B, b1, b2⟩ := area_all ds vs x2 q.2 fun e he => z e (List.mem_cons_of_mem _ he)
    have kA : ∀ b ∈ A, b ∈ A ++ B := fun b hb => List.mem_append.mpr (.inl hb)
    have kB : ∀ b ∈ B, b ∈ A ++ B := fun b hb => List.mem_append.mpr (.inr hb)
    refine ⟨A ++ B, fun u hu => ?_, fun b hb => ?_⟩
    · rcases List.mem_cons.mp hu with e | m
      · rw [e]
        exact a1.mono kA
      · exact (b1 u m).mono kB
    · rcases List.mem_append.mp hb with m | m
      · exact (a2 b m).mono kA
      · exact (b2 b m).mono kB
end
end
/-- what is tracked of an argument's object -/
def hoOf (o : Obj) : Option HO := match o.data with
  | .seq vs _ => if (o.cls == Value.type "list") = true then some (.frz o (.lst (vs.toList.map toV))) else some (.frz o (.tup (vs.toList.map toV)))
  | _ => none
def argH (K : PySem.W.Frag) (h : Heap) (A : List Addr) : Hp := fun b => if b ∈ A then (if (K.lookup b).isNone = true then (h.get? b).bind hoOf else none) else none
/-- nothing is tracked but what is known to the object -/
def OnlyF (H : Hp) : Prop := ∀ b, H b = none ∨ ∃ o u, H b = some (.frz o u)
theorem hoOf_lst (vs : List Value) : hoOf { cls := .type "list", data := .seq vs.toArray } = some (.frz { cls := .type "list", data := .seq vs.toArray } (.lst (vs.map toV))) := by
  show (if (Value.type "list" == Value.type "list") = true then some (HO.frz { cls := .type "list", data := .seq vs.toArray } (.lst (vs.toArray.toList.map toV))) else some (HO.frz { cls := .type "list", data := .seq vs.toArray } (.tup (vs.toArray.toList.map toV)))) = _
  rw [if_pos (beq_self_eq_true _)]
theorem hoOf_tup (vs : List Value) : hoOf { cls := .type "tuple", data := .seq vs.toArray } = some (.frz { cls := .type "tuple", data := .seq vs.toArray } (.tup (vs.map toV))) := by
  show (if (Value.type "tuple" == Value.type "list") = true then some (HO.frz { cls := .type "tuple", data := .seq vs.toArray } (.lst (vs.toArray.toList.map toV))) else some (HO.frz { cls := .type "tuple", data := .seq vs.toArray } (.tup (vs.toArray.toList.map toV)))) = _
  rw [if_neg (by decide)]
section
variable {P : Program} {w : World} {K : PySem.W.Frag} {h : Heap} {A : List Addr}
theorem argH_at {b : Addr} {o : Obj} (hb : b ∈ A) (hk : K.lookup b = none) (e : h.get? b = some o) : argH K h A b = hoOf o := by
  unfold argH
  rw [if_pos hb, hk, if_pos (show (none : Option Obj).isNone = true from rfl), e] <;> rfl
theorem of_argH {b : Addr} {u : HO} (q : argH K h A b = some u) : b ∈ A ∧ K.lookup b = none := by
  unfold argH at q
  by_cases hb : b ∈ A
  · rw [if_pos hb] at q
    cases hk : K.lookup b with
    | none => exact ⟨hb, rfl⟩
    | some o =>
      rw [hk, if_neg (by simp)] at q
      cases q
  · rw [if_neg hb] at q
    cases q
/-- what stands tracked -/
theorem argH_is (ar : ∀ a ∈ A, ArgOb h A a) {b : Addr} {u : HO} (q : argH K h A b = some u) : K.lookup b = none ∧ ∃ vs : List Value, vs.length ≤ sizeLine ∧ (∀ u ∈ vs, OkU A u) ∧
    ((h.get? b = some { cls := .type "list", data := .seq vs.toArray } ∧ u = .frz { cls := .type "list", data := .seq vs.toArray } (.lst (vs.map toV))) ∨
     (h.get? b = some { cls := .type "tuple", data := .seq vs.toArray } ∧ u = .frz { cls := .type "tuple", data := .seq vs.toArray } (.tup (vs.map toV)))) := by
  obtain ⟨hb, hk⟩ := of_argH q
  obtain ⟨vs, h1, h2, h3⟩ := ar b hb
  refine ⟨hk, vs, h1, h2, ?_⟩
  rcases h3 with e | e
  · rw [argH_at hb hk e, hoOf_lst] at q
    exact .inl ⟨e, (Option.some.inj q).symm⟩
  · rw [argH_at hb hk e, hoOf_tup] at q
    exact .inr ⟨e, (Option.some.inj q).symm⟩
theorem argH_only (ar : ∀ a ∈ A, ArgOb h A a) : OnlyF (argH K h A) := fun b => by
  cases q : argH K h A b with
  | none => exact .inl rfl
  | some u =>
    obtain ⟨_, vs, _, _, ⟨_, e⟩ | ⟨_, e⟩⟩ := argH_is ar q
    · exact .inr ⟨_, _, by rw [e]⟩
    · exact .inr ⟨_, _, by rw [e]⟩
theorem argH_ok (ar : ∀ a ∈ A, ArgOb h A a) : HOk P w (argH K h A) h := fun b u q => by
  obtain ⟨_, vs, h1, h2, ⟨e, rfl⟩ | ⟨e, rfl⟩⟩ := argH_is ar q
  · exact ⟨e, by rw [List.length_map]; exact h1, vs, _, vals_toV h2, e⟩
  · exact ⟨e, by rw [List.length_map]; exact h1, vs, vals_toV h2, _, e, rfl, _, rfl⟩
theorem seq_inj {c c' : Value} {vs us : List Value} (e : (some { cls := c, data := .seq vs.toArray } : Option Obj) = some { cls := c', data := .seq us.toArray }) : c = c' ∧ vs = us := by
  have e1 := Option.some.inj e
  have e2 : c = c' := congrArg Obj.cls e1
  have e3 : Data.seq vs.toArray = Data.seq us.toArray := congrArg Obj.data e1
  injection e3 with e4
  refine ⟨e2, ?_⟩
  have e5 := congrArg Array.toList e4
  simpa using e5
/-- a list argument -/
theorem argL (KX : K.In h) (ar : ∀ a ∈ A, ArgOb h A a) {a : Addr} {vs : List Value} (ha : a ∈ A) (e : h.get? a = some { cls := .type "list", data := .seq vs.toArray }) : (∀ u ∈ vs, OkU A u) ∧ SqL K (argH K h A) a (vs.map toV) := by
  obtain ⟨us, h1, h2, h3⟩ := ar a ha
  have hu : us = vs := by
    rcases h3 with q | q
    · rw [e] at q
      exact (seq_inj q).2.symm
    · rw [e] at q
      exact absurd (Value.type.inj (seq_inj q).1) (by decide)
  subst hu
  refine ⟨h2, ?_⟩
  cases hk : K.lookup a with
  | none => exact .inl (.inr ⟨_, by rw [argH_at ha hk e, hoOf_lst]⟩)
  | some o =>
    have e2 := KX a o hk
    rw [e] at e2
    obtain rfl := Option.some.inj e2
    exact .inr ⟨_, us.toArray, _, hk, rfl, rfl, rfl, by rw [List.size_toArray]; exact h1, by simpa using vals_toV h2⟩
theorem argT (KX : K.In h) (ar : ∀ a ∈ A, ArgOb h A a) {a : Addr} {vs : List Value} (ha : a ∈ A) (e : h.get? a = some { cls := .type "tuple", data := .seq vs.toArray }) : (∀ u ∈ vs, OkU A u) ∧ SqT K (argH K h A) a (vs.map toV) := by
  obtain ⟨us, h1, h2, h3⟩ := ar a ha
  have hu : us = vs := by
    rcases h3 with q | q
    · rw [e] at q
      exact absurd (Value.type.inj (seq_inj q).1) (by decide)
    · rw [e] at q
      exact (seq_inj q).2.symm
  subst hu
  refine ⟨h2, ?_⟩
  cases hk : K.lookup a with
  | none => exact .inl (.inr ⟨_, by rw [argH_at ha hk e, hoOf_tup]⟩)
  | some o =>
    have e2 := KX a o hk
    rw [e] at e2
    obtain rfl := Option.some.inj e2
    exact .inr ⟨_, us.toArray, _, hk, rfl, rfl, by rw [List.size_toArray]; exact h1, by simpa using vals_toV h2⟩
mutual
theorem dw_one {Pm : Params} (KX : K.In h) (ar : ∀ a ∈ A, ArgOb h A a) : ∀ (d : WData) (v : Value), Well Pm h v d → plW d = true → OkU A v → Dw K (argH K h A) (toV v) d
  | .none, _, x, _, _ => by
    cases x
    exact .non
  | .bool b, _, x, _, _ => by
    cases x
    exact .bl b
  | .int i, _, x, _, _ => by
    cases x
    exact .int i
  | .str s, _, x, _, _ => by
    cases x
    exact .str s
  | .bytes b, _, x, _, _ => by
    cases x
    have z := Dw.byt (K := K) (H := argH K h A) b.toArray
    exact z
  | .list ds, _, x, p, hu => by
    obtain ⟨a, vs, rfl, ho, hall⟩ := well_list x
    obtain ⟨h2, hs⟩ := argL KX ar hu ho
    exact .lst hs (dw_all KX ar ds _ hall p h2)
  | .tuple ds, _, x, p, hu => by
    obtain ⟨a, vs, rfl, ho, hall⟩ := well_tuple x
    obtain ⟨h2, hs⟩ := argT KX ar hu ho
    exact .tup hs (dw_all KX ar ds _ hall p h2)
  | .float _, _, _, p, _ => Bool.noConfusion (show false = true from p)
  | .dict _, _, _, p, _ => Bool.noConfusion (show false = true from p)
  | .bytearray _, _, _, p, _ => Bool.noConfusion (show false = true from p)
  | .set _, _, _, p, _ => Bool.noConfusion (show false = true from p)
  | .frozenset _, _, _, p, _ => Bool.noConfusion (show false = true from p)
  | .obj _ _, _, _, p, _ => Bool.noConfusion (show false = true from p)
theorem dw_all {Pm : Params} (KX : K.In h) (ar : ∀ a ∈ A, ArgOb h A a) : ∀ (ds : List WData) (vs : List Value), WellAll Pm h vs ds → plWs ds = true → (∀ u ∈ vs, OkU A u) → DwAll K (argH K h A) (vs.map toV) ds
  | [], _, x, _, _ => by
    cases x
    exact .nil
  | d :: ds, _, x, p, hu => by
    obtain ⟨v, vs, rfl, x1, x2⟩ := well_cons x
    have q : plW d = true ∧ plWs ds = true := Bool.and_eq_true_iff.mp p
    exact .cons (dw_one KX ar d v x1 q.1 (hu _ (List.mem_cons_self ..))) (dw_all KX ar ds vs x2 q.2 fun u m => hu u (List.mem_cons_of_mem _ m))
end
end
/-! ### the call -/
theorem spec_call {P : Program} {w : World} {K : PySem.W.Frag} {mg mb : Str → Option Value} {CX : CXT} {k : Nat} {fa : Addr} {fd : FuncData} {ps : List Str} {sp : Sp} {s₁ : Shared} {vals : List Value} {ds : List WData} {R : PySem.W.WRecords} {cl : Str → Option Addr} {d0 : WData}
    (KX : K.In s₁.heap) (hns : s₁.heap.Ns mainGlobals mg) (hb : s₁.heap.Ns builtinsNs mb) (hbb : ∀ x : Str, x ≠ "__name__" → mb x = bootBuiltins x) (hlim : s₁.heap.NoLimit) (hg : s₁.gens = #[])
    (hwl : WellAll w.params s₁.heap vals ds) (hpl : plWs ds = true) (hwt : ∀ d ∈ ds, d.weight ≤ 1048576) (hr : Room k callerA)
    (F : ∀ base : Heap, K.In base → base.Ns mainGlobals mg → FnOk P w K mg base CX k fa fd ps sp) (hbind : ∀ (s : Shared) (us : List Value), us.length = ps.length → BindsTo s fd ⟨us, []⟩ (ps.zip us)) (hlen : ds.length = ps.length)
    (hsp : ∀ (H : Hp) (xs : List V), OnlyF H → DwAll K H xs ds → sp xs H (fun v H' => Dw K H' v d0) fun _ _ _ => False)
    (hCX : ∀ H e s', CX [] H s₁ (fun _ _ _ => False) e s' → False) :
    codeAny (model P w) callerA (.call (.ref fa) ⟨vals, []⟩) (fun r s' => ∃ u as, r = .ok (.ret u) ∧ ReadsW R cl s'.heap u d0 as ∧ OldK s₁.heap s'.heap ∧ s'.os = s₁.os ∧ AllBare s'.gens) s₁ := by
  obtain ⟨A, ho, ar⟩ := area_all ds vals hwl hpl hwt
  have hO : OnlyF (argH K s₁.heap A) := argH_only ar
  have hok : HOk P w (argH K s₁.heap A) s₁.heap := argH_ok ar
  have hS := dw_all KX ar ds vals hwl hpl ho
  have hV := vals_toV ho
  have hK : ∀ b u, argH K s₁.heap A b = some u → K.lookup b = none := fun b u q => (argH_is ar q).1
  have noA : ∀ {b : Addr} {o : Obj} {es : Array DictEntry} {ep : Nat}, s₁.heap.get? b = some o → o.data = .dict es ep → argH K s₁.heap A b = none := fun {b o es ep} e d => by
    cases q : argH K s₁.heap A b with
    | none => rfl
    | some u =>
      obtain ⟨_, vs, _, _, ⟨e2, _⟩ | ⟨e2, _⟩⟩ := argH_is ar q
      · rw [e2] at e
        cases e
        have d' : Data.seq vs.toArray _ = Data.dict es ep := d
        cases d'
      · rw [e2] at e
        cases e
        have d' : Data.seq vs.toArray _ = Data.dict es ep := d
        cases d'
  generalize argH K s₁.heap A = H at hO hok hS hK noA
  have base_of : ∀ {b : Addr} {o : Obj}, s₁.heap.get? b = some o → H b = none → (hidT s₁.heap H).get? b = some o := fun e n => hidT_get e n
  have nsK : ∀ {b : Addr} {m : Str → Option Value}, s₁.heap.Ns b m → (hidT s₁.heap H).Ns b m := fun {b m} ⟨o, es, ep, e, d, r⟩ => ⟨o, es, ep, base_of e (noA e d), d, r⟩
  have nK : ∀ b o, K.lookup b = some o → H b = none := fun b o e => by
    cases q : H b with
    | none => rfl
    | some u =>
      rw [hK b u q] at e
      cases e
  have hKb : K.In (hidT s₁.heap H) := fun b o e => base_of (KX b o e) (nK b o e)
  have hM : Mod K mg (hidT s₁.heap H) := ⟨hKb, nsK hns, ⟨mb, nsK hb, hbb⟩, let ⟨mc, h1, h2⟩ := hlim; ⟨mc, nsK h1, h2⟩⟩
  have e0 : Env0 P w K mg (hidT s₁.heap H) callerA [] s₁ H := ⟨rfl, hM, fun b o e => of_hidT e, Nat.le_of_eq (hidT_size _ _), trivial, fun b hb => absurd (show b ∈ ([] : List Addr) from hb) (by simp), hok, .of_eq hg⟩
  have hl : vals.length = ps.length := by rw [wellAll_len hwl]; exact hlen
  refine codeAny_mono ((F _ hKb (nsK hns)).run callerA [] s₁ H ⟨vals, []⟩ vals (vals.map toV) _ _ hr e0 (hbind s₁ vals hl) hV (hsp H _ hO hS)) fun r s' x => ?_
  cases r with
  | error e => exact (hCX H e s' x).elim
  | ok fl =>
    cases fl with
    | next => exact False.elim x
    | brk => exact False.elim x
    | cont => exact False.elim x
    | ret u =>
      obtain ⟨v, H', os, bare, un, hok', r', q⟩ := x
      have kept : ∀ b o, s₁.heap.get? b = some o → s'.heap.get? b = some o := fun b o e => by
        cases q2 : H b with
        | none => exact un.keep b o e q2 (by intro z; exact absurd (show b ∈ ([] : List Addr) from z) (by simp)) (by simp)
        | some u2 =>
          rcases hO b with z | ⟨ob, u3, z⟩
          · rw [q2] at z
            cases z
          · have z2 := un.frzs b ob _ z
            obtain ⟨e1, _⟩ := hok b _ z
            obtain ⟨e2, _⟩ := hok' b _ z2
            rw [e] at e1
            cases e1
            exact e2
      have KX' : K.In s'.heap := fun b o e => kept b o (KX b o e)
      obtain ⟨as, hrd⟩ := Dw.reads (R := R) (cl := cl) hok' KX' d0 v u q r'
      exact ⟨u, as, rfl, hrd, OldK.of_keep kept, os, bare⟩
/-! ### the row -/
theorem layable_weight {ds : List WData} (h : WData.layableAll ds = true) : ∀ d ∈ ds, d.weight ≤ 1048576 := fun d hd =>
  (PySem.W.layableW_iff.mp (List.all_eq_true.mp h d hd)).2.2
theorem encAll_len : ∀ (cs : List Codec) (a : Codec.denoteAll cs), (Codec.encAll cs a).length = cs.length
  | [], _ => rfl
  | c :: cs, a => by
    show (Codec.encAll cs a.2).length + 1 = cs.length + 1
    rw [encAll_len cs a.2]
/-- the goal that k_headS leaves (case hc), from the promise of the row's def: whatever the arguments that the codecs let and the row asks for, the def gives what stands for enc (f ..) -/
theorem walk_spec {r : OpenSpec} {k : Nat} {q : Program} {loose : List Str} {XP : (Str → Option Value) → Heap → Prop} {YP : World → Heap → Prop} {d : DefRec} {K : Params → PySem.W.Frag} {CX : World → CXT} {ps : List Str} {sp : World → Sp}
    (hwell : r.wellSaid = true) (hdf : d.params.defaults = []) (hlen : r.args.length = ps.length) (hr : Room k callerA)
    (hY : ∀ (w : World) (h : Heap), YP w h → (K w.params).In h)
    (F : ∀ (w : World) (mg : Str → Option Value) (fa : Addr) (h : Heap), YP w h → (K w.params).In h → h.Ns mainGlobals mg → mg d.name = some (.ref fa) →
      ∃ fd : FuncData, (∀ (s : Shared) (us : List Value), us.length = ps.length → BindsTo s fd ⟨us, []⟩ (ps.zip us)) ∧
        ∀ base : Heap, (K w.params).In base → base.Ns mainGlobals mg → FnOk r.prog w (K w.params) mg base (CX w) k fa fd ps (sp w))
    (hsp : ∀ (w : World) (H : Hp) (xs : List V) (a : Codec.denoteAll r.args), OnlyF H → Codec.withinAll r.args a = true → Codec.app r.args r.asked a = true → DwAll (K w.params) H xs (Codec.encAll r.args a) →
      sp w xs H (fun v H' => Dw (K w.params) H' v (r.ret.enc (Codec.app r.args r.f a))) fun _ _ _ => False)
    (hCX : ∀ (w : World) (H : Hp) (s : Shared) (e : Value) (s' : Shared), CX w [] H s (fun _ _ _ => False) e s' → False) :
    PySem.W.WalkOS q loose XP YP r d [] (fun f vs => PySem.call f vs) := by
  intro w s_0 s₁ mg mb G Y fa o pm cd doc dV kV ho hd hcd hD hmg hg args vals as hpre hlay hrd hwl hlo
  obtain ⟨a, e1, e2⟩ := PySem.W.os_pre_some hpre
  obtain ⟨e3, hwi⟩ := Codec.encAll_of_decAll r.args args a e1
  subst e3
  have KX := hY w _ Y
  obtain ⟨fd, hb, hF⟩ := F w mg fa _ Y KX G.T.g hmg
  refine PySem.W.enter_call (codeAny_mono (spec_call (R := []) (cl := classAt s_0.heap) (d0 := r.ret.enc (Codec.app r.args r.f a)) KX G.T.g G.T.b G.T.builtins G.T.nolimit hg hwl (pl_encAll _ _) (layable_weight hlay) hr hF hb (by rw [encAll_len]; exact hlen)
    (fun H xs hO hS => hsp w H xs a hO hwi e2 hS) fun H e s' => hCX w H s₁ e s') fun r' s' hq => ?_)
  obtain ⟨u, as', rfl, h1, h2, h3, h4⟩ := hq
  exact ⟨.inl ⟨u, _, as', rfl, fun _ => rfl, h1, (OpenSpec.post_iff hwell hwi _ _).mpr rfl, fun z => Bool.noConfusion (show false = true from z)⟩, h2, h3, h4⟩
/-- the same where the promise hangs on the written part alone -/
theorem walk_specK {r : OpenSpec} {k : Nat} {q : Program} {loose : List Str} {XP : (Str → Option Value) → Heap → Prop} {YP : World → Heap → Prop} {d : DefRec} {K : Params → PySem.W.Frag} {CX : CXT} {ps : List Str} {sp : PySem.W.Frag → Sp}
    (hwell : r.wellSaid = true) (hdf : d.params.defaults = []) (hlen : r.args.length = ps.length) (hr : Room k callerA)
    (hY : ∀ (w : World) (h : Heap), YP w h → (K w.params).In h)
    (F : ∀ (w : World) (mg : Str → Option Value) (fa : Addr) (h : Heap), YP w h → (K w.params).In h → h.Ns mainGlobals mg → mg d.name = some (.ref fa) →
      ∃ fd : FuncData, (∀ (s : Shared) (us : List Value), us.length = ps.length → BindsTo s fd ⟨us, []⟩ (ps.zip us)) ∧
        ∀ base : Heap, (K w.params).In base → base.Ns mainGlobals mg → FnOk r.prog w (K w.params) mg base CX k fa fd ps (sp (K w.params)))
    (hsp : ∀ (K : PySem.W.Frag) (H : Hp) (xs : List V) (a : Codec.denoteAll r.args), OnlyF H → Codec.withinAll r.args a = true → Codec.app r.args r.asked a = true → DwAll K H xs (Codec.encAll r.args a) →
      sp K xs H (fun v H' => Dw K H' v (r.ret.enc (Codec.app r.args r.f a))) fun _ _ _ => False)
    (hCX : ∀ (H : Hp) (s : Shared) (e : Value) (s' : Shared), CX [] H s (fun _ _ _ => False) e s' → False) :
    PySem.W.WalkOS q loose XP YP r d [] (fun f vs => PySem.call f vs) :=
  walk_spec (K := K) (CX := fun _ => CX) (sp := fun w => sp (K w.params)) hwell hdf hlen hr hY F (fun w H xs a h1 h2 h3 h4 => hsp (K w.params) H xs a h1 h2 h3 h4) fun _ H s e s' => hCX H s e s'
end L2
end
section
set_option Elab.async false
/-! The program's own numbers (the mirror), and what they have to do with the specification's state. -/
namespace HP
open Sn71
structure Cfg where
  way : Int
  low : Int
  high : Int
  delay : Int
  atr : Int
  ven : Int
  aft : Int
structure PM where
  v : Int
  a : Int
  wg : Bool
  wd : Int
  since : Bool
  odd : Bool
def mn (i j : Int) : Int := if j < i then j else i
def mx (i j : Int) : Int := if j > i then j else i
def letPass (p : PM) (m : Int) : PM :=
  { p with v := mn (p.v + m) 1000000, a := mn (p.a + m) 1000000, wd := if p.wg = true then p.wd + m else p.wd }
def atriumBeats (c : Cfg) (p : PM) : PM :=
  if c.way = 2 then { p with a := 0, since := true, wg := true, wd := 0 } else { p with a := 0, since := true }
def ventricleBeats (p : PM) (odd : Bool) : PM := { p with v := 0, wg := false, wd := 0, since := false, odd := odd }
def passA (c : Cfg) (p : PM) : Bool :=
  if c.way = 0 then true else if c.way = 1 then decide (p.a < c.atr)
  else if p.wg = true then true else decide (p.v < (if p.odd = true then c.aft else c.atr))
def passV (c : Cfg) (p : PM) : Bool := if c.way = 1 then true else decide (p.v < c.ven)
def oddB (c : Cfg) (p : PM) : Bool := if c.way = 2 then !p.since else false
def feelP (c : Cfg) (p : PM) (ch : Int) : PM := if ch = 0 then (if passA c p = true then p else atriumBeats c p) else (if passV c p = true then p else ventricleBeats p (oddB c p))
def feelW (c : Cfg) (p : PM) (ch : Int) : Int := if ch = 0 then (if passA c p = true then 4 else 2) else (if passV c p = true then 4 else 2)
def timeA (c : Cfg) (p : PM) : Bool := if c.way = 1 then decide (c.low ≤ p.a) else if c.way = 2 then (if p.wg = true then false else decide (c.low - c.delay ≤ p.v)) else false
def timeV (c : Cfg) (p : PM) : Bool := if c.way = 0 then decide (c.low ≤ p.v) else if p.wg = true then (if c.delay ≤ p.wd then decide (c.high ≤ p.v) else false) else false
def untilP (c : Cfg) (p : PM) : Int := if c.way = 0 then c.low - p.v else if c.way = 1 then c.low - p.a else if p.wg = true then mx (c.delay - p.wd) (c.high - p.v) else c.low - c.delay - p.v
def paceP (c : Cfg) (p : PM) : PM :=
  let p1 := if timeA c p = true then atriumBeats c p else p
  if timeV c p1 = true then ventricleBeats p1 false else p1
def paceW (c : Cfg) (p : PM) (now : Int) : List Int :=
  let p1 := if timeA c p = true then atriumBeats c p else p
  (if timeA c p = true then [8 * now + 0 + 0] else []) ++ (if timeV c p1 = true then [8 * now + 0 + 1] else [])
def cfgOf (s : Set_) : Cfg := ⟨s.mode, s.low, s.high, s.delay, s.atrium, s.ventricle, s.longer⟩
/-- the settings are as told -/
structure Right (s : Set_) : Prop where
  mode : s.mode < 3
  l1 : 300 ≤ s.low
  l2 : s.low ≤ 2000
  h1 : 200 ≤ s.high
  h2 : s.high ≤ s.low
  d1 : 30 ≤ s.delay
  d2 : s.delay < s.low
  d3 : s.delay ≤ 300
  a1 : 100 ≤ s.atrium
  a2 : s.atrium ≤ s.longer
  a3 : s.longer ≤ 600
  v1 : 100 ≤ s.ventricle
  v2 : s.ventricle ≤ s.high
theorem right_iff (s : Set_) : s.right = true ↔ Right s := by
  unfold Set_.right
  simp only [Bool.and_eq_true, decide_eq_true_eq]
  constructor
  · rintro ⟨a, b, c, d, e, f, g, h, i, j, k, l, m⟩
    exact ⟨a, b, c, d, e, f, g, h, i, j, k, l, m⟩
  · rintro ⟨a, b, c, d, e, f, g, h, i, j, k, l, m⟩
    exact ⟨a, b, c, d, e, f, g, h, i, j, k, l, m⟩
/-- the program's numbers p stand for the state h -/
structure Rel (p : PM) (h : Heart) : Prop where
  right : Right h.set
  v : p.v = h.v
  a : p.a = h.a
  wg : p.wg = h.waits.isSome
  wd : p.wd = (h.waits.getD 0 : Nat)
  since : h.set.mode = 2 → p.since = h.had
  odd : h.set.mode = 2 → p.odd = h.odd
  non : h.set.mode ≠ 2 → h.waits = none
  vl : h.v ≤ 1000000
  al : h.a ≤ 1000000
theorem Rel.start {s : Set_} (r : Right s) : Rel ⟨0, 0, false, 0, false, false⟩ { set := s } :=
  ⟨r, rfl, rfl, rfl, rfl, fun _ => rfl, fun _ => rfl, fun _ => rfl, Nat.zero_le _, Nat.zero_le _⟩
/-- k milliseconds go by -/
def onN (h : Heart) (k : Nat) : Heart := { h with v := min (h.v + k) LONGEST, a := min (h.a + k) LONGEST, waits := h.waits.map fun j => j + k }
theorem onN_zero {h : Heart} (v : h.v ≤ 1000000) (a : h.a ≤ 1000000) : onN h 0 = h := by
  obtain ⟨s, v', a', w', had, odd⟩ := h
  simp only [onN, LONGEST, Nat.add_zero]
  rw [Nat.min_eq_left v, Nat.min_eq_left a]
  cases w' <;> rfl
theorem onN_on (h : Heart) (k : Nat) : (onN h k).on = onN h (k + 1) := by
  obtain ⟨s, v', a', w', had, odd⟩ := h
  simp only [onN, Heart.on, LONGEST]
  have e1 : min (min (v' + k) 1000000 + 1) 1000000 = min (v' + (k + 1)) 1000000 := by omega
  have e2 : min (min (a' + k) 1000000 + 1) 1000000 = min (a' + (k + 1)) 1000000 := by omega
  rw [e1, e2]
  cases w' <;> simp [Nat.add_assoc]
theorem on_onN (h : Heart) (k : Nat) : onN h.on k = onN h (k + 1) := by
  obtain ⟨s, v', a', w', had, odd⟩ := h
  simp only [onN, Heart.on, LONGEST]
  have e1 : min (min (v' + 1) 1000000 + k) 1000000 = min (v' + (k + 1)) 1000000 := by omega
  have e2 : min (min (a' + 1) 1000000 + k) 1000000 = min (a' + (k + 1)) 1000000 := by omega
  rw [e1, e2]
  cases w' with
  | none => rfl
  | some j =>
    show (⟨s, _, _, some (j + 1 + k), had, odd⟩ : Heart) = ⟨s, _, _, some (j + (k + 1)), had, odd⟩
    rw [show j + 1 + k = j + (k + 1) by omega]
theorem mn_eq (i j : Nat) : mn (i : Int) (j : Int) = ((min i j : Nat) : Int) := by
  unfold mn
  split <;> omega
theorem Rel.pass {p : PM} {h : Heart} (R : Rel p h) (k : Nat) : Rel (letPass p k) (onN h k) := by
  obtain ⟨r, v, a, wg, wd, si, od, no, vl, al⟩ := R
  refine ⟨r, ?_, ?_, ?_, ?_, si, od, ?_, ?_, ?_⟩
  · show mn (p.v + k) 1000000 = ((min (h.v + k) 1000000 : Nat) : Int)
    rw [v]; exact mn_eq (h.v + k) 1000000
  · show mn (p.a + k) 1000000 = ((min (h.a + k) 1000000 : Nat) : Int)
    rw [a]; exact mn_eq (h.a + k) 1000000
  · show p.wg = (h.waits.map fun j => j + k).isSome
    rw [wg]; cases h.waits <;> rfl
  · show (if p.wg = true then p.wd + k else p.wd) = (((h.waits.map fun j => j + k).getD 0 : Nat) : Int)
    rw [wg, wd]; cases h.waits <;> simp
  · intro hm
    show (h.waits.map fun j => j + k) = none
    rw [no hm]; rfl
  · show min (h.v + k) 1000000 ≤ 1000000; omega
  · show min (h.a + k) 1000000 ≤ 1000000; omega
theorem mode_cases {s : Set_} (r : Right s) : s.mode = 0 ∨ s.mode = 1 ∨ s.mode = 2 := by have := r.mode; omega
/-- a beat is felt -/
theorem Rel.feel {p : PM} {h : Heart} (R : Rel p h) {ch : Nat} (hc : ch < 2) : Rel (feelP (cfgOf h.set) p ch) (h.feel ch).1 ∧ feelW (cfgOf h.set) p ch + ch = ((h.feel ch).2 : Nat) ∧ (h.feel ch).1.set = h.set := by
  have R' := R
  obtain ⟨r, v, a, wg, wd, si, od, no, vl, al⟩ := R
  obtain ⟨⟨mode, low, high, delay, atr, ven, aft⟩, hv, ha, hw, had, ho⟩ := h
  obtain ⟨pv, pa, pw, pd, ps, po⟩ := p
  simp only at v a wg wd si od no vl al
  subst v a wg wd
  have hc' : ch = 0 ∨ ch = 1 := by omega
  rcases hc' with rfl | rfl
  · rcases mode_cases r with m | m | m <;> simp only at m <;> subst m
    · exact ⟨R', rfl, rfl⟩
    · by_cases q : ha < atr
      · simp [feelP, feelW, Heart.feel, Heart.atrium, passA, cfgOf, q]; exact R'
      · simp [feelP, feelW, Heart.feel, Heart.atrium, passA, cfgOf, atriumBeats, q]
        exact ⟨r, rfl, rfl, rfl, rfl, fun z => by simp at z, fun z => by simp at z, no, vl, Nat.zero_le _⟩
    · have e1 := si rfl
      have e2 := od rfl
      subst e1 e2
      cases hw with
      | some k => simp [feelP, feelW, Heart.feel, Heart.atrium, passA, cfgOf]; exact R'
      | none =>
        by_cases q : hv < if po = true then aft else atr
        · have q' : ((hv : Int) < if po = true then (aft : Int) else (atr : Int)) := by
            cases po <;> simp at q ⊢ <;> omega
          simp [feelP, feelW, Heart.feel, Heart.atrium, passA, cfgOf, q, q']; exact R'
        · have q' : ¬ ((hv : Int) < if po = true then (aft : Int) else (atr : Int)) := by
            cases po <;> simp at q ⊢ <;> omega
          simp [feelP, feelW, Heart.feel, Heart.atrium, passA, cfgOf, atriumBeats, q, q']
          exact ⟨r, rfl, rfl, rfl, rfl, fun _ => rfl, fun _ => rfl, fun z => (z rfl).elim, vl, Nat.zero_le _⟩
  · by_cases m1 : mode = 1
    · subst m1
      simp [feelP, feelW, Heart.feel, Heart.ventricle, passV, cfgOf]; exact R'
    · have m1' : ¬ ((mode : Int) = 1) := by omega
      by_cases q : hv < ven
      · simp [feelP, feelW, Heart.feel, Heart.ventricle, passV, cfgOf, m1, m1', q]; exact R'
      · simp [feelP, feelW, Heart.feel, Heart.ventricle, passV, cfgOf, ventricleBeats, oddB, m1, m1', q]
        refine ⟨r, rfl, rfl, rfl, rfl, fun _ => rfl, fun m => ?_, fun _ => rfl, Nat.zero_le _, al⟩
        simp only at m
        subst m
        have e1 := si rfl
        subst e1
        rfl
theorem Rel.paceA {p : PM} {h : Heart} (R : Rel p h) : Rel (if timeA (cfgOf h.set) p = true then atriumBeats (cfgOf h.set) p else p) h.paceA.1 ∧ h.paceA.1.set = h.set ∧ h.paceA.2 = if timeA (cfgOf h.set) p = true then [0] else [] := by
  have R' := R
  obtain ⟨r, v, a, wg, wd, si, od, no, vl, al⟩ := R
  obtain ⟨⟨mode, low, high, delay, atr, ven, aft⟩, hv, ha, hw, had, ho⟩ := h
  obtain ⟨pv, pa, pw, pd, ps, po⟩ := p
  simp only at v a wg wd si od no vl al
  subst v a wg wd
  rcases mode_cases r with m | m | m <;> simp only at m <;> subst m
  · exact ⟨R', rfl, rfl⟩
  · by_cases q : low ≤ ha
    · simp [timeA, atriumBeats, cfgOf, Heart.paceA, q]
      exact ⟨r, rfl, rfl, rfl, rfl, fun z => by simp at z, fun z => by simp at z, no, vl, Nat.zero_le _⟩
    · simp [timeA, cfgOf, Heart.paceA, q]; exact R'
  · have d2 : delay < low := r.d2
    cases hw with
    | some k => simp [timeA, cfgOf, Heart.paceA]; exact R'
    | none =>
      by_cases q : low - delay ≤ hv
      · have q' : (low : Int) - (delay : Int) ≤ (hv : Int) := by omega
        have q3 : low ≤ hv + delay := by omega
        simp [timeA, atriumBeats, cfgOf, Heart.paceA, q', q3]
        exact ⟨r, rfl, rfl, rfl, rfl, fun _ => rfl, od, fun z => (z rfl).elim, vl, Nat.zero_le _⟩
      · have q' : ¬ (low : Int) - (delay : Int) ≤ (hv : Int) := by omega
        have q3 : ¬ low ≤ hv + delay := by omega
        simp [timeA, cfgOf, Heart.paceA, q', q3]; exact R'
theorem Rel.paceV {p : PM} {h : Heart} (R : Rel p h) : Rel (if timeV (cfgOf h.set) p = true then ventricleBeats p false else p) h.paceV.1 ∧ h.paceV.1.set = h.set ∧ h.paceV.2 = if timeV (cfgOf h.set) p = true then [1] else [] := by
  have R' := R
  obtain ⟨r, v, a, wg, wd, si, od, no, vl, al⟩ := R
  obtain ⟨⟨mode, low, high, delay, atr, ven, aft⟩, hv, ha, hw, had, ho⟩ := h
  obtain ⟨pv, pa, pw, pd, ps, po⟩ := p
  simp only at v a wg wd si od no vl al
  subst v a wg wd
  rcases mode_cases r with m | m | m <;> simp only at m <;> subst m
  · have n0 := no (by decide)
    subst n0
    by_cases q : low ≤ hv
    · simp [timeV, ventricleBeats, cfgOf, Heart.paceV, q]
      exact ⟨r, rfl, rfl, rfl, rfl, fun z => by simp at z, fun z => by simp at z, no, Nat.zero_le _, al⟩
    · simp [timeV, cfgOf, Heart.paceV, q]; exact R'
  · have n0 := no (by decide)
    subst n0
    simp [timeV, cfgOf, Heart.paceV]; exact R'
  · cases hw with
    | none => simp [timeV, cfgOf, Heart.paceV]; exact R'
    | some k =>
      by_cases q : delay ≤ k
      · by_cases q2 : high ≤ hv
        · simp [timeV, ventricleBeats, cfgOf, Heart.paceV, q, q2]
          exact ⟨r, rfl, rfl, rfl, rfl, fun _ => rfl, fun _ => rfl, fun z => (z rfl).elim, Nat.zero_le _, al⟩
        · simp [timeV, cfgOf, Heart.paceV, q, q2]; exact R'
      · simp [timeV, cfgOf, Heart.paceV, q]; exact R'
/-- both paces -/
theorem Rel.pace {p : PM} {h : Heart} (R : Rel p h) (t : Nat) : Rel (paceP (cfgOf h.set) p) h.paceA.1.paceV.1 ∧ h.paceA.1.paceV.1.set = h.set ∧
    paceW (cfgOf h.set) p t = (h.paceA.2 ++ h.paceA.1.paceV.2).map fun (e : Nat) => ((8 * t + e : Nat) : Int) := by
  obtain ⟨R1, s1, e1⟩ := R.paceA
  obtain ⟨R2, s2, e2⟩ := R1.paceV
  rw [s1] at R2 e2 s2
  refine ⟨R2, s2, ?_⟩
  rw [e1, e2]
  unfold paceW
  simp only
  split <;> split <;> simp
end HP

end
section
set_option Elab.async false
namespace HP
open Sn71
theorem onN_one {h : Heart} (v : h.v ≤ 1000000) (a : h.a ≤ 1000000) : onN h 1 = h.on := by
  rw [← onN_on, onN_zero v a]
/-- nothing is due in the next millisecond -/
theorem Rel.quiet1 {p : PM} {h : Heart} (R : Rel p h) (hu : 1 < untilP (cfgOf h.set) p) : h.ms [] = (h.on, []) ∧ untilP (cfgOf h.set) (letPass p 1) = untilP (cfgOf h.set) p - 1 := by
  have R1 := R.pass 1
  have e1 : onN h 1 = h.on := onN_one R.vl R.al
  rw [e1] at R1
  obtain ⟨r, v, a, wg, wd, si, od, no, vl, al⟩ := R
  obtain ⟨⟨mode, low, high, delay, atr, ven, aft⟩, hv, ha, hw, had, ho⟩ := h
  obtain ⟨pv, pa, pw, pd, ps, po⟩ := p
  simp only at v a wg wd si od no vl al
  subst v a wg wd
  have l2 : low ≤ 2000 := r.l2
  have h2 : high ≤ low := r.h2
  have d2 : delay < low := r.d2
  have d3 : delay ≤ 300 := r.d3
  rcases mode_cases r with m | m | m <;> simp only at m <;> subst m
  · have n0 := no (by decide)
    subst n0
    simp [untilP, cfgOf] at hu
    have q : ¬ (low ≤ min (hv + 1) 1000000) := by omega
    constructor
    · simp [Heart.ms, feels, Heart.on, Heart.paceA, Heart.paceV, LONGEST, q]
    · simp [untilP, cfgOf, letPass, mn]
      split <;> omega
  · have n0 := no (by decide)
    subst n0
    simp [untilP, cfgOf] at hu
    have q : ¬ (low ≤ min (ha + 1) 1000000) := by omega
    constructor
    · simp [Heart.ms, feels, Heart.on, Heart.paceA, Heart.paceV, LONGEST, q]
    · simp [untilP, cfgOf, letPass, mn]
      split <;> omega
  · cases hw with
    | none =>
      simp [untilP, cfgOf] at hu
      have q : ¬ (low ≤ min (hv + 1) 1000000 + delay) := by omega
      constructor
      · simp [Heart.ms, feels, Heart.on, Heart.paceA, Heart.paceV, LONGEST, q]
      · simp [untilP, cfgOf, letPass, mn]
        split <;> omega
    | some k =>
      simp [untilP, cfgOf, mx] at hu
      have q : ¬ (delay ≤ k + 1 ∧ high ≤ min (hv + 1) 1000000) := by
        split at hu <;> omega
      constructor
      · simp [Heart.ms, feels, Heart.on, Heart.paceA, Heart.paceV, LONGEST, q]
      · simp [untilP, cfgOf, letPass, mn, mx]
        split at hu <;> split <;> split <;> omega
theorem run_append (a b : List (List Nat)) : ∀ h : Heart, run h (a ++ b) = ((run (run h a).1 b).1, (run h a).2 ++ (run (run h a).1 b).2) := by
  induction a with
  | nil => intro h; rfl
  | cons s r ih =>
    intro h
    show ((run (h.ms s).1 (r ++ b)).1, (h.ms s).2 :: (run (h.ms s).1 (r ++ b)).2) = _
    rw [ih]
    rfl
theorem letPass_set (h : Heart) (k : Nat) : (onN h k).set = h.set := rfl
theorem Rel.quiet {j : Nat} : ∀ {p : PM} {h : Heart}, Rel p h → (j : Int) < untilP (cfgOf h.set) p → run h (List.replicate j []) = (onN h j, List.replicate j []) := by
  induction j with
  | zero =>
    intro p h R _
    rw [onN_zero R.vl R.al]
    rfl
  | succ j ih =>
    intro p h R hu
    obtain ⟨q1, q2⟩ := R.quiet1 (by omega)
    have R1 := R.pass 1
    rw [onN_one R.vl R.al] at R1
    have hset : h.on.set = h.set := rfl
    have q3 := ih R1 (by rw [hset]; show (j : Int) < untilP (cfgOf h.set) (letPass p (1 : Int)); rw [q2]; omega)
    rw [on_onN] at q3
    show ((run (h.ms []).1 (List.replicate j [])).1, (h.ms []).2 :: (run (h.ms []).1 (List.replicate j [])).2) = _
    rw [q1]
    show ((run h.on (List.replicate j [])).1, [] :: (run h.on (List.replicate j [])).2) = _
    rw [q3]
    rfl
/-- what is due has been paced -/
theorem Rel.calm {p : PM} {h : Heart} (R : Rel p h) : 1 ≤ untilP (cfgOf h.set) (paceP (cfgOf h.set) p) := by
  obtain ⟨r, v, a, wg, wd, si, od, no, vl, al⟩ := R
  obtain ⟨⟨mode, low, high, delay, atr, ven, aft⟩, hv, ha, hw, had, ho⟩ := h
  obtain ⟨pv, pa, pw, pd, ps, po⟩ := p
  simp only at v a wg wd si od no vl al
  subst v a wg wd
  have l1 : 300 ≤ low := r.l1
  have h2 : high ≤ low := r.h2
  have d1 : 30 ≤ delay := r.d1
  have d2 : delay < low := r.d2
  rcases mode_cases r with m | m | m <;> simp only at m <;> subst m
  · have n0 := no (by decide)
    subst n0
    by_cases q : low ≤ hv
    · simp [untilP, paceP, timeA, timeV, cfgOf, ventricleBeats, q]; omega
    · simp [untilP, paceP, timeA, timeV, cfgOf, q]; omega
  · have n0 := no (by decide)
    subst n0
    by_cases q : low ≤ ha
    · simp [untilP, paceP, timeA, timeV, cfgOf, atriumBeats, q]; omega
    · simp [untilP, paceP, timeA, timeV, cfgOf, q]; omega
  · cases hw with
    | none =>
      by_cases q : (low : Int) - (delay : Int) ≤ (hv : Int)
      · have q0 : ¬ ((delay : Int) ≤ 0) := by omega
        have q0' : ¬ (delay = 0) := by omega
        simp [untilP, paceP, timeA, timeV, cfgOf, atriumBeats, q, q0', mx]
        split <;> omega
      · simp [untilP, paceP, timeA, timeV, cfgOf, q]; omega
    | some k =>
      by_cases q : delay ≤ k
      · by_cases q2 : high ≤ hv
        · simp [untilP, paceP, timeA, timeV, cfgOf, ventricleBeats, q, q2]; omega
        · simp [untilP, paceP, timeA, timeV, cfgOf, q, q2, mx]
          split <;> omega
      · simp [untilP, paceP, timeA, timeV, cfgOf, q, mx]
        split <;> omega
theorem calm_start {s : Set_} (r : Right s) : 1 ≤ untilP (cfgOf s) ⟨0, 0, false, 0, false, false⟩ := by
  have l1 := r.l1
  have d2 := r.d2
  unfold untilP cfgOf
  simp only
  split
  · omega
  · split
    · omega
    · rw [if_neg (by decide)]; omega
/-! ### what is told -/
def toldAt (k : Nat) (l : List (List Event)) : List Nat := (l.zipIdx k).flatMap fun x => x.1.map fun e => 8 * (x.2 + 1) + e
theorem told_append (a b : List (List Event)) : told (a ++ b) = told a ++ toldAt a.length b := by
  show (List.zipIdx (a ++ b) 0).flatMap _ = _
  rw [List.zipIdx_append, List.flatMap_append, Nat.zero_add]
  rfl
theorem toldAt_quiet (e : List Event) : ∀ (j k : Nat), toldAt k (List.replicate j [] ++ [e]) = e.map fun x => 8 * (k + j + 1) + x
  | 0, k => by
    show (e.map fun x => 8 * (k + 1) + x) ++ [] = _
    rw [List.append_nil]
  | j + 1, k => by
    show toldAt (k + 1) (List.replicate j [] ++ [e]) = _
    rw [toldAt_quiet e j (k + 1)]
    rw [show k + 1 + j + 1 = k + (j + 1) + 1 by omega]
theorem run_length : ∀ (l : List (List Nat)) (h : Heart), (run h l).2.length = l.length
  | [], _ => rfl
  | s :: r, h => by
    show (_ :: (run _ r).2).length = _
    rw [List.length_cons, run_length r, List.length_cons]
theorem at_length (l : List Nat) (n : Nat) : (at_ l n).length = n := by
  unfold at_
  rw [List.length_map, List.length_range]
def chs (l : List Nat) (t : Nat) : List Nat := (l.filter fun x => x / 2 == t).map fun x => x % 2
theorem at_add (l : List Nat) (t k : Nat) : at_ l (t + k) = at_ l t ++ (List.range k).map fun i => chs l (t + i + 1) := by
  unfold at_ chs
  rw [List.range_add, List.map_append, List.map_map]
  rfl
theorem chs_nil {l : List Nat} {t : Nat} (h : ∀ x ∈ l, x / 2 ≠ t) : chs l t = [] := by
  unfold chs
  rw [List.filter_eq_nil_iff.mpr fun x hx => by simpa using h x hx]
  rfl
/-- j quiet milliseconds, then one -/
theorem at_step {l : List Nat} {t j : Nat} (h : ∀ x ∈ l, x / 2 ≤ t ∨ t + j < x / 2) : at_ l (t + j + 1) = at_ l t ++ (List.replicate j [] ++ [chs l (t + j + 1)]) := by
  rw [Nat.add_assoc, at_add, List.range_succ, List.map_append]
  congr 1
  congr 1
  rw [List.eq_replicate_iff]
  refine ⟨by simp, fun b hb => ?_⟩
  obtain ⟨i, hi, rfl⟩ := List.mem_map.mp hb
  have hi' := List.mem_range.mp hi
  exact chs_nil fun x hx => by have := h x hx; omega
abbrev cast (l : List Nat) : List Int := l.map fun (x : Nat) => (x : Int)
/-- between two milliseconds: t have gone by, f beats have been felt -/
structure Outer (h0 : Heart) (l : List Nat) (n t f : Nat) (ts : List Int) (p : PM) (g : Heart) : Prop where
  tn : t ≤ n
  fl : f ≤ l.length
  st : (run h0 (at_ l t)).1 = g
  ts : ts = cast (told (run h0 (at_ l t)).2)
  lo : ∀ x ∈ l.take f, x / 2 ≤ t
  hi : ∀ x ∈ l.drop f, t < x / 2
  rel : Rel p g
  calm : 1 ≤ untilP (cfgOf h0.set) p
  set : g.set = h0.set
/-- within the millisecond t + 1 -/
structure Inner (h0 : Heart) (l : List Nat) (n t f : Nat) (ts : List Int) (p : PM) (g : Heart) : Prop where
  tn : t + 1 ≤ n
  fl : f ≤ l.length
  ex : ∃ b, (run h0 (at_ l t)).1 = b ∧ (feels b.on (chs (l.take f) (t + 1))).1 = g ∧ ts = cast (told (run h0 (at_ l t)).2) ++ cast ((feels b.on (chs (l.take f) (t + 1))).2.map fun e => 8 * (t + 1) + e)
  lo : ∀ x ∈ l.take f, x / 2 ≤ t + 1
  hi : ∀ x ∈ l.drop f, t + 1 ≤ x / 2
  rel : Rel p g
  set : g.set = h0.set
theorem Outer.start {h0 : Heart} {l : List Nat} {n : Nat} {p : PM} (R : Rel p h0) (c : 1 ≤ untilP (cfgOf h0.set) p) (hl : ∀ x ∈ l, 1 ≤ x / 2) : Outer h0 l n 0 0 [] p h0 :=
  ⟨Nat.zero_le _, Nat.zero_le _, rfl, rfl, fun x hx => by simp at hx, fun x hx => hl x (by simpa using hx), R, c, rfl⟩
def nextMs (c : Cfg) (p : PM) (now n : Int) (o : Option Int) : Int := match o with
  | none => mn (now + untilP c p) n
  | some b => mn (mn (now + untilP c p) n) (b / 2)
def Rises (l : List Nat) : Prop := l.Pairwise fun a b => a / 2 ≤ b / 2
theorem rises_drop {l : List Nat} (h : Rises l) {f : Nat} {x : Nat} (hx : l[f]? = some x) : ∀ y ∈ l.drop f, x / 2 ≤ y / 2 := by
  obtain ⟨hf, e⟩ := List.getElem?_eq_some_iff.mp hx
  have h2 : Rises (l.drop f) := List.Pairwise.sublist (List.drop_sublist f l) h
  rw [List.drop_eq_getElem_cons hf, e] at h2 ⊢
  intro y hy
  rcases List.mem_cons.mp hy with rfl | hy
  · exact Nat.le_refl _
  · exact (List.pairwise_cons.mp h2).1 y hy
theorem mem_split {l : List Nat} (f : Nat) {x : Nat} (hx : x ∈ l) : x ∈ l.take f ∨ x ∈ l.drop f := by
  rw [← List.take_append_drop f l] at hx
  exact List.mem_append.mp hx
/-- quiet ones go by at once -/
theorem Outer.go {h0 : Heart} {l : List Nat} {n t f : Nat} {ts : List Int} {p : PM} {g : Heart} (O : Outer h0 l n t f ts p g) (hs : Rises l) (ht : t < n) :
    ∃ t' : Nat, nextMs (cfgOf h0.set) p t n (l[f]?.map fun (x : Nat) => (x : Int)) = ((t' + 1 : Nat) : Int) ∧ t ≤ t' ∧ Inner h0 l n t' f ts (letPass p (((t' + 1 : Nat) : Int) - (t : Int))) (onN g (t' + 1 - t)) := by
  obtain ⟨tn, fl, st, hts, lo, hi, rel, calm, set⟩ := O
  have key : ∃ t' : Nat, nextMs (cfgOf h0.set) p t n (l[f]?.map fun (x : Nat) => (x : Int)) = ((t' + 1 : Nat) : Int) ∧ t ≤ t' ∧ t' + 1 ≤ n ∧ ((t' - t : Nat) : Int) < untilP (cfgOf h0.set) p ∧ ∀ x ∈ l.drop f, t' + 1 ≤ x / 2 := by
    generalize hu : untilP (cfgOf h0.set) p = u at calm
    have e1 : mn (t + u) n = ((min (t + u.toNat) n : Nat) : Int) := by
      have : (t : Int) + u = ((t + u.toNat : Nat) : Int) := by omega
      rw [this]; exact mn_eq _ _
    cases hx : l[f]? with
    | none =>
      have hf : l.length ≤ f := List.getElem?_eq_none_iff.mp hx
      have hd : l.drop f = [] := List.drop_eq_nil_of_le hf
      refine ⟨min (t + u.toNat) n - 1, ?_, by omega, by omega, by omega, fun x hx => by rw [hd] at hx; simp at hx⟩
      show mn (t + untilP (cfgOf h0.set) p) n = _
      rw [hu, e1]
      have : 1 ≤ min (t + u.toNat) n := by omega
      rw [Nat.sub_add_cancel this]
    | some x =>
      have hd := rises_drop hs hx
      have hx' : x ∈ l.drop f := by
        obtain ⟨hf, e⟩ := List.getElem?_eq_some_iff.mp hx
        rw [List.drop_eq_getElem_cons hf, e]
        exact List.mem_cons_self
      have hxt := hi x hx'
      refine ⟨min (min (t + u.toNat) n) (x / 2) - 1, ?_, by omega, by omega, by omega, fun y hy => by have := hd y hy; omega⟩
      show mn (mn (t + untilP (cfgOf h0.set) p) n) ((x : Int) / 2) = _
      rw [hu, e1, show (x : Int) / 2 = ((x / 2 : Nat) : Int) by omega, mn_eq]
      have : 1 ≤ min (min (t + u.toNat) n) (x / 2) := by omega
      rw [Nat.sub_add_cancel this]
  obtain ⟨t', e, htt, hn, hu, hd⟩ := key
  refine ⟨t', e, htt, ?_⟩
  obtain ⟨j, rfl⟩ : ∃ j, t' = t + j := ⟨t' - t, by omega⟩
  have hq := rel.quiet (j := j) (by rw [set]; have : (t + j - t : Nat) = j := by omega
                                    rw [this] at hu; exact hu)
  have hat : at_ l (t + j) = at_ l t ++ List.replicate j [] := by
    rw [at_add]
    congr 1
    rw [List.eq_replicate_iff]
    refine ⟨by simp, fun b hb => ?_⟩
    obtain ⟨i, hi2, rfl⟩ := List.mem_map.mp hb
    have hi' := List.mem_range.mp hi2
    exact chs_nil fun x hx => by
      rcases mem_split f hx with h1 | h1
      · have := lo x h1; omega
      · have := hd x h1; omega
  have er : run h0 (at_ l (t + j)) = (onN g j, (run h0 (at_ l t)).2 ++ List.replicate j []) := by
    rw [hat, run_append, st, hq]
  have ek : t + j + 1 - t = j + 1 := by omega
  have ec : chs (l.take f) (t + j + 1) = [] := chs_nil fun x hx => by have := lo x hx; omega
  have ez : (((t + j + 1 : Nat) : Int) - (t : Int)) = ((j + 1 : Nat) : Int) := by omega
  rw [ek, ez]
  refine ⟨hn, fl, ⟨onN g j, by rw [er], by rw [ec]; exact onN_on g j, ?_⟩, fun x hx => by have := lo x hx; omega, hd, rel.pass (j + 1), set⟩
  rw [ec, er, hts]
  show cast (told (run h0 (at_ l t)).2) = cast (told ((run h0 (at_ l t)).2 ++ List.replicate j [])) ++ []
  rw [List.append_nil, told_append]
  have e0 : ∀ (j k : Nat), toldAt k (List.replicate j []) = [] := by
    intro j
    induction j with
    | zero => intro k; rfl
    | succ j ih => intro k; exact ih (k + 1)
  rw [e0, List.append_nil]
theorem feels_snoc (c : Nat) : ∀ (l : List Nat) (h : Heart), feels h (l ++ [c]) = (((feels h l).1.feel c).1, (feels h l).2 ++ [((feels h l).1.feel c).2])
  | [], h => rfl
  | d :: r, h => by
    show ((feels (h.feel d).1 (r ++ [c])).1, (h.feel d).2 :: (feels (h.feel d).1 (r ++ [c])).2) = _
    rw [feels_snoc c r]
    rfl
theorem take_snoc {α : Type} {l : List α} {i : Nat} {x : α} (h : l[i]? = some x) : l.take (i + 1) = l.take i ++ [x] := by
  rw [List.take_add_one, h]
  rfl
theorem cast_append (a b : List Nat) : cast (a ++ b) = cast a ++ cast b := List.map_append
/-- a beat of this millisecond -/
theorem Inner.feel {h0 : Heart} {l : List Nat} {n t f x : Nat} {ts : List Int} {p : PM} {g : Heart} (I : Inner h0 l n t f ts p g) (hs : Rises l) (hx : l[f]? = some x) (he : x / 2 = t + 1) :
    Inner h0 l n t (f + 1) (ts ++ [8 * ((t + 1 : Nat) : Int) + feelW (cfgOf h0.set) p ((x % 2 : Nat) : Int) + ((x % 2 : Nat) : Int)]) (feelP (cfgOf h0.set) p ((x % 2 : Nat) : Int)) (g.feel (x % 2)).1 := by
  obtain ⟨tn, fl, ⟨b, e1, e2, e3⟩, lo, hi, rel, set⟩ := I
  obtain ⟨hf, ex⟩ := List.getElem?_eq_some_iff.mp hx
  obtain ⟨r1, r2, r3⟩ := rel.feel (ch := x % 2) (by omega)
  rw [set] at r1 r2 r3
  have ec : chs (l.take (f + 1)) (t + 1) = chs (l.take f) (t + 1) ++ [x % 2] := by
    unfold chs
    rw [take_snoc hx, List.filter_append, List.map_append]
    congr 1
    rw [List.filter_cons, if_pos (by simpa using he)]
    rfl
  refine ⟨tn, hf, ⟨b, e1, by rw [ec, feels_snoc, e2], ?_⟩, fun y hy => ?_, fun y hy => ?_, r1, r3⟩
  · rw [ec, feels_snoc, e2, List.map_append, cast_append, ← List.append_assoc, ← e3]
    congr 1
    show [_] = [((8 * (t + 1) + (g.feel (x % 2)).2 : Nat) : Int)]
    congr 1
    omega
  · rw [take_snoc hx] at hy
    rcases List.mem_append.mp hy with h | h
    · exact lo y h
    · rw [List.mem_singleton] at h
      subst h
      omega
  · exact hi y (List.mem_of_mem_drop (by rw [List.drop_drop]; exact hy : y ∈ (l.drop f).drop 1))
/-- then what is due is paced -/
theorem Inner.pace {h0 : Heart} {l : List Nat} {n t f : Nat} {ts : List Int} {p : PM} {g : Heart} (I : Inner h0 l n t f ts p g) (hs : Rises l) (hx : ∀ x, l[f]? = some x → x / 2 ≠ t + 1) :
    ∃ g', Outer h0 l n (t + 1) f (ts ++ paceW (cfgOf h0.set) p ((t + 1 : Nat) : Int)) (paceP (cfgOf h0.set) p) g' := by
  obtain ⟨tn, fl, ⟨b, e1, e2, e3⟩, lo, hi, rel, set⟩ := I
  have hi' : ∀ x ∈ l.drop f, t + 1 < x / 2 := by
    intro x hxd
    by_cases hf : f < l.length
    · have h1 : l[f]? = some l[f] := List.getElem?_eq_getElem hf
      have h2 := hx _ h1
      have h3 := rises_drop hs h1 x hxd
      have h4 := hi l[f] (by rw [List.drop_eq_getElem_cons hf]; exact List.mem_cons_self)
      omega
    · rw [List.drop_eq_nil_of_le (by omega)] at hxd
      simp at hxd
  have ec : chs l (t + 1) = chs (l.take f) (t + 1) := by
    unfold chs
    congr 1
    conv => lhs; rw [← List.take_append_drop f l]
    have en : (l.drop f).filter (fun x => x / 2 == t + 1) = [] := List.filter_eq_nil_iff.mpr fun x hx => by
      have := hi' x hx
      simp
      omega
    rw [List.filter_append, en, List.append_nil]
  obtain ⟨r1, r2, r3⟩ := rel.pace (t + 1)
  rw [set] at r1 r2 r3
  have hat : at_ l (t + 1) = at_ l t ++ [chs l (t + 1)] := by
    rw [at_add]
    rfl
  have em : b.ms (chs l (t + 1)) = (g.paceA.1.paceV.1, (feels b.on (chs (l.take f) (t + 1))).2 ++ (g.paceA.2 ++ g.paceA.1.paceV.2)) := by
    unfold Heart.ms
    rw [ec]
    simp only
    rw [e2]
  have er : run h0 (at_ l (t + 1)) = (g.paceA.1.paceV.1, (run h0 (at_ l t)).2 ++ [(feels b.on (chs (l.take f) (t + 1))).2 ++ (g.paceA.2 ++ g.paceA.1.paceV.2)]) := by
    rw [hat, run_append, e1]
    show ((b.ms (chs l (t + 1))).1, _ ++ [(b.ms (chs l (t + 1))).2]) = _
    rw [em]
  refine ⟨g.paceA.1.paceV.1, tn, fl, by rw [er], ?_, lo, hi', r1, ?_, r2⟩
  · rw [er]
    show _ = cast (told ((run h0 (at_ l t)).2 ++ [_]))
    rw [told_append, run_length, at_length, cast_append]
    rw [show ∀ z, toldAt t [z] = toldAt t (List.replicate 0 [] ++ [z]) from fun z => rfl, toldAt_quiet]
    rw [e3, r3, List.append_assoc]
    congr 1
    have ez : ∀ A B : List Nat, cast ((A ++ B).map fun x => 8 * (t + 0 + 1) + x) = cast (A.map fun e => 8 * (t + 1) + e) ++ B.map fun (e : Nat) => ((8 * (t + 1) + e : Nat) : Int) := by
      intro A B
      simp only [cast, List.map_append, List.map_map]
      rfl
    rw [ez]
  · have := rel.calm
    rw [set] at this
    exact this
theorem told_prefix (h0 : Heart) (l : List Nat) {t n : Nat} (h : t ≤ n) : (told (run h0 (at_ l t)).2).length ≤ (told (run h0 (at_ l n)).2).length := by
  obtain ⟨k, rfl⟩ : ∃ k, n = t + k := ⟨n - t, by omega⟩
  rw [at_add, run_append, told_append]
  simp
theorem Outer.len {h0 : Heart} {l : List Nat} {n t f : Nat} {ts : List Int} {p : PM} {g : Heart} (O : Outer h0 l n t f ts p g) : ts.length ≤ (told (run h0 (at_ l n)).2).length := by
  rw [O.ts]
  simp only [cast, List.length_map]
  exact told_prefix h0 l O.tn
end HP

end
section
set_option Elab.async false
namespace HP
open Sn71
/-! ### settings -/
def cfgL (l : List Int) : Cfg := ⟨l.getD 0 0, l.getD 1 0, l.getD 2 0, l.getD 3 0, l.getD 4 0, l.getD 5 0, l.getD 6 0⟩
def okC (c : Cfg) : Bool := decide (0 ≤ c.way ∧ c.way ≤ 2 ∧ 300 ≤ c.low ∧ c.low ≤ 2000 ∧ 200 ≤ c.high ∧ c.high ≤ c.low ∧ 30 ≤ c.delay ∧ c.delay ≤ 300 ∧ c.delay < c.low ∧ 100 ≤ c.atr ∧ c.atr ≤ c.aft ∧ c.aft ≤ 600 ∧ 100 ≤ c.ven ∧ c.ven ≤ c.high)
theorem seven {l : List Int} (h : l.length = 7) : ∃ a b c d e f g, l = [a, b, c, d, e, f, g] := by
  match l, h with
  | [a, b, c, d, e, f, g], _ => exact ⟨a, b, c, d, e, f, g, rfl⟩
theorem cfgL_of {l : List Int} (h : l.length = 7) (hp : ∀ x ∈ l, 0 ≤ x) : cfgL l = cfgOf (setOf (Sn71Neutral.nats l)) := by
  obtain ⟨a, b, c, d, e, f, g, rfl⟩ := seven h
  simp only [List.mem_cons, List.not_mem_nil, or_false, forall_eq_or_imp, forall_eq] at hp
  obtain ⟨h1, h2, h3, h4, h5, h6, h7⟩ := hp
  simp only [cfgL, cfgOf, setOf, Sn71Neutral.nats, List.map, List.getD_cons_zero, List.getD_cons_succ]
  congr <;> omega
theorem okC_of (s : Set_) : okC (cfgOf s) = s.right := by
  rw [Bool.eq_iff_iff, right_iff]
  unfold okC cfgOf
  simp only [decide_eq_true_eq]
  constructor
  · rintro ⟨h1, h2, h3, h4, h5, h6, h7, h8, h9, h10, h11, h12, h13, h14⟩
    exact ⟨by omega, by omega, by omega, by omega, by omega, by omega, by omega, by omega, by omega, by omega, by omega, by omega, by omega⟩
  · rintro ⟨h1, h2, h3, h4, h5, h6, h7, h8, h9, h10, h11, h12, h13⟩
    exact ⟨by omega, by omega, by omega, by omega, by omega, by omega, by omega, by omega, by omega, by omega, by omega, by omega, by omega, by omega⟩
/-! ### beats -/
def okB : Int → Int → List Int → Bool
  | _, _, [] => true
  | e, n, b :: r => if e ≤ b / 2 ∧ b / 2 ≤ n then okB (b / 2) n r else false
theorem rises_iff : ∀ l : List Nat, rising l = true ↔ Rises l
  | [] => by simp [rising, Rises]
  | [a] => by simp [rising, Rises]
  | a :: b :: r => by
    have ih := rises_iff (b :: r)
    show (decide (a / 2 ≤ b / 2) && rising (b :: r)) = true ↔ _
    rw [Bool.and_eq_true, decide_eq_true_eq, ih]
    unfold Rises
    rw [List.pairwise_cons (a := a)]
    constructor
    · rintro ⟨h1, h2⟩
      refine ⟨fun x hx => ?_, h2⟩
      rcases List.mem_cons.mp hx with rfl | hx
      · exact h1
      · exact Nat.le_trans h1 ((List.pairwise_cons.mp h2).1 x hx)
    · rintro ⟨h1, h2⟩
      exact ⟨h1 b List.mem_cons_self, h2⟩
theorem okB_iff (n : Nat) : ∀ (l : List Nat) (e : Nat), okB e n (cast l) = true ↔ (∀ x ∈ l, e ≤ x / 2 ∧ x / 2 ≤ n) ∧ Rises l
  | [], e => by simp [okB, Rises]
  | a :: r, e => by
    have ih := okB_iff n r (a / 2)
    show (if (e : Int) ≤ (a : Int) / 2 ∧ (a : Int) / 2 ≤ (n : Int) then okB ((a : Int) / 2) n (cast r) else false) = true ↔ _
    rw [show (a : Int) / 2 = ((a / 2 : Nat) : Int) by omega]
    unfold Rises at ih ⊢
    rw [List.pairwise_cons]
    by_cases q : (e : Int) ≤ ((a / 2 : Nat) : Int) ∧ ((a / 2 : Nat) : Int) ≤ (n : Int)
    · rw [if_pos q, ih]
      constructor
      · rintro ⟨h1, h2⟩
        refine ⟨fun x hx => ?_, fun x hx => (h1 x hx).1, h2⟩
        rcases List.mem_cons.mp hx with rfl | hx
        · omega
        · have := h1 x hx; omega
      · rintro ⟨h1, h2, h3⟩
        exact ⟨fun x hx => ⟨h2 x hx, (h1 x (List.mem_cons_of_mem _ hx)).2⟩, h3⟩
    · rw [if_neg q]
      constructor
      · intro h; cases h
      · rintro ⟨h1, _⟩
        have := h1 a List.mem_cons_self
        omega
def okR (m n r : Int) : Bool := decide (0 ≤ m ∧ m ≤ 4096 ∧ 0 ≤ n ∧ n ≤ 1000000 ∧ 0 ≤ r ∧ r ≤ 65536)
theorem nats_cast {l : List Int} (hp : ∀ x ∈ l, 0 ≤ x) : cast (Sn71Neutral.nats l) = l := by
  unfold cast Sn71Neutral.nats
  rw [List.map_map]
  conv => rhs; rw [← List.map_id l]
  exact List.map_congr_left fun x hx => by
    have := hp x hx
    show ((x.toNat : Nat) : Int) = x
    omega
theorem between_iff (z : Int) (a b : Nat) : between z a b = true ↔ (a : Int) ≤ z ∧ z ≤ (b : Int) := by
  unfold between
  simp
/-- run's looks are the specification's -/
theorem run_ok {l : List Int} (hp : ∀ x ∈ l, 0 ≤ x) (m n r : Int) :
    (between m 0 BEATS && (between n 0 LONG && (between r 0 MOSTROOM && (rising (Sn71Neutral.nats l) && (Sn71Neutral.nats l).all fun x => decide (1 ≤ x / 2) && decide (x / 2 ≤ n.toNat))))) = (okR m n r && okB 1 n l) := by
  rw [Bool.eq_iff_iff]
  simp only [Bool.and_eq_true, between_iff, List.all_eq_true, decide_eq_true_eq, rises_iff, okR, BEATS, LONG, MOSTROOM]
  constructor
  · rintro ⟨h1, h2, h3, h4, h5⟩
    refine ⟨by omega, ?_⟩
    have e := (okB_iff n.toNat (Sn71Neutral.nats l) 1).mpr ⟨h5, h4⟩
    rw [nats_cast hp, show ((n.toNat : Nat) : Int) = n by omega] at e
    exact e
  · rintro ⟨h1, h2⟩
    have e : okB ((1 : Nat) : Int) ((n.toNat : Nat) : Int) (cast (Sn71Neutral.nats l)) = true := by
      rw [nats_cast hp, show ((n.toNat : Nat) : Int) = n by omega]
      exact h2
    obtain ⟨h4, h5⟩ := (okB_iff n.toNat (Sn71Neutral.nats l) 1).mp e
    exact ⟨by omega, by omega, by omega, h5, h4⟩
/-! ### the specification's steps -/
abbrev stp := Sn71Neutral.step
theorem step_begin (s : Option Heart) (l : List Int) : stp s [[0], l] = if (setOf (Sn71Neutral.nats l)).right = false then (s, [-2]) else (some { set := setOf (Sn71Neutral.nats l) }, [0]) := by
  show (let y := Sn71.step s (.begin_ (Sn71Neutral.nats l)); (y.1, y.2.value :: y.2.out.map fun (n : Nat) => (n : Int))) = _
  simp only [Sn71.step]
  split <;> rfl
theorem step_state (h : Heart) : stp (some h) [[2]] = (some h, [0, (h.v : Int), (h.a : Int), if h.waits.isSome = true then 1 else 0, ((h.waits.getD 0 : Nat) : Int)]) := by
  obtain ⟨s, v, a, w, had, odd⟩ := h
  cases w <;> rfl
theorem step_run {l : List Int} (hp : ∀ x ∈ l, 0 ≤ x) (h : Heart) (m n r : Int) : stp (some h) [[1, m, n, r], l] =
    if (okR m n r && okB 1 n l) = false then (some h, [-2]) else
      if r < ((told (run h (at_ (Sn71Neutral.nats l) n.toNat)).2).length : Int) then (some h, [-3]) else
        (some (run h (at_ (Sn71Neutral.nats l) n.toNat)).1, ((told (run h (at_ (Sn71Neutral.nats l) n.toNat)).2).length : Int) :: cast (told (run h (at_ (Sn71Neutral.nats l) n.toNat)).2)) := by
  show (let y := Sn71.step (some h) (.run (Sn71Neutral.nats l) m n r); (y.1, y.2.value :: y.2.out.map fun (n : Nat) => (n : Int))) = _
  simp only [Sn71.step]
  rw [run_ok hp]
  split
  · rfl
  · split <;> rfl
end HP

end
section
set_option Elab.async false
namespace HP
open Sn71
open PySn71 (shape whole)
/-! ### the one list of calls -/
theorem row_of {r x s : List Int} (h : PyFlat.row r = some (x, s)) : r = (x.length : Int) :: (x ++ s) := by
  cases r with
  | nil => cases h
  | cons n r =>
    simp only [PyFlat.row] at h
    split at h
    · rename_i hn
      simp only [Option.some.injEq, Prod.mk.injEq] at h
      obtain ⟨rfl, rfl⟩ := h
      rw [List.take_append_drop, List.length_take, Nat.min_eq_left hn.2]
      congr 1
      omega
    · cases h
theorem rows1_of {r : List Int} {xs : List (List Int)} {t : List Int} (h : PyFlat.rows 1 r = some (xs, t)) : ∃ x, xs = [x] ∧ r = (x.length : Int) :: (x ++ t) := by
  simp only [PyFlat.rows] at h
  cases hr : PyFlat.row r with
  | none => rw [hr] at h; cases h
  | some y =>
    obtain ⟨x, s⟩ := y
    rw [hr] at h
    simp only [Option.some.injEq, Prod.mk.injEq] at h
    obtain ⟨rfl, rfl⟩ := h
    exact ⟨x, rfl, row_of hr⟩
theorem call_of {p : Int} {r : List Int} {c : List (List Int)} {t : List Int} (h : PyFlat.call shape (p :: r) = some (c, t)) :
    (p = 0 ∧ ∃ x : List Int, c = [[0], x] ∧ r = (x.length : Int) :: (x ++ t)) ∨
    (p = 1 ∧ ∃ (n m : Int) (x : List Int), c = [[1, n, m], x] ∧ r = n :: m :: (x.length : Int) :: (x ++ t)) ∨
    (p = 2 ∧ c = [[2]] ∧ r = t) := by
  simp only [PyFlat.call, shape] at h
  by_cases h0 : p = 0
  · subst h0
    simp only [if_true] at h
    rw [if_neg (Nat.not_lt_zero _)] at h
    cases hr : PyFlat.rows 1 (r.drop 0) with
    | none => rw [hr] at h; cases h
    | some y =>
      obtain ⟨xs, s⟩ := y
      rw [hr] at h
      simp only [Option.some.injEq, Prod.mk.injEq] at h
      obtain ⟨rfl, rfl⟩ := h
      obtain ⟨x, rfl, e⟩ := rows1_of hr
      exact .inl ⟨rfl, x, rfl, e⟩
  · rw [if_neg h0] at h
    by_cases h1 : p = 1
    · subst h1
      simp only [if_true] at h
      split at h
      · cases h
      · rename_i hl
        match r, hl with
        | [], hl => simp at hl
        | [_], hl => simp at hl
        | n :: m :: r', _ =>
          cases hr : PyFlat.rows 1 ((n :: m :: r').drop 2) with
          | none => rw [hr] at h; cases h
          | some y =>
            obtain ⟨xs, s⟩ := y
            rw [hr] at h
            simp only [Option.some.injEq, Prod.mk.injEq] at h
            obtain ⟨rfl, rfl⟩ := h
            obtain ⟨x, rfl, e⟩ := rows1_of hr
            refine .inr (.inl ⟨rfl, n, m, x, rfl, ?_⟩)
            have e' : r' = (x.length : Int) :: (x ++ s) := e
            rw [e']
    · rw [if_neg h1] at h
      by_cases h2 : p = 2
      · subst h2
        simp only [if_true] at h
        rw [if_neg (Nat.not_lt_zero _)] at h
        simp only [PyFlat.rows, Option.some.injEq, Prod.mk.injEq] at h
        obtain ⟨rfl, rfl⟩ := h
        exact .inr (.inr ⟨rfl, rfl, rfl⟩)
      · rw [if_neg h2] at h
        cases h
theorem calls_cons {f : Nat} {p : Int} {r : List Int} {cs : List (List (List Int))} (h : PyFlat.calls shape f (p :: r) = some cs) :
    ∃ f' c t cs', PyFlat.call shape (p :: r) = some (c, t) ∧ PyFlat.calls shape f' t = some cs' ∧ cs = c :: cs' := by
  cases f with
  | zero => cases h
  | succ f =>
    simp only [PyFlat.calls] at h
    cases hc : PyFlat.call shape (p :: r) with
    | none => rw [hc] at h; cases h
    | some y =>
      obtain ⟨c, t⟩ := y
      rw [hc] at h
      simp only at h
      cases ht : PyFlat.calls shape f t with
      | none => rw [ht] at h; cases h
      | some cs' =>
        rw [ht] at h
        simp only [Option.some.injEq] at h
        exact ⟨f, c, t, cs', rfl, ht, h.symm⟩
theorem calls_nil {f : Nat} {cs : List (List (List Int))} (h : PyFlat.calls shape f [] = some cs) : cs = [] := by
  cases f <;> simp only [PyFlat.calls, Option.some.injEq] at h <;> exact h.symm
/-- what is left: from the place i on, the calls cs; g is answered, k numbers in all -/
structure Left (ns : List Int) (i : Nat) (g : List Int) (st : Option Heart) (cs : List (List (List Int))) (k : Nat) : Prop where
  il : i ≤ ns.length
  dec : ∃ f, PyFlat.calls shape f (ns.drop i) = some cs
  eq : g ++ PyFlat.told (PyFlat.played stp st (cs.map whole)) = PySn71.answers ns
  ask : (cs.map whole).all Sn71Neutral.asked1 = true
  tot : Sn71Neutral.total st (cs.map whole) k = true
  len : g.length + cs.length ≤ k + 1000
  non : st = none → ∃ x r, cs.map whole = [[0], x] :: r ∧ (setOf (Sn71Neutral.nats x)).right = true
theorem Left.start {ns : List Int} (h : PySn71.answers_asked ns = true) : ∃ cs, Left ns 0 [] none cs 0 := by
  unfold PySn71.answers_asked at h
  cases hc : PySn71.calls ns with
  | none => rw [hc] at h; cases h
  | some cw =>
    have hc' := hc
    unfold PySn71.calls at hc'
    cases hd : PyFlat.calls shape ns.length ns with
    | none => rw [hd] at hc'; cases hc'
    | some cs =>
      rw [hd] at hc'
      simp only [Option.some.injEq] at hc'
      rw [hc] at h
      simp only [Bool.and_eq_true, Sn71Neutral.asked] at h
      obtain ⟨h1, h2, h3, h4⟩ := h
      refine ⟨cs, Nat.zero_le _, ⟨_, hd⟩, ?_, by rw [hc']; exact h2, by rw [hc']; exact h4, ?_, fun _ => ?_⟩
      · rw [List.nil_append, hc']
        unfold PySn71.answers
        rw [hc]
        rfl
      · have := of_decide_eq_true h1
        rw [← hc', List.length_map] at this
        simp only [List.length_nil]
        omega
      · rw [hc']
        split at h3
        · rename_i x r
          exact ⟨x, r, rfl, h3⟩
        · cases h3
theorem Left.stop {ns : List Int} {g : List Int} {st : Option Heart} {cs : List (List (List Int))} {k : Nat} (L : Left ns ns.length g st cs k) : g = PySn71.answers ns := by
  obtain ⟨f, hd⟩ := L.dec
  rw [List.drop_length] at hd
  have e := calls_nil hd
  subst e
  have q := L.eq
  rw [← q]
  show g = g ++ []
  rw [List.append_nil]
theorem drop_ix {ns : List Int} {i : Nat} {a : List Int} (h : ns.drop i = a) (j : Nat) : ns[i + j]? = a[j]? := by
  rw [← h, List.getElem?_drop]
theorem Left.next {ns : List Int} {i : Nat} {g : List Int} {st : Option Heart} {cs : List (List (List Int))} {k : Nat} (L : Left ns i g st cs k) {c : List (List Int)} {cs' : List (List (List Int))} (hcs : cs = c :: cs')
    {j f' : Nat} (hj : i + j ≤ ns.length) (hd : PyFlat.calls shape f' (ns.drop (i + j)) = some cs') (hs : (stp st (whole c)).1 ≠ none) :
    Left ns (i + j) (g ++ (((stp st (whole c)).2.length : Int) :: (stp st (whole c)).2)) (stp st (whole c)).1 cs' (k + (stp st (whole c)).2.length) ∧ k + (stp st (whole c)).2.length < 1000000 ∧
    g.length + 1 + (stp st (whole c)).2.length ≤ 1001000 := by
  subst hcs
  obtain ⟨il, dec, eq, ask, tot, len, non⟩ := L
  have tot' : (if 1000000 ≤ k + (stp st (whole c)).2.length then false else Sn71Neutral.total (stp st (whole c)).1 (cs'.map whole) (k + (stp st (whole c)).2.length)) = true := tot
  split at tot'
  · cases tot'
  · rename_i hk
    have ask' : (Sn71Neutral.asked1 (whole c) && (cs'.map whole).all Sn71Neutral.asked1) = true := ask
    rw [Bool.and_eq_true] at ask'
    simp only [List.length_cons] at len
    refine ⟨⟨hj, ⟨f', hd⟩, ?_, ask'.2, tot', ?_, fun h => (hs h).elim⟩, by omega, by omega⟩
    · rw [← eq]
      show _ = g ++ ((((stp st (whole c)).2.length : Int) :: (stp st (whole c)).2) ++ PyFlat.told (PyFlat.played stp (stp st (whole c)).1 (cs'.map whole)))
      rw [List.append_assoc]
    · simp only [List.length_append, List.length_cons]
      omega
theorem Left.head {ns : List Int} {i : Nat} {g : List Int} {st : Option Heart} {cs : List (List (List Int))} {k : Nat} (L : Left ns i g st cs k) {c : List (List Int)} {cs' : List (List (List Int))} (hcs : cs = c :: cs') : Sn71Neutral.asked1 (whole c) = true := by
  have h := L.ask
  subst hcs
  simp only [List.map_cons, List.all_cons, Bool.and_eq_true] at h
  exact h.1
/-- a place that is not the end: one of the three calls stands there -/
theorem Left.turn {ns : List Int} {i : Nat} {g : List Int} {st : Option Heart} {cs : List (List (List Int))} {k : Nat} (L : Left ns i g st cs k) (hi : i < ns.length) :
    (∃ (x : List Int) (cs' : List (List (List Int))), ns[i]? = some 0 ∧ ns[i + 1]? = some 7 ∧ x.length = 7 ∧ x = (ns.drop (i + 2)).take 7 ∧ i + 9 ≤ ns.length ∧ (∀ y ∈ x, 0 ≤ y) ∧
      Left ns (i + 9) (g ++ (((stp st [[0], x]).2.length : Int) :: (stp st [[0], x]).2)) (stp st [[0], x]).1 cs' (k + (stp st [[0], x]).2.length) ∧ g.length + 1 + (stp st [[0], x]).2.length ≤ 1001000) ∨
    (∃ (h : Heart) (n m : Int) (x : List Int) (cs' : List (List (List Int))), st = some h ∧ ns[i]? = some 1 ∧ ns[i + 1]? = some n ∧ ns[i + 2]? = some m ∧ ns[i + 3]? = some (x.length : Int) ∧ x = (ns.drop (i + 4)).take x.length ∧ i + 4 + x.length ≤ ns.length ∧ x.length ≤ 4096 ∧ (∀ y ∈ x, 0 ≤ y) ∧
      Left ns (i + 4 + x.length) (g ++ (((stp st [[1, (x.length : Int), n, m], x]).2.length : Int) :: (stp st [[1, (x.length : Int), n, m], x]).2)) (stp st [[1, (x.length : Int), n, m], x]).1 cs' (k + (stp st [[1, (x.length : Int), n, m], x]).2.length) ∧ g.length + 1 + (stp st [[1, (x.length : Int), n, m], x]).2.length ≤ 1001000) ∨
    (∃ (h : Heart) (cs' : List (List (List Int))), st = some h ∧ ns[i]? = some 2 ∧
      Left ns (i + 1) (g ++ (((stp st [[2]]).2.length : Int) :: (stp st [[2]]).2)) (stp st [[2]]).1 cs' (k + (stp st [[2]]).2.length) ∧ g.length + 1 + (stp st [[2]]).2.length ≤ 1001000) := by
  obtain ⟨f, hd⟩ := L.dec
  obtain ⟨p, r, hpr⟩ : ∃ p r, ns.drop i = p :: r := by
    rw [List.drop_eq_getElem_cons hi]
    exact ⟨_, _, rfl⟩
  rw [hpr] at hd
  obtain ⟨f', c, t, cs', hc, ht, hcs⟩ := calls_cons hd
  have hask := L.head hcs
  have hlen : ns.length = i + (r.length + 1) := by
    have := congrArg List.length hpr
    rw [List.length_drop, List.length_cons] at this
    omega
  have step_some : ∀ (h : Heart) (c : List (List Int)), (stp (some h) c).1 ≠ none := by
    intro h c
    unfold stp Sn71Neutral.step
    cases Sn71Neutral.callOf c with
    | none => simp
    | some y =>
      cases y with
      | begin_ l => simp only [Sn71.step]; split <;> simp
      | run l m n r => simp only [Sn71.step]; split <;> (try split) <;> simp
      | state => simp only [Sn71.step]; simp
  rcases call_of hc with ⟨rfl, x, rfl, rfl⟩ | ⟨rfl, n, m, x, rfl, rfl⟩ | ⟨rfl, rfl, rfl⟩
  · left
    have hask' : (x.length == 7 && x.all fun (z : Int) => NeutralIO.within z 0 65535) = true := hask
    rw [Bool.and_eq_true] at hask'
    have hx7 : x.length = 7 := by simpa using hask'.1
    have hx0 : ∀ y ∈ x, 0 ≤ y := by
      intro y hy
      have := List.all_eq_true.mp hask'.2 y hy
      simp only [NeutralIO.within, Bool.and_eq_true, decide_eq_true_eq] at this
      exact this.1
    simp only [List.length_cons, List.length_append] at hlen
    have hdr : ns.drop (i + 2) = x ++ t := by
      rw [← List.drop_drop, hpr]
      rfl
    have hdr9 : ns.drop (i + 9) = t := by
      rw [show i + 9 = i + 2 + x.length by omega, ← List.drop_drop, hdr, List.drop_left]
    have hne : (stp st (whole [[0], x])).1 ≠ none := by
      cases st with
      | some h => exact step_some h _
      | none =>
        obtain ⟨x', r', e1, e2⟩ := L.non rfl
        rw [hcs] at e1
        have e3 : ([[0], x] : List (List Int)) = [[0], x'] := (List.cons.inj e1).1
        have e4 : x = x' := (List.cons.inj (List.cons.inj e3).2).1
        subst e4
        show (stp none [[0], x]).1 ≠ none
        rw [step_begin, e2]
        simp
    have N := L.next hcs (j := 9) (by omega) (by rw [hdr9]; exact ht) hne
    refine ⟨x, cs', ?_, ?_, hx7, ?_, by omega, hx0, N.1, N.2.2⟩
    · have := drop_ix hpr 0; rw [Nat.add_zero] at this; rw [this]; rfl
    · have := drop_ix hpr 1; rw [this]; show some (x.length : Int) = some 7; rw [hx7]; rfl
    · rw [hdr, ← hx7, List.take_left]
  · right; left
    have hask' : (Sn71Neutral.whole32 (x.length : Int) && (Sn71Neutral.whole32 n && (Sn71Neutral.whole32 m && (Sn71Neutral.long x (x.length : Int) 0 4096 && x.all fun (z : Int) => NeutralIO.within z 0 4294967295)))) = true := hask
    simp only [Bool.and_eq_true, Sn71Neutral.long, decide_eq_true_eq] at hask'
    obtain ⟨_, _, _, h4, h5⟩ := hask'
    have hx4 : x.length ≤ 4096 := by
      split at h4 <;> omega
    have hx0 : ∀ y ∈ x, 0 ≤ y := by
      intro y hy
      have := List.all_eq_true.mp h5 y hy
      simp only [NeutralIO.within, Bool.and_eq_true, decide_eq_true_eq] at this
      exact this.1
    simp only [List.length_cons, List.length_append] at hlen
    have hdr : ns.drop (i + 4) = x ++ t := by
      rw [← List.drop_drop, hpr]
      rfl
    have hdr9 : ns.drop (i + (4 + x.length)) = t := by
      rw [show i + (4 + x.length) = i + 4 + x.length by omega, ← List.drop_drop, hdr, List.drop_left]
    cases st with
    | none =>
      obtain ⟨x', r', e1, e2⟩ := L.non rfl
      rw [hcs] at e1
      have e3 : ([[1, (x.length : Int), n, m], x] : List (List Int)) = [[0], x'] := (List.cons.inj e1).1
      simp at e3
    | some h =>
      have N := L.next hcs (j := 4 + x.length) (by omega) (by rw [hdr9]; exact ht) (step_some h _)
      rw [← Nat.add_assoc] at N
      refine ⟨h, n, m, x, cs', rfl, ?_, ?_, ?_, ?_, ?_, by omega, hx4, hx0, N.1, N.2.2⟩
      · have := drop_ix hpr 0; rw [Nat.add_zero] at this; rw [this]; rfl
      · have := drop_ix hpr 1; rw [this]; rfl
      · have := drop_ix hpr 2; rw [this]; rfl
      · have := drop_ix hpr 3; rw [this]; rfl
      · rw [hdr, List.take_left]
  · right; right
    have hdr : ns.drop (i + 1) = r := by
      rw [← List.drop_drop, hpr]
      rfl
    cases st with
    | none =>
      obtain ⟨x', r', e1, e2⟩ := L.non rfl
      rw [hcs] at e1
      have e3 : ([[2]] : List (List Int)) = [[0], x'] := (List.cons.inj e1).1
      simp at e3
    | some h =>
      have N := L.next hcs (j := 1) (by omega) (by rw [hdr]; exact ht) (step_some h _)
      refine ⟨h, cs', rfl, ?_, N.1, N.2.2⟩
      have := drop_ix hpr 0; rw [Nat.add_zero] at this; rw [this]; rfl
end HP

end
section
set_option Elab.async false
set_option linter.all false
set_option maxRecDepth 100000
set_option maxHeartbeats 4000000
namespace HP
open PySem PySem.Spec PyProof.Rows L2
/-! ### a op b op c op d; a global int -/
def tChain3 (r r2 r3 : R2) (ta tb tc td : TE) : TE := fun σ H Q => ta σ H fun x H1 => tb σ H1 fun y H2 => r x y H2 fun z H3 => ∃ k, z = .bl k ∧
  (if k = true then tc σ H3 fun x2 H4 => r2 y x2 H4 fun z2 H5 => ∃ k2, z2 = .bl k2 ∧ (if k2 = true then td σ H5 fun x3 H6 => r3 x2 x3 H6 Q else Q (.bl false) H5) else Q (.bl false) H3)
theorem pe_chain3 {X : Cx} {a b c d : Expr} {ta tb tc td : TE} {pos : Pos} {op op2 op3 : CmpOp} {r r2 r3 : R2} (ho : OpR X (compareOp op) r) (ho2 : OpR X (compareOp op2) r2) (ho3 : OpR X (compareOp op3) r3) (ha : PE X a ta) (hb : PE X b tb) (hc : PE X c tc) (hd : PE X d td)
    (hm : lastMarks [op, op2, op3] [b, c, d] = false := by with_unfolding_all rfl) : PE X (.Compare a [op, op2, op3] [b, c, d] pos) (tChain3 r r2 r3 ta tb tc td) := by
  intro pins s σ H Q I h
  refine Compare_chain (thn (ha pins s σ H _ I h) fun v s1 ⟨x, H1, I1, q0, q1⟩ => chain_link (thn (hb pins s1 σ H1 _ I1 q1) fun u s2 ⟨y, H2, I2, p2, q2⟩ =>
    thn (ho pins s2 σ H2 x y v u _ I2 q0 p2 q2) fun e3 s3 ⟨z, H3, I3, p3, k, ek, q3⟩ => ?_)) hm
  subst ek
  cases p3
  refine wpAny_truthy_bool ?_
  cases k with
  | false => exact ite_ff ⟨.bl false, H3, I3, rfl, q3⟩
  | true =>
    refine ite_tt (chain_link (thn (hc pins s3 σ H3 _ I3 q3) fun w4 s4 ⟨z4, H4, I4, p4, q4⟩ => thn (ho2 pins s4 σ H4 y z4 u w4 _ I4 p2 p4 q4) fun e5 s5 ⟨z5, H5, I5, p5, k2, ek2, q5⟩ => ?_))
    subst ek2
    cases p5
    refine wpAny_truthy_bool ?_
    cases k2 with
    | false => exact ite_ff ⟨.bl false, H5, I5, rfl, q5⟩
    | true => exact ite_tt (chain_last (thn (hd pins s5 σ H5 _ I5 q5) fun w6 s6 ⟨z6, H6, I6, p6, q6⟩ => ho3 pins s6 σ H6 z4 z6 w4 w6 Q I6 p4 p6 q6))
def Gi (mg : Str → Option Value) (x : Str) (i : Int) : Prop := ∃ t, mg x = some (Value.int i t)
theorem pe_gi {X : Cx} {x : Str} {i : Int} {pos : Pos} (hg : Gl X x) (h : Gi X.mg x i) (hd : (x == ("__debug__" : Str)) = false := by decide) : PE X (.Name x pos) (tC (.int i)) := by
  obtain ⟨t, h⟩ := h
  exact pe_glob hg h ⟨t, rfl⟩ hd
/-! ### fields -/
theorem lk_hit {f : Str} {v : V} {r : List (Str × V)} : List.lookup f ((f, v) :: r) = some v := by
  have hb : (f == f) = true := beq_iff_eq.mpr rfl
  simp only [List.lookup, hb]
theorem lk_miss {f g : Str} {v : V} {r : List (Str × V)} (h : ¬ g = f) : List.lookup g ((f, v) :: r) = List.lookup g r := by
  have hb : (g == f) = false := beq_eq_false_iff_ne.mpr h
  simp only [List.lookup, hb]
theorem put_hit {f : Str} {y x : V} {r : List (Str × V)} : putF f y ((f, x) :: r) = (f, y) :: r := if_pos rfl
theorem put_miss {f g : Str} {y x : V} {r : List (Str × V)} (h : ¬ g = f) : putF f y ((g, x) :: r) = (g, x) :: putF f y r := if_neg h
theorem put_nil {f : Str} {y : V} : putF f y [] = [(f, y)] := rfl
theorem lk_none {m : Str} : ∀ {fs : List (Str × V)}, (fs.map (·.1)).contains m = false → fs.lookup m = none
  | [], _ => rfl
  | (f, v) :: r, h => by
    rw [List.map_cons, List.contains_cons, Bool.or_eq_false_iff] at h
    rw [lk_miss (beq_eq_false_iff_ne.mp h.1)]
    exact lk_none h.2
theorem lp1 {f : Str} {v : V} {fs : List (Str × V)} {n : Nat} (h : fs.length ≤ n) : (putF f v fs).length ≤ n + 1 := Nat.le_trans (length_putF f v fs) (Nat.succ_le_succ h)
theorem lpd {fs : List (Str × V)} {n : Nat} (h : fs.length ≤ n) (hn : n < 1000) : fs.length < 1000 := Nat.lt_of_le_of_lt h hn
def setF (c : Cfg) : List (Str × V) := [("way", .int c.way), ("low", .int c.low), ("high", .int c.high), ("delay", .int c.delay), ("atrium", .int c.atr), ("ventricle", .int c.ven), ("after_odd", .int c.aft)]
def pmF (s : Addr) (q : PM) : List (Str × V) := [("settings", .ref s), ("ventricle_ago", .int q.v), ("atrium_ago", .int q.a), ("waiting", .bl q.wg), ("waited", .int q.wd), ("atrium_since", .bl q.since), ("odd", .bl q.odd)]
def lineF (v : V) : List (Str × V) := [("pacemaker", v)]
theorem lS_way (c : Cfg) : (setF c).lookup ("way" : Str) = some (.int c.way) := lk_hit
theorem lS_low (c : Cfg) : (setF c).lookup ("low" : Str) = some (.int c.low) := (lk_miss (f := "way") (g := "low") (by decide +kernel)).trans lk_hit
theorem lS_high (c : Cfg) : (setF c).lookup ("high" : Str) = some (.int c.high) := (lk_miss (f := "way") (g := "high") (by decide +kernel)).trans ((lk_miss (f := "low") (g := "high") (by decide +kernel)).trans lk_hit)
theorem lS_delay (c : Cfg) : (setF c).lookup ("delay" : Str) = some (.int c.delay) := (lk_miss (f := "way") (g := "delay") (by decide +kernel)).trans ((lk_miss (f := "low") (g := "delay") (by decide +kernel)).trans ((lk_miss (f := "high") (g := "delay") (by decide +kernel)).trans lk_hit))
theorem lS_atr (c : Cfg) : (setF c).lookup ("atrium" : Str) = some (.int c.atr) := (lk_miss (f := "way") (g := "atrium") (by decide +kernel)).trans ((lk_miss (f := "low") (g := "atrium") (by decide +kernel)).trans ((lk_miss (f := "high") (g := "atrium") (by decide +kernel)).trans ((lk_miss (f := "delay") (g := "atrium") (by decide +kernel)).trans lk_hit)))
theorem lS_ven (c : Cfg) : (setF c).lookup ("ventricle" : Str) = some (.int c.ven) := (lk_miss (f := "way") (g := "ventricle") (by decide +kernel)).trans ((lk_miss (f := "low") (g := "ventricle") (by decide +kernel)).trans ((lk_miss (f := "high") (g := "ventricle") (by decide +kernel)).trans ((lk_miss (f := "delay") (g := "ventricle") (by decide +kernel)).trans ((lk_miss (f := "atrium") (g := "ventricle") (by decide +kernel)).trans lk_hit))))
theorem lS_aft (c : Cfg) : (setF c).lookup ("after_odd" : Str) = some (.int c.aft) := (lk_miss (f := "way") (g := "after_odd") (by decide +kernel)).trans ((lk_miss (f := "low") (g := "after_odd") (by decide +kernel)).trans ((lk_miss (f := "high") (g := "after_odd") (by decide +kernel)).trans ((lk_miss (f := "delay") (g := "after_odd") (by decide +kernel)).trans ((lk_miss (f := "atrium") (g := "after_odd") (by decide +kernel)).trans ((lk_miss (f := "ventricle") (g := "after_odd") (by decide +kernel)).trans lk_hit)))))
theorem lP_s (s : Addr) (q : PM) : (pmF s q).lookup ("settings" : Str) = some (.ref s) := lk_hit
theorem lP_v (s : Addr) (q : PM) : (pmF s q).lookup ("ventricle_ago" : Str) = some (.int q.v) := (lk_miss (f := "settings") (g := "ventricle_ago") (by decide +kernel)).trans lk_hit
theorem lP_a (s : Addr) (q : PM) : (pmF s q).lookup ("atrium_ago" : Str) = some (.int q.a) := (lk_miss (f := "settings") (g := "atrium_ago") (by decide +kernel)).trans ((lk_miss (f := "ventricle_ago") (g := "atrium_ago") (by decide +kernel)).trans lk_hit)
theorem lP_wg (s : Addr) (q : PM) : (pmF s q).lookup ("waiting" : Str) = some (.bl q.wg) := (lk_miss (f := "settings") (g := "waiting") (by decide +kernel)).trans ((lk_miss (f := "ventricle_ago") (g := "waiting") (by decide +kernel)).trans ((lk_miss (f := "atrium_ago") (g := "waiting") (by decide +kernel)).trans lk_hit))
theorem lP_wd (s : Addr) (q : PM) : (pmF s q).lookup ("waited" : Str) = some (.int q.wd) := (lk_miss (f := "settings") (g := "waited") (by decide +kernel)).trans ((lk_miss (f := "ventricle_ago") (g := "waited") (by decide +kernel)).trans ((lk_miss (f := "atrium_ago") (g := "waited") (by decide +kernel)).trans ((lk_miss (f := "waiting") (g := "waited") (by decide +kernel)).trans lk_hit)))
theorem lP_since (s : Addr) (q : PM) : (pmF s q).lookup ("atrium_since" : Str) = some (.bl q.since) := (lk_miss (f := "settings") (g := "atrium_since") (by decide +kernel)).trans ((lk_miss (f := "ventricle_ago") (g := "atrium_since") (by decide +kernel)).trans ((lk_miss (f := "atrium_ago") (g := "atrium_since") (by decide +kernel)).trans ((lk_miss (f := "waiting") (g := "atrium_since") (by decide +kernel)).trans ((lk_miss (f := "waited") (g := "atrium_since") (by decide +kernel)).trans lk_hit))))
theorem lP_odd (s : Addr) (q : PM) : (pmF s q).lookup ("odd" : Str) = some (.bl q.odd) := (lk_miss (f := "settings") (g := "odd") (by decide +kernel)).trans ((lk_miss (f := "ventricle_ago") (g := "odd") (by decide +kernel)).trans ((lk_miss (f := "atrium_ago") (g := "odd") (by decide +kernel)).trans ((lk_miss (f := "waiting") (g := "odd") (by decide +kernel)).trans ((lk_miss (f := "waited") (g := "odd") (by decide +kernel)).trans ((lk_miss (f := "atrium_since") (g := "odd") (by decide +kernel)).trans lk_hit)))))
theorem uP_v (s : Addr) (q : PM) (z : Int) : putF "ventricle_ago" (.int z) (pmF s q) = pmF s { q with v := z } := (put_miss (f := "ventricle_ago") (g := "settings") (by decide +kernel)).trans (congrArg (List.cons _) (put_hit))
theorem uP_a (s : Addr) (q : PM) (z : Int) : putF "atrium_ago" (.int z) (pmF s q) = pmF s { q with a := z } := (put_miss (f := "atrium_ago") (g := "settings") (by decide +kernel)).trans (congrArg (List.cons _) ((put_miss (f := "atrium_ago") (g := "ventricle_ago") (by decide +kernel)).trans (congrArg (List.cons _) (put_hit))))
theorem uP_wg (s : Addr) (q : PM) (z : Bool) : putF "waiting" (.bl z) (pmF s q) = pmF s { q with wg := z } := (put_miss (f := "waiting") (g := "settings") (by decide +kernel)).trans (congrArg (List.cons _) ((put_miss (f := "waiting") (g := "ventricle_ago") (by decide +kernel)).trans (congrArg (List.cons _) ((put_miss (f := "waiting") (g := "atrium_ago") (by decide +kernel)).trans (congrArg (List.cons _) (put_hit))))))
theorem uP_wd (s : Addr) (q : PM) (z : Int) : putF "waited" (.int z) (pmF s q) = pmF s { q with wd := z } := (put_miss (f := "waited") (g := "settings") (by decide +kernel)).trans (congrArg (List.cons _) ((put_miss (f := "waited") (g := "ventricle_ago") (by decide +kernel)).trans (congrArg (List.cons _) ((put_miss (f := "waited") (g := "atrium_ago") (by decide +kernel)).trans (congrArg (List.cons _) ((put_miss (f := "waited") (g := "waiting") (by decide +kernel)).trans (congrArg (List.cons _) (put_hit))))))))
theorem uP_since (s : Addr) (q : PM) (z : Bool) : putF "atrium_since" (.bl z) (pmF s q) = pmF s { q with since := z } := (put_miss (f := "atrium_since") (g := "settings") (by decide +kernel)).trans (congrArg (List.cons _) ((put_miss (f := "atrium_since") (g := "ventricle_ago") (by decide +kernel)).trans (congrArg (List.cons _) ((put_miss (f := "atrium_since") (g := "atrium_ago") (by decide +kernel)).trans (congrArg (List.cons _) ((put_miss (f := "atrium_since") (g := "waiting") (by decide +kernel)).trans (congrArg (List.cons _) ((put_miss (f := "atrium_since") (g := "waited") (by decide +kernel)).trans (congrArg (List.cons _) (put_hit))))))))))
theorem uP_odd (s : Addr) (q : PM) (z : Bool) : putF "odd" (.bl z) (pmF s q) = pmF s { q with odd := z } := (put_miss (f := "odd") (g := "settings") (by decide +kernel)).trans (congrArg (List.cons _) ((put_miss (f := "odd") (g := "ventricle_ago") (by decide +kernel)).trans (congrArg (List.cons _) ((put_miss (f := "odd") (g := "atrium_ago") (by decide +kernel)).trans (congrArg (List.cons _) ((put_miss (f := "odd") (g := "waiting") (by decide +kernel)).trans (congrArg (List.cons _) ((put_miss (f := "odd") (g := "waited") (by decide +kernel)).trans (congrArg (List.cons _) ((put_miss (f := "odd") (g := "atrium_since") (by decide +kernel)).trans (congrArg (List.cons _) (put_hit))))))))))))
theorem mk_set (x0 x1 x2 x3 x4 x5 x6 : Int) : putF "after_odd" (.int x6) (putF "ventricle" (.int x5) (putF "atrium" (.int x4) (putF "delay" (.int x3) (putF "high" (.int x2) (putF "low" (.int x1) (putF "way" (.int x0) [])))))) = setF ⟨x0, x1, x2, x3, x4, x5, x6⟩ := by
  rw [put_nil, put_miss (f := "low") (g := "way") (by decide +kernel), put_nil, put_miss (f := "high") (g := "way") (by decide +kernel), put_miss (f := "high") (g := "low") (by decide +kernel), put_nil, put_miss (f := "delay") (g := "way") (by decide +kernel), put_miss (f := "delay") (g := "low") (by decide +kernel), put_miss (f := "delay") (g := "high") (by decide +kernel), put_nil, put_miss (f := "atrium") (g := "way") (by decide +kernel), put_miss (f := "atrium") (g := "low") (by decide +kernel), put_miss (f := "atrium") (g := "high") (by decide +kernel), put_miss (f := "atrium") (g := "delay") (by decide +kernel), put_nil, put_miss (f := "ventricle") (g := "way") (by decide +kernel), put_miss (f := "ventricle") (g := "low") (by decide +kernel), put_miss (f := "ventricle") (g := "high") (by decide +kernel), put_miss (f := "ventricle") (g := "delay") (by decide +kernel), put_miss (f := "ventricle") (g := "atrium") (by decide +kernel), put_nil, put_miss (f := "after_odd") (g := "way") (by decide +kernel), put_miss (f := "after_odd") (g := "low") (by decide +kernel), put_miss (f := "after_odd") (g := "high") (by decide +kernel), put_miss (f := "after_odd") (g := "delay") (by decide +kernel), put_miss (f := "after_odd") (g := "atrium") (by decide +kernel), put_miss (f := "after_odd") (g := "ventricle") (by decide +kernel), put_nil]
  rfl
theorem mk_pm (s : Addr) (x1 x2 : Int) (x3 : Bool) (x4 : Int) (x5 x6 : Bool) : putF "odd" (.bl x6) (putF "atrium_since" (.bl x5) (putF "waited" (.int x4) (putF "waiting" (.bl x3) (putF "atrium_ago" (.int x2) (putF "ventricle_ago" (.int x1) (putF "settings" (.ref s) [])))))) = pmF s ⟨x1, x2, x3, x4, x5, x6⟩ := by
  rw [put_nil, put_miss (f := "ventricle_ago") (g := "settings") (by decide +kernel), put_nil, put_miss (f := "atrium_ago") (g := "settings") (by decide +kernel), put_miss (f := "atrium_ago") (g := "ventricle_ago") (by decide +kernel), put_nil, put_miss (f := "waiting") (g := "settings") (by decide +kernel), put_miss (f := "waiting") (g := "ventricle_ago") (by decide +kernel), put_miss (f := "waiting") (g := "atrium_ago") (by decide +kernel), put_nil, put_miss (f := "waited") (g := "settings") (by decide +kernel), put_miss (f := "waited") (g := "ventricle_ago") (by decide +kernel), put_miss (f := "waited") (g := "atrium_ago") (by decide +kernel), put_miss (f := "waited") (g := "waiting") (by decide +kernel), put_nil, put_miss (f := "atrium_since") (g := "settings") (by decide +kernel), put_miss (f := "atrium_since") (g := "ventricle_ago") (by decide +kernel), put_miss (f := "atrium_since") (g := "atrium_ago") (by decide +kernel), put_miss (f := "atrium_since") (g := "waiting") (by decide +kernel), put_miss (f := "atrium_since") (g := "waited") (by decide +kernel), put_nil, put_miss (f := "odd") (g := "settings") (by decide +kernel), put_miss (f := "odd") (g := "ventricle_ago") (by decide +kernel), put_miss (f := "odd") (g := "atrium_ago") (by decide +kernel), put_miss (f := "odd") (g := "waiting") (by decide +kernel), put_miss (f := "odd") (g := "waited") (by decide +kernel), put_miss (f := "odd") (g := "atrium_since") (by decide +kernel), put_nil]
  rfl
theorem lL (v : V) : (lineF v).lookup ("pacemaker" : Str) = some v := lk_hit
theorem uL (v z : V) : putF "pacemaker" z (lineF v) = lineF z := put_hit
theorem mk_line (z : V) : putF "pacemaker" z [] = lineF z := rfl
theorem noS {m : Str} (c : Cfg) (h : (["way", "low", "high", "delay", "atrium", "ventricle", "after_odd"] : List Str).contains m = false) : (setF c).lookup m = none := lk_none h
theorem noP {m : Str} (s : Addr) (q : PM) (h : (["settings", "ventricle_ago", "atrium_ago", "waiting", "waited", "atrium_since", "odd"] : List Str).contains m = false) : (pmF s q).lookup m = none := lk_none h
theorem noL {m : Str} (v : V) (h : (["pacemaker"] : List Str).contains m = false) : (lineF v).lookup m = none := lk_none h
theorem upd_id {H : Hp} {a : Addr} {o : HO} (h : H a = some o) : upd H a o = H := by
  funext b
  unfold upd
  split
  · rename_i e; rw [e, h]
  · rfl
theorem upd_comm {H : Hp} {a b : Addr} {o u : HO} (h : a ≠ b) : upd (upd H a o) b u = upd (upd H b u) a o := by
  funext x
  unfold upd
  by_cases h1 : x = b
  · subst h1
    rw [if_pos rfl, if_neg (fun z => h z.symm), if_pos rfl]
  · rw [if_neg h1]
    by_cases h2 : x = a
    · rw [if_pos h2, if_pos h2]
    · rw [if_neg h2, if_neg h2, if_neg h1]
/-! ### the text by places -/
def top (i : Nat) : Stmt := PySem.Challenge.pw_heartpacer_s01_answers.main.body.getD i (.Pass ⟨0, 0, 0, 0⟩)
abbrev s_si : Stmt := inClass (top 15) 0
abbrev s_so : Stmt := inClass (top 15) 1
abbrev s_pi : Stmt := inClass (top 16) 0
abbrev s_tw : Stmt := inClass (top 16) 1
abbrev s_lp : Stmt := inClass (top 16) 2
abbrev s_ab : Stmt := inClass (top 16) 3
abbrev s_vb : Stmt := inClass (top 16) 4
abbrev s_qa : Stmt := inClass (top 16) 5
abbrev s_qv : Stmt := inClass (top 16) 6
abbrev s_fe : Stmt := inClass (top 16) 7
abbrev s_ta : Stmt := inClass (top 16) 8
abbrev s_tv : Stmt := inClass (top 16) 9
abbrev s_up : Stmt := inClass (top 16) 10
abbrev s_th : Stmt := top 17
abbrev s_bm : Stmt := top 18
abbrev s_bc : Stmt := top 19
abbrev s_pt : Stmt := top 20
abbrev s_nm : Stmt := top 21
abbrev s_go : Stmt := top 22
abbrev s_ro : Stmt := top 23
abbrev s_bo : Stmt := top 24
abbrev s_li : Stmt := inClass (top 25) 0
abbrev s_lb : Stmt := inClass (top 25) 1
abbrev s_lr : Stmt := inClass (top 25) 2
abbrev s_ls : Stmt := inClass (top 25) 3
abbrev s_re : Stmt := top 26
abbrev s_an : Stmt := top 27
/-- a method of the class at C; a def of the text -/
structure Md (K : PySem.W.Frag) (C : Addr) (x qual : Str) (st : Stmt) (ps : List Str) (f : Addr) (fd : FuncData) : Prop where
  fn : Fun K x qual st f fd
  bd : Binds K fd ps []
  mt : Meth K C x f
structure Fd (K : PySem.W.Frag) (mg : Str → Option Value) (x : Str) (st : Stmt) (ps : List Str) (f : Addr) (fd : FuncData) : Prop where
  fn : Fun K x x st f fd
  bd : Binds K fd ps []
  mg : mg x = some (.ref f)
structure Ad where
  cS : Addr
  cP : Addr
  cL : Addr
  f_si : Addr
  f_so : Addr
  f_pi : Addr
  f_tw : Addr
  f_lp : Addr
  f_ab : Addr
  f_vb : Addr
  f_qa : Addr
  f_qv : Addr
  f_fe : Addr
  f_ta : Addr
  f_tv : Addr
  f_up : Addr
  f_th : Addr
  f_bm : Addr
  f_bc : Addr
  f_pt : Addr
  f_nm : Addr
  f_go : Addr
  f_ro : Addr
  f_bo : Addr
  f_li : Addr
  f_lb : Addr
  f_lr : Addr
  f_ls : Addr
  f_re : Addr
  f_an : Addr
  d_si : FuncData
  d_so : FuncData
  d_pi : FuncData
  d_tw : FuncData
  d_lp : FuncData
  d_ab : FuncData
  d_vb : FuncData
  d_qa : FuncData
  d_qv : FuncData
  d_fe : FuncData
  d_ta : FuncData
  d_tv : FuncData
  d_up : FuncData
  d_th : FuncData
  d_bm : FuncData
  d_bc : FuncData
  d_pt : FuncData
  d_nm : FuncData
  d_go : FuncData
  d_ro : FuncData
  d_bo : FuncData
  d_li : FuncData
  d_lb : FuncData
  d_lr : FuncData
  d_ls : FuncData
  d_re : FuncData
  d_an : FuncData
structure Tx (K : PySem.W.Frag) (mg : Str → Option Value) (A : Ad) : Prop where
  S : Cls K A.cS
  P : Cls K A.cP
  L : Cls K A.cL
  nS_way : NoAttr K A.cS "way"
  nS_low : NoAttr K A.cS "low"
  nS_high : NoAttr K A.cS "high"
  nS_delay : NoAttr K A.cS "delay"
  nS_atr : NoAttr K A.cS "atrium"
  nS_ven : NoAttr K A.cS "ventricle"
  nS_aft : NoAttr K A.cS "after_odd"
  nP_s : NoAttr K A.cP "settings"
  nP_v : NoAttr K A.cP "ventricle_ago"
  nP_a : NoAttr K A.cP "atrium_ago"
  nP_wg : NoAttr K A.cP "waiting"
  nP_wd : NoAttr K A.cP "waited"
  nP_since : NoAttr K A.cP "atrium_since"
  nP_odd : NoAttr K A.cP "odd"
  nL : NoAttr K A.cL "pacemaker"
  kS : Mk K A.cS A.f_si
  kP : Mk K A.cP A.f_pi
  kL : Mk K A.cL A.f_li
  gS : mg "Settings" = some (.ref A.cS)
  gP : mg "Pacemaker" = some (.ref A.cP)
  gL : mg "Line" = some (.ref A.cL)
  c_BEGIN : Gi mg "BEGIN" 0
  c_RUN : Gi mg "RUN" 1
  c_VENTRICLE_ALONE : Gi mg "VENTRICLE_ALONE" 0
  c_ATRIUM_ALONE : Gi mg "ATRIUM_ALONE" 1
  c_BOTH : Gi mg "BOTH" 2
  c_ATRIUM : Gi mg "ATRIUM" 0
  c_VENTRICLE : Gi mg "VENTRICLE" 1
  c_PACED : Gi mg "PACED" 0
  c_TAKEN : Gi mg "TAKEN" 2
  c_PASSED_OVER : Gi mg "PASSED_OVER" 4
  c_LONGEST_AGO : Gi mg "LONGEST_AGO" 1000000
  c_MOST_BEATS : Gi mg "MOST_BEATS" 4096
  c_MOST_MILLISECONDS : Gi mg "MOST_MILLISECONDS" 1000000
  c_MOST_THINGS : Gi mg "MOST_THINGS" 65536
  len : mg "len" = none
  min : mg "min" = none
  max : mg "max" = none
  si : Fun K "__init__" "Settings.__init__" s_si A.f_si A.d_si ∧ Binds K A.d_si ["self", "numbers"] []
  so : Md K A.cS "are_as_told" "Settings.are_as_told" s_so ["self"] A.f_so A.d_so
  pi : Fun K "__init__" "Pacemaker.__init__" s_pi A.f_pi A.d_pi ∧ Binds K A.d_pi ["self", "settings"] []
  tw : Md K A.cP "twin" "Pacemaker.twin" s_tw ["self"] A.f_tw A.d_tw
  lp : Md K A.cP "let_pass" "Pacemaker.let_pass" s_lp ["self", "milliseconds"] A.f_lp A.d_lp
  ab : Md K A.cP "atrium_beats" "Pacemaker.atrium_beats" s_ab ["self"] A.f_ab A.d_ab
  vb : Md K A.cP "ventricle_beats" "Pacemaker.ventricle_beats" s_vb ["self", "odd"] A.f_vb A.d_vb
  qa : Md K A.cP "passes_over_atrium" "Pacemaker.passes_over_atrium" s_qa ["self"] A.f_qa A.d_qa
  qv : Md K A.cP "passes_over_ventricle" "Pacemaker.passes_over_ventricle" s_qv ["self"] A.f_qv A.d_qv
  fe : Md K A.cP "feel" "Pacemaker.feel" s_fe ["self", "chamber"] A.f_fe A.d_fe
  ta : Md K A.cP "time_for_atrium" "Pacemaker.time_for_atrium" s_ta ["self"] A.f_ta A.d_ta
  tv : Md K A.cP "time_for_ventricle" "Pacemaker.time_for_ventricle" s_tv ["self"] A.f_tv A.d_tv
  up : Md K A.cP "until_pace" "Pacemaker.until_pace" s_up ["self"] A.f_up A.d_up
  th : Fd K mg "thing" s_th ["millisecond", "what", "chamber"] A.f_th A.d_th
  bm : Fd K mg "beat_millisecond" s_bm ["beat"] A.f_bm A.d_bm
  bc : Fd K mg "beat_chamber" s_bc ["beat"] A.f_bc A.d_bc
  pt : Fd K mg "pace_if_time" s_pt ["pacemaker", "now", "things"] A.f_pt A.d_pt
  nm : Fd K mg "next_millisecond" s_nm ["pacemaker", "now", "n", "beats", "felt"] A.f_nm A.d_nm
  go : Fd K mg "go_on" s_go ["pacemaker", "n", "most", "beats"] A.f_go A.d_go
  ro : Fd K mg "run_is_as_told" s_ro ["m", "n", "most"] A.f_ro A.d_ro
  bo : Fd K mg "beats_are_as_told" s_bo ["beats", "n"] A.f_bo A.d_bo
  li : Fun K "__init__" "Line.__init__" s_li A.f_li A.d_li ∧ Binds K A.d_li ["self"] []
  lb : Md K A.cL "begin" "Line.begin" s_lb ["self", "numbers"] A.f_lb A.d_lb
  lr : Md K A.cL "run" "Line.run" s_lr ["self", "m", "n", "most", "beats"] A.f_lr A.d_lr
  ls : Md K A.cL "state" "Line.state" s_ls ["self"] A.f_ls A.d_ls
  re : Fd K mg "row_end" s_re ["calls", "at"] A.f_re A.d_re
  an : Fd K mg "answers" s_an ["calls"] A.f_an A.d_an
section
variable {K : PySem.W.Frag} {mg : Str → Option Value} {A : Ad} {H : Hp} {p dx s : Addr} {q : PM} {c : Cfg}
theorem Tx.rS_way (T : Tx K mg A) (hp : H p = some (.ins A.cS dx (setF c))) {Q : V → Prop} (h : Q (.int c.way)) : ∃ a C dx fs v, V.ref p = .ref a ∧ H a = some (.ins C dx fs) ∧ Cls K C ∧ NoAttr K C "way" ∧ fs.lookup ("way" : Str) = some v ∧ Q v := ⟨p, A.cS, dx, _, _, rfl, hp, T.S, T.nS_way, lS_way c, h⟩
theorem Tx.rS_low (T : Tx K mg A) (hp : H p = some (.ins A.cS dx (setF c))) {Q : V → Prop} (h : Q (.int c.low)) : ∃ a C dx fs v, V.ref p = .ref a ∧ H a = some (.ins C dx fs) ∧ Cls K C ∧ NoAttr K C "low" ∧ fs.lookup ("low" : Str) = some v ∧ Q v := ⟨p, A.cS, dx, _, _, rfl, hp, T.S, T.nS_low, lS_low c, h⟩
theorem Tx.rS_high (T : Tx K mg A) (hp : H p = some (.ins A.cS dx (setF c))) {Q : V → Prop} (h : Q (.int c.high)) : ∃ a C dx fs v, V.ref p = .ref a ∧ H a = some (.ins C dx fs) ∧ Cls K C ∧ NoAttr K C "high" ∧ fs.lookup ("high" : Str) = some v ∧ Q v := ⟨p, A.cS, dx, _, _, rfl, hp, T.S, T.nS_high, lS_high c, h⟩
theorem Tx.rS_delay (T : Tx K mg A) (hp : H p = some (.ins A.cS dx (setF c))) {Q : V → Prop} (h : Q (.int c.delay)) : ∃ a C dx fs v, V.ref p = .ref a ∧ H a = some (.ins C dx fs) ∧ Cls K C ∧ NoAttr K C "delay" ∧ fs.lookup ("delay" : Str) = some v ∧ Q v := ⟨p, A.cS, dx, _, _, rfl, hp, T.S, T.nS_delay, lS_delay c, h⟩
theorem Tx.rS_atr (T : Tx K mg A) (hp : H p = some (.ins A.cS dx (setF c))) {Q : V → Prop} (h : Q (.int c.atr)) : ∃ a C dx fs v, V.ref p = .ref a ∧ H a = some (.ins C dx fs) ∧ Cls K C ∧ NoAttr K C "atrium" ∧ fs.lookup ("atrium" : Str) = some v ∧ Q v := ⟨p, A.cS, dx, _, _, rfl, hp, T.S, T.nS_atr, lS_atr c, h⟩
theorem Tx.rS_ven (T : Tx K mg A) (hp : H p = some (.ins A.cS dx (setF c))) {Q : V → Prop} (h : Q (.int c.ven)) : ∃ a C dx fs v, V.ref p = .ref a ∧ H a = some (.ins C dx fs) ∧ Cls K C ∧ NoAttr K C "ventricle" ∧ fs.lookup ("ventricle" : Str) = some v ∧ Q v := ⟨p, A.cS, dx, _, _, rfl, hp, T.S, T.nS_ven, lS_ven c, h⟩
theorem Tx.rS_aft (T : Tx K mg A) (hp : H p = some (.ins A.cS dx (setF c))) {Q : V → Prop} (h : Q (.int c.aft)) : ∃ a C dx fs v, V.ref p = .ref a ∧ H a = some (.ins C dx fs) ∧ Cls K C ∧ NoAttr K C "after_odd" ∧ fs.lookup ("after_odd" : Str) = some v ∧ Q v := ⟨p, A.cS, dx, _, _, rfl, hp, T.S, T.nS_aft, lS_aft c, h⟩
theorem Tx.rP_s (T : Tx K mg A) (hp : H p = some (.ins A.cP dx (pmF s q))) {Q : V → Prop} (h : Q (.ref s)) : ∃ a C dx fs v, V.ref p = .ref a ∧ H a = some (.ins C dx fs) ∧ Cls K C ∧ NoAttr K C "settings" ∧ fs.lookup ("settings" : Str) = some v ∧ Q v := ⟨p, A.cP, dx, _, _, rfl, hp, T.P, T.nP_s, lP_s s q, h⟩
theorem Tx.rP_v (T : Tx K mg A) (hp : H p = some (.ins A.cP dx (pmF s q))) {Q : V → Prop} (h : Q (.int q.v)) : ∃ a C dx fs v, V.ref p = .ref a ∧ H a = some (.ins C dx fs) ∧ Cls K C ∧ NoAttr K C "ventricle_ago" ∧ fs.lookup ("ventricle_ago" : Str) = some v ∧ Q v := ⟨p, A.cP, dx, _, _, rfl, hp, T.P, T.nP_v, lP_v s q, h⟩
theorem Tx.rP_a (T : Tx K mg A) (hp : H p = some (.ins A.cP dx (pmF s q))) {Q : V → Prop} (h : Q (.int q.a)) : ∃ a C dx fs v, V.ref p = .ref a ∧ H a = some (.ins C dx fs) ∧ Cls K C ∧ NoAttr K C "atrium_ago" ∧ fs.lookup ("atrium_ago" : Str) = some v ∧ Q v := ⟨p, A.cP, dx, _, _, rfl, hp, T.P, T.nP_a, lP_a s q, h⟩
theorem Tx.rP_wg (T : Tx K mg A) (hp : H p = some (.ins A.cP dx (pmF s q))) {Q : V → Prop} (h : Q (.bl q.wg)) : ∃ a C dx fs v, V.ref p = .ref a ∧ H a = some (.ins C dx fs) ∧ Cls K C ∧ NoAttr K C "waiting" ∧ fs.lookup ("waiting" : Str) = some v ∧ Q v := ⟨p, A.cP, dx, _, _, rfl, hp, T.P, T.nP_wg, lP_wg s q, h⟩
theorem Tx.rP_wd (T : Tx K mg A) (hp : H p = some (.ins A.cP dx (pmF s q))) {Q : V → Prop} (h : Q (.int q.wd)) : ∃ a C dx fs v, V.ref p = .ref a ∧ H a = some (.ins C dx fs) ∧ Cls K C ∧ NoAttr K C "waited" ∧ fs.lookup ("waited" : Str) = some v ∧ Q v := ⟨p, A.cP, dx, _, _, rfl, hp, T.P, T.nP_wd, lP_wd s q, h⟩
theorem Tx.rP_since (T : Tx K mg A) (hp : H p = some (.ins A.cP dx (pmF s q))) {Q : V → Prop} (h : Q (.bl q.since)) : ∃ a C dx fs v, V.ref p = .ref a ∧ H a = some (.ins C dx fs) ∧ Cls K C ∧ NoAttr K C "atrium_since" ∧ fs.lookup ("atrium_since" : Str) = some v ∧ Q v := ⟨p, A.cP, dx, _, _, rfl, hp, T.P, T.nP_since, lP_since s q, h⟩
theorem Tx.rP_odd (T : Tx K mg A) (hp : H p = some (.ins A.cP dx (pmF s q))) {Q : V → Prop} (h : Q (.bl q.odd)) : ∃ a C dx fs v, V.ref p = .ref a ∧ H a = some (.ins C dx fs) ∧ Cls K C ∧ NoAttr K C "odd" ∧ fs.lookup ("odd" : Str) = some v ∧ Q v := ⟨p, A.cP, dx, _, _, rfl, hp, T.P, T.nP_odd, lP_odd s q, h⟩
theorem Tx.rL (T : Tx K mg A) {v : V} (hp : H p = some (.ins A.cL dx (lineF v))) {Q : V → Prop} (h : Q v) : ∃ a C dx fs v, V.ref p = .ref a ∧ H a = some (.ins C dx fs) ∧ Cls K C ∧ NoAttr K C "pacemaker" ∧ fs.lookup ("pacemaker" : Str) = some v ∧ Q v := ⟨p, A.cL, dx, _, _, rfl, hp, T.L, T.nL, lL v, h⟩
theorem Tx.wP_v (T : Tx K mg A) (hp : H p = some (.ins A.cP dx (pmF s q))) {z : Int} {N : Hp → Prop} (h : N (upd H p (.ins A.cP dx (pmF s { q with v := z })))) : ∃ a C dx fs, V.ref p = .ref a ∧ H a = some (.ins C dx fs) ∧ Cls K C ∧ NoAttr K C "ventricle_ago" ∧ fs.length < 1000 ∧ N (upd H a (.ins C dx (putF "ventricle_ago" (.int z) fs))) := ⟨p, A.cP, dx, _, rfl, hp, T.P, T.nP_v, (by show 7 < 1000; decide), by rw [uP_v]; exact h⟩
theorem Tx.wP_a (T : Tx K mg A) (hp : H p = some (.ins A.cP dx (pmF s q))) {z : Int} {N : Hp → Prop} (h : N (upd H p (.ins A.cP dx (pmF s { q with a := z })))) : ∃ a C dx fs, V.ref p = .ref a ∧ H a = some (.ins C dx fs) ∧ Cls K C ∧ NoAttr K C "atrium_ago" ∧ fs.length < 1000 ∧ N (upd H a (.ins C dx (putF "atrium_ago" (.int z) fs))) := ⟨p, A.cP, dx, _, rfl, hp, T.P, T.nP_a, (by show 7 < 1000; decide), by rw [uP_a]; exact h⟩
theorem Tx.wP_wg (T : Tx K mg A) (hp : H p = some (.ins A.cP dx (pmF s q))) {z : Bool} {N : Hp → Prop} (h : N (upd H p (.ins A.cP dx (pmF s { q with wg := z })))) : ∃ a C dx fs, V.ref p = .ref a ∧ H a = some (.ins C dx fs) ∧ Cls K C ∧ NoAttr K C "waiting" ∧ fs.length < 1000 ∧ N (upd H a (.ins C dx (putF "waiting" (.bl z) fs))) := ⟨p, A.cP, dx, _, rfl, hp, T.P, T.nP_wg, (by show 7 < 1000; decide), by rw [uP_wg]; exact h⟩
theorem Tx.wP_wd (T : Tx K mg A) (hp : H p = some (.ins A.cP dx (pmF s q))) {z : Int} {N : Hp → Prop} (h : N (upd H p (.ins A.cP dx (pmF s { q with wd := z })))) : ∃ a C dx fs, V.ref p = .ref a ∧ H a = some (.ins C dx fs) ∧ Cls K C ∧ NoAttr K C "waited" ∧ fs.length < 1000 ∧ N (upd H a (.ins C dx (putF "waited" (.int z) fs))) := ⟨p, A.cP, dx, _, rfl, hp, T.P, T.nP_wd, (by show 7 < 1000; decide), by rw [uP_wd]; exact h⟩
theorem Tx.wP_since (T : Tx K mg A) (hp : H p = some (.ins A.cP dx (pmF s q))) {z : Bool} {N : Hp → Prop} (h : N (upd H p (.ins A.cP dx (pmF s { q with since := z })))) : ∃ a C dx fs, V.ref p = .ref a ∧ H a = some (.ins C dx fs) ∧ Cls K C ∧ NoAttr K C "atrium_since" ∧ fs.length < 1000 ∧ N (upd H a (.ins C dx (putF "atrium_since" (.bl z) fs))) := ⟨p, A.cP, dx, _, rfl, hp, T.P, T.nP_since, (by show 7 < 1000; decide), by rw [uP_since]; exact h⟩
theorem Tx.wP_odd (T : Tx K mg A) (hp : H p = some (.ins A.cP dx (pmF s q))) {z : Bool} {N : Hp → Prop} (h : N (upd H p (.ins A.cP dx (pmF s { q with odd := z })))) : ∃ a C dx fs, V.ref p = .ref a ∧ H a = some (.ins C dx fs) ∧ Cls K C ∧ NoAttr K C "odd" ∧ fs.length < 1000 ∧ N (upd H a (.ins C dx (putF "odd" (.bl z) fs))) := ⟨p, A.cP, dx, _, rfl, hp, T.P, T.nP_odd, (by show 7 < 1000; decide), by rw [uP_odd]; exact h⟩
theorem Tx.wL (T : Tx K mg A) {v : V} (hp : H p = some (.ins A.cL dx (lineF v))) {z : V} {N : Hp → Prop} (h : N (upd H p (.ins A.cL dx (lineF z)))) : ∃ a C dx fs, V.ref p = .ref a ∧ H a = some (.ins C dx fs) ∧ Cls K C ∧ NoAttr K C "pacemaker" ∧ fs.length < 1000 ∧ N (upd H a (.ins C dx (putF "pacemaker" z fs))) := ⟨p, A.cL, dx, _, rfl, hp, T.L, T.nL, (by show 1 < 1000; decide), by rw [uL]; exact h⟩
end
end HP
end
section
set_option Elab.async false
set_option linter.all false
set_option maxRecDepth 100000
set_option maxHeartbeats 4000000
namespace HP
open PySem PySem.Spec PyProof.Rows L2
theorem ne_SP {C1 d1 C2 d2 s : Addr} {c : Cfg} {q : PM} : (HO.ins C1 d1 (setF c)) ≠ .ins C2 d2 (pmF s q) := by
  intro z
  injection z with _ _ z
  have e := congrArg (fun l : List (Str × V) => l.lookup ("way" : Str)) z
  have e1 : some (V.int c.way) = (pmF s q).lookup ("way" : Str) := (lS_way c).symm.trans e
  rw [noP s q (by decide +kernel)] at e1
  cases e1
theorem ne_LP {C1 d1 C2 d2 s : Addr} {v : V} {q : PM} : (HO.ins C1 d1 (lineF v)) ≠ .ins C2 d2 (pmF s q) := by
  intro z
  injection z with _ _ z
  have e := congrArg (fun l : List (Str × V) => l.lookup ("pacemaker" : Str)) z
  have e1 : some v = (pmF s q).lookup ("pacemaker" : Str) := (lL v).symm.trans e
  rw [noP s q (by decide +kernel)] at e1
  cases e1
theorem ne_LS {C1 d1 C2 d2 : Addr} {v : V} {c : Cfg} : (HO.ins C1 d1 (lineF v)) ≠ .ins C2 d2 (setF c) := by
  intro z
  injection z with _ _ z
  have e := congrArg (fun l : List (Str × V) => l.lookup ("pacemaker" : Str)) z
  have e1 : some v = (setF c).lookup ("pacemaker" : Str) := (lL v).symm.trans e
  rw [noS c (by decide +kernel)] at e1
  cases e1
section
variable {P : Program} {w : World} {K : PySem.W.Frag} {mg : Str → Option Value} {base : Heap} {A : Ad}
/-! ### Settings -/
def spSi (A : Ad) : Sp := fun vs H Q _ => ∃ (p dx l : Addr) (x : List Int), vs = [.ref p, .ref l] ∧ H p = some (.ins A.cS dx []) ∧ H l = some (.lst (x.map V.int)) ∧ x.length = 7 ∧ Q .non (upd H p (.ins A.cS dx (setF (cfgL x))))
theorem sc_si : FnScope ["self", "numbers"] ["self", "numbers"] (defScope s_si) := ⟨rfl, rfl, rfl, by decide +kernel, rfl, by decide +kernel, by decide +kernel⟩
theorem ok_si (T : Tx K mg A) : FnOk P w K mg base CX0 1 A.f_si A.d_si ["self", "numbers"] (spSi A) := by
  refine T.si.1.ok sc_si (fun vs H Q E h => ?_) (fun cdv A' outer s H vs Q E hr h => ?_)
  · obtain ⟨p, dx, l, x, rfl, _⟩ := h
    rfl
  · obtain ⟨p, dx, l, x, rfl, hp, hl, hx, k⟩ := h
    obtain ⟨x0, x1, x2, x3, x4, x5, x6, rfl⟩ := seven hx
    refine ⟨_, pss_cons (ps_fld (pv 0) (pe_ix ix_list (pv 1) pe_int (fun _ _ => rfl)) rfl) (pss_cons (ps_fld (pv 0) (pe_ix ix_list (pv 1) pe_int (fun _ _ => rfl)) rfl)
      (pss_cons (ps_fld (pv 0) (pe_ix ix_list (pv 1) pe_int (fun _ _ => rfl)) rfl) (pss_cons (ps_fld (pv 0) (pe_ix ix_list (pv 1) pe_int (fun _ _ => rfl)) rfl)
      (pss_cons (ps_fld (pv 0) (pe_ix ix_list (pv 1) pe_int (fun _ _ => rfl)) rfl) (pss_cons (ps_fld (pv 0) (pe_ix ix_list (pv 1) pe_int (fun _ _ => rfl)) rfl)
      (pss_one (ps_fld (pv 0) (pe_ix ix_list (pv 1) pe_int (fun _ _ => rfl)) rfl))))))), ?_⟩
    have hlp : l ≠ p := ne_of hl hp (by intro z; cases z)
    have hl' : ∀ o, (upd H p o) l = some (.lst ([x0, x1, x2, x3, x4, x5, x6].map V.int)) := fun o => by rw [upd_ne hlp]; exact hl
    refine ⟨_, rfl, l, _, _, _, rfl, rfl, SqL.of hl, at_of (j := 0) rfl rfl, _, rfl, p, A.cS, dx, _, rfl, hp, T.S, T.nS_way, lpd (Nat.le_refl 0) (by decide), ?_⟩
    refine ⟨_, rfl, l, _, _, _, rfl, rfl, SqL.of (hl' _), at_of (j := 1) rfl rfl, _, rfl, p, A.cS, dx, _, rfl, upd_same, T.S, T.nS_low, lpd (lp1 (Nat.le_refl 0)) (by decide), ?_⟩
    rw [upd_upd]
    refine ⟨_, rfl, l, _, _, _, rfl, rfl, SqL.of (hl' _), at_of (j := 2) rfl rfl, _, rfl, p, A.cS, dx, _, rfl, upd_same, T.S, T.nS_high, lpd (lp1 (lp1 (Nat.le_refl 0))) (by decide), ?_⟩
    rw [upd_upd]
    refine ⟨_, rfl, l, _, _, _, rfl, rfl, SqL.of (hl' _), at_of (j := 3) rfl rfl, _, rfl, p, A.cS, dx, _, rfl, upd_same, T.S, T.nS_delay, lpd (lp1 (lp1 (lp1 (Nat.le_refl 0)))) (by decide), ?_⟩
    rw [upd_upd]
    refine ⟨_, rfl, l, _, _, _, rfl, rfl, SqL.of (hl' _), at_of (j := 4) rfl rfl, _, rfl, p, A.cS, dx, _, rfl, upd_same, T.S, T.nS_atr, lpd (lp1 (lp1 (lp1 (lp1 (Nat.le_refl 0))))) (by decide), ?_⟩
    rw [upd_upd]
    refine ⟨_, rfl, l, _, _, _, rfl, rfl, SqL.of (hl' _), at_of (j := 5) rfl rfl, _, rfl, p, A.cS, dx, _, rfl, upd_same, T.S, T.nS_ven, lpd (lp1 (lp1 (lp1 (lp1 (lp1 (Nat.le_refl 0)))))) (by decide), ?_⟩
    rw [upd_upd]
    refine ⟨_, rfl, l, _, _, _, rfl, rfl, SqL.of (hl' _), at_of (j := 6) rfl rfl, _, rfl, p, A.cS, dx, _, rfl, upd_same, T.S, T.nS_aft, lpd (lp1 (lp1 (lp1 (lp1 (lp1 (lp1 (Nat.le_refl 0))))))) (by decide), ?_⟩
    rw [upd_upd]
    exact (congrArg (fun z => Q V.non (upd H p (HO.ins A.cS dx z))) (mk_set x0 x1 x2 x3 x4 x5 x6)).mpr k
def spSo (A : Ad) : Sp := fun vs H Q _ => ∃ (p dx : Addr) (c : Cfg), vs = [.ref p] ∧ H p = some (.ins A.cS dx (setF c)) ∧ Q (.bl (okC c)) H
theorem sc_so : FnScope ["self"] ["self"] (defScope s_so) := ⟨rfl, rfl, rfl, by decide +kernel, rfl, by decide +kernel, by decide +kernel⟩
theorem ok_so (T : Tx K mg A) : FnOk P w K mg base CX0 1 A.f_so A.d_so ["self"] (spSo A) := by
  refine T.so.fn.ok sc_so (fun vs H Q E h => ?_) (fun cdv A' outer s H vs Q E hr h => ?_)
  · obtain ⟨p, dx, c, rfl, _⟩ := h
    rfl
  · obtain ⟨p, dx, c, rfl, hp, k⟩ := h
    have no : ¬ (0 ≤ c.way ∧ c.way ≤ 2 ∧ 300 ≤ c.low ∧ c.low ≤ 2000 ∧ 200 ≤ c.high ∧ c.high ≤ c.low ∧ 30 ≤ c.delay ∧ c.delay ≤ 300 ∧ c.delay < c.low ∧ 100 ≤ c.atr ∧ c.atr ≤ c.aft ∧ c.aft ≤ 600 ∧ 100 ≤ c.ven ∧ c.ven ≤ c.high) → Q (.bl false) H := fun z => by
      have e : okC c = false := decide_eq_false z
      rw [e] at k
      exact k
    refine ⟨_, pss_one (ps_ret (pe_and (pe_chain op_le op_le (pe_gi rfl T.c_VENTRICLE_ALONE) (pe_fld (pv 0) rfl) (pe_gi rfl T.c_BOTH))
      (pe_and (pe_chain op_le op_le pe_int (pe_fld (pv 0) rfl) pe_int)
      (pe_and (pe_chain op_le op_le pe_int (pe_fld (pv 0) rfl) (pe_fld (pv 0) rfl))
      (pe_and (pe_chain op_le op_le pe_int (pe_fld (pv 0) rfl) pe_int)
      (pe_and (pe_cmp (pc_lt (pe_fld (pv 0) rfl) (pe_fld (pv 0) rfl)))
      (pe_and (pe_chain3 op_le op_le op_le pe_int (pe_fld (pv 0) rfl) (pe_fld (pv 0) rfl) pe_int)
      (pe_one (pe_chain op_le op_le pe_int (pe_fld (pv 0) rfl) (pe_fld (pv 0) rfl)))))))))), ?_⟩
    refine ⟨_, rfl, T.rS_way hp ⟨_, _, rfl, rfl, _, rfl, ite2 (fun h1 => ⟨_, _, rfl, rfl, _, rfl, ite2 (fun h2 => ?_) (fun h2 => no fun z => h2 (decide_eq_true z.2.1))⟩) (fun h1 => ⟨_, rfl, iteF (no fun z => h1 (decide_eq_true z.1))⟩)⟩⟩
    refine ⟨_, rfl, T.rS_low hp ⟨_, _, rfl, rfl, _, rfl, ite2 (fun h3 => ⟨_, _, rfl, rfl, _, rfl, ite2 (fun h4 => ?_) (fun h4 => no fun z => h4 (decide_eq_true z.2.2.2.1))⟩) (fun h3 => ⟨_, rfl, iteF (no fun z => h3 (decide_eq_true z.2.2.1))⟩)⟩⟩
    refine ⟨_, rfl, T.rS_high hp ⟨_, _, rfl, rfl, _, rfl, ite2 (fun h5 => ⟨_, rfl, T.rS_low hp ⟨_, _, rfl, rfl, _, rfl, ite2 (fun h6 => ?_) (fun h6 => no fun z => h6 (decide_eq_true z.2.2.2.2.2.1))⟩⟩) (fun h5 => ⟨_, rfl, iteF (no fun z => h5 (decide_eq_true z.2.2.2.2.1))⟩)⟩⟩
    refine ⟨_, rfl, T.rS_delay hp ⟨_, _, rfl, rfl, _, rfl, ite2 (fun h7 => ⟨_, _, rfl, rfl, _, rfl, ite2 (fun h8 => ?_) (fun h8 => no fun z => h8 (decide_eq_true z.2.2.2.2.2.2.2.1))⟩) (fun h7 => ⟨_, rfl, iteF (no fun z => h7 (decide_eq_true z.2.2.2.2.2.2.1))⟩)⟩⟩
    refine ⟨_, rfl, T.rS_delay hp ⟨_, rfl, T.rS_low hp ⟨_, _, rfl, rfl, _, rfl, ite2 (fun h9 => ?_) (fun h9 => no fun z => h9 (decide_eq_true z.2.2.2.2.2.2.2.2.1))⟩⟩⟩
    refine ⟨_, rfl, T.rS_atr hp ⟨_, _, rfl, rfl, _, rfl, ite2 (fun h10 => ⟨_, rfl, T.rS_aft hp ⟨_, _, rfl, rfl, _, rfl, ite2 (fun h11 => ⟨_, _, rfl, rfl, _, rfl, ite2 (fun h12 => ?_) (fun h12 => no fun z => h12 (decide_eq_true z.2.2.2.2.2.2.2.2.2.2.2.1))⟩) (fun h11 => ⟨_, rfl, iteF (no fun z => h11 (decide_eq_true z.2.2.2.2.2.2.2.2.2.2.1))⟩)⟩⟩) (fun h10 => ⟨_, rfl, iteF (no fun z => h10 (decide_eq_true z.2.2.2.2.2.2.2.2.2.1))⟩)⟩⟩
    refine ⟨_, rfl, T.rS_ven hp ⟨_, _, rfl, rfl, _, rfl, ite2 (fun h13 => ⟨_, rfl, T.rS_high hp ⟨_, _, rfl, rfl, ?_⟩⟩) (fun h13 => no fun z => h13 (decide_eq_true z.2.2.2.2.2.2.2.2.2.2.2.2.1))⟩⟩
    show Q (V.bl (decide (c.ven ≤ c.high))) H
    by_cases h14 : c.ven ≤ c.high
    · rw [decide_eq_true h14]
      have e : okC c = true := decide_eq_true ⟨of_decide_eq_true h1, of_decide_eq_true h2, of_decide_eq_true h3, of_decide_eq_true h4, of_decide_eq_true h5, of_decide_eq_true h6, of_decide_eq_true h7, of_decide_eq_true h8, of_decide_eq_true h9, of_decide_eq_true h10, of_decide_eq_true h11, of_decide_eq_true h12, of_decide_eq_true h13, h14⟩
      rw [e] at k
      exact k
    · rw [decide_eq_false h14]
      exact no fun z => h14 z.2.2.2.2.2.2.2.2.2.2.2.2.2
/-! ### Pacemaker: made -/
def spPi (A : Ad) : Sp := fun vs H Q _ => ∃ (p dx s : Addr), vs = [.ref p, .ref s] ∧ H p = some (.ins A.cP dx []) ∧ Q .non (upd H p (.ins A.cP dx (pmF s ⟨0, 0, false, 0, false, false⟩)))
theorem sc_pi : FnScope ["self", "settings"] ["self", "settings"] (defScope s_pi) := ⟨rfl, rfl, rfl, by decide +kernel, rfl, by decide +kernel, by decide +kernel⟩
theorem ok_pi (T : Tx K mg A) : FnOk P w K mg base CX0 1 A.f_pi A.d_pi ["self", "settings"] (spPi A) := by
  refine T.pi.1.ok sc_pi (fun vs H Q E h => ?_) (fun cdv A' outer s H vs Q E hr h => ?_)
  · obtain ⟨p, dx, s, rfl, _⟩ := h
    rfl
  · obtain ⟨p, dx, s, rfl, hp, k⟩ := h
    refine ⟨_, pss_cons (ps_fld (pv 0) (pv 1) rfl) (pss_cons (ps_fld (pv 0) pe_int rfl) (pss_cons (ps_fld (pv 0) pe_int rfl) (pss_cons (ps_fld (pv 0) pe_bl rfl) (pss_cons (ps_fld (pv 0) pe_int rfl)
      (pss_cons (ps_fld (pv 0) pe_bl rfl) (pss_one (ps_fld (pv 0) pe_bl rfl))))))), ?_⟩
    refine ⟨_, rfl, _, rfl, p, A.cP, dx, _, rfl, hp, T.P, T.nP_s, lpd (Nat.le_refl 0) (by decide), ?_⟩
    refine ⟨_, rfl, p, A.cP, dx, _, rfl, upd_same, T.P, T.nP_v, lpd (lp1 (Nat.le_refl 0)) (by decide), ?_⟩
    rw [upd_upd]
    refine ⟨_, rfl, p, A.cP, dx, _, rfl, upd_same, T.P, T.nP_a, lpd (lp1 (lp1 (Nat.le_refl 0))) (by decide), ?_⟩
    rw [upd_upd]
    refine ⟨_, rfl, p, A.cP, dx, _, rfl, upd_same, T.P, T.nP_wg, lpd (lp1 (lp1 (lp1 (Nat.le_refl 0)))) (by decide), ?_⟩
    rw [upd_upd]
    refine ⟨_, rfl, p, A.cP, dx, _, rfl, upd_same, T.P, T.nP_wd, lpd (lp1 (lp1 (lp1 (lp1 (Nat.le_refl 0))))) (by decide), ?_⟩
    rw [upd_upd]
    refine ⟨_, rfl, p, A.cP, dx, _, rfl, upd_same, T.P, T.nP_since, lpd (lp1 (lp1 (lp1 (lp1 (lp1 (Nat.le_refl 0)))))) (by decide), ?_⟩
    rw [upd_upd]
    refine ⟨_, rfl, p, A.cP, dx, _, rfl, upd_same, T.P, T.nP_odd, lpd (lp1 (lp1 (lp1 (lp1 (lp1 (lp1 (Nat.le_refl 0))))))) (by decide), ?_⟩
    rw [upd_upd]
    exact (congrArg (fun z => Q V.non (upd H p (HO.ins A.cP dx z))) (mk_pm s 0 0 false 0 false false)).mpr k
def spTw (A : Ad) : Sp := fun vs H Q _ => ∃ (p dx s : Addr) (q : PM), vs = [.ref p] ∧ H p = some (.ins A.cP dx (pmF s q)) ∧ ∀ x dy, H x = none → H dy = none → dy ≠ x → Q (.ref x) (upd (upd H dy (.own x)) x (.ins A.cP dy (pmF s q)))
theorem sc_tw : FnScope ["self", "other"] ["self"] (defScope s_tw) := ⟨rfl, rfl, rfl, by decide +kernel, rfl, by decide +kernel, by decide +kernel⟩
theorem ok_tw (T : Tx K mg A) : FnOk P w K mg base CX0 3 A.f_tw A.d_tw ["self"] (spTw A) := by
  have G : FnOk P w K mg base CX0 1 A.f_pi A.d_pi ["self", "settings"] (spPi A) := ok_pi T
  refine T.tw.fn.ok sc_tw (fun vs H Q E h => ?_) (fun cdv A' outer s H vs Q E hr h => ?_)
  · obtain ⟨p, dx, s, q, rfl, _⟩ := h
    rfl
  · obtain ⟨p, dx, s, q, rfl, hp, k⟩ := h
    refine ⟨_, pss_cons (ps_set (i := 1) sc_tw.nd rfl (Or.inl rfl) (pe_make T.kP G hr rfl T.gP T.pi.2 .nil pass0 (pa_cons (pe_fld (pv 0) rfl) pa_nil)))
      (pss_cons (ps_fld (pv 1) (pe_fld (pv 0) rfl) rfl) (pss_cons (ps_fld (pv 1) (pe_fld (pv 0) rfl) rfl) (pss_cons (ps_fld (pv 1) (pe_fld (pv 0) rfl) rfl)
      (pss_cons (ps_fld (pv 1) (pe_fld (pv 0) rfl) rfl) (pss_cons (ps_fld (pv 1) (pe_fld (pv 0) rfl) rfl) (pss_cons (ps_fld (pv 1) (pe_fld (pv 0) rfl) rfl)
      (pss_one (ps_ret (pv 1))))))))), ?_⟩
    refine ⟨_, rfl, T.rP_s hp (fun x dy hx hdy hne => ⟨x, dy, s, rfl, upd_same, rfl, ?_⟩)⟩
    rw [upd_upd]
    have h1 : p ≠ x := ne_of_none hp hx
    have h2 : p ≠ dy := ne_of_none hp hdy
    have hp' : ∀ o, (upd (upd H dy (.own x)) x o) p = some (.ins A.cP dx (pmF s q)) := fun o => by rw [upd_ne h1, upd_ne h2]; exact hp
    refine ⟨_, rfl, T.rP_v (hp' _) ?_⟩
    refine ⟨_, rfl, T.wP_v upd_same ?_⟩
    rw [upd_upd]
    refine ⟨_, rfl, T.rP_a (hp' _) ?_⟩
    refine ⟨_, rfl, T.wP_a upd_same ?_⟩
    rw [upd_upd]
    refine ⟨_, rfl, T.rP_wg (hp' _) ?_⟩
    refine ⟨_, rfl, T.wP_wg upd_same ?_⟩
    rw [upd_upd]
    refine ⟨_, rfl, T.rP_wd (hp' _) ?_⟩
    refine ⟨_, rfl, T.wP_wd upd_same ?_⟩
    rw [upd_upd]
    refine ⟨_, rfl, T.rP_since (hp' _) ?_⟩
    refine ⟨_, rfl, T.wP_since upd_same ?_⟩
    rw [upd_upd]
    refine ⟨_, rfl, T.rP_odd (hp' _) ?_⟩
    refine ⟨_, rfl, T.wP_odd upd_same ?_⟩
    rw [upd_upd]
    refine ⟨_, rfl, ?_⟩
    exact k x dy hx hdy hne
/-! ### Pacemaker: time goes by, chambers beat -/
def spLp (A : Ad) : Sp := fun vs H Q _ => ∃ (p dx s : Addr) (q : PM) (m : Int), vs = [.ref p, .int m] ∧ H p = some (.ins A.cP dx (pmF s q)) ∧ Q .non (upd H p (.ins A.cP dx (pmF s (letPass q m))))
theorem sc_lp : FnScope ["self", "milliseconds"] ["self", "milliseconds"] (defScope s_lp) := ⟨rfl, rfl, rfl, by decide +kernel, rfl, by decide +kernel, by decide +kernel⟩
theorem ok_lp (T : Tx K mg A) : FnOk P w K mg base CX0 1 A.f_lp A.d_lp ["self", "milliseconds"] (spLp A) := by
  refine T.lp.fn.ok sc_lp (fun vs H Q E h => ?_) (fun cdv A' outer s H vs Q E hr h => ?_)
  · obtain ⟨p, dx, s, q, m, rfl, _⟩ := h
    rfl
  · obtain ⟨p, dx, s, q, m, rfl, hp, k⟩ := h
    refine ⟨_, pss_cons (ps_fld (pv 0) (pe_callB (call_min2 rfl) (by rfl) T.min boot_min (pa_cons (pe_op op_add (pe_fld (pv 0) rfl) (pv 1)) (pa_cons (pe_gi rfl T.c_LONGEST_AGO) pa_nil))) rfl)
      (pss_cons (ps_fld (pv 0) (pe_callB (call_min2 rfl) (by rfl) T.min boot_min (pa_cons (pe_op op_add (pe_fld (pv 0) rfl) (pv 1)) (pa_cons (pe_gi rfl T.c_LONGEST_AGO) pa_nil))) rfl)
      (pss_one (ps_if (pt_val (pe_fld (pv 0) rfl)) (pss_one (ps_fldaug (pv 0) (pv 1) in_add)) pss_nil))), ?_⟩
    refine ⟨_, rfl, T.rP_v hp ⟨_, rfl, _, _, rfl, rfl, _, _, rfl, _, rfl, T.wP_v hp ?_⟩⟩
    refine ⟨_, rfl, T.rP_a upd_same ⟨_, rfl, _, _, rfl, rfl, _, _, rfl, _, rfl, T.wP_a upd_same ?_⟩⟩
    rw [upd_upd]
    refine ⟨_, rfl, T.rP_wg upd_same ⟨_, rfl, ite2 (fun h => ?_) (fun h => ?_)⟩⟩
    · refine ⟨_, rfl, p, A.cP, dx, _, _, rfl, upd_same, T.P, T.nP_wd, lP_wd s _, _, rfl, _, _, rfl, rfl, dx, _, upd_same, (by show 7 < 1000; decide), ?_⟩
      rw [upd_upd, uP_wd]
      have e : letPass q m = { q with v := mn (q.v + m) 1000000, a := mn (q.a + m) 1000000, wd := q.wd + m } := by
        unfold letPass
        rw [if_pos h]
      rw [e] at k
      exact k
    · have e : letPass q m = { q with v := mn (q.v + m) 1000000, a := mn (q.a + m) 1000000 } := by
        unfold letPass
        rw [if_neg h]
      rw [e] at k
      exact k
def spAb (A : Ad) : Sp := fun vs H Q _ => ∃ (p dx s ds : Addr) (q : PM) (c : Cfg), vs = [.ref p] ∧ H p = some (.ins A.cP dx (pmF s q)) ∧ H s = some (.ins A.cS ds (setF c)) ∧ Q .non (upd H p (.ins A.cP dx (pmF s (atriumBeats c q))))
theorem sc_ab : FnScope ["self"] ["self"] (defScope s_ab) := ⟨rfl, rfl, rfl, by decide +kernel, rfl, by decide +kernel, by decide +kernel⟩
theorem ok_ab (T : Tx K mg A) : FnOk P w K mg base CX0 1 A.f_ab A.d_ab ["self"] (spAb A) := by
  refine T.ab.fn.ok sc_ab (fun vs H Q E h => ?_) (fun cdv A' outer s H vs Q E hr h => ?_)
  · obtain ⟨p, dx, s, ds, q, c, rfl, _⟩ := h
    rfl
  · obtain ⟨p, dx, s, ds, q, c, rfl, hp, hs, k⟩ := h
    have hsp : s ≠ p := ne_of hs hp ne_SP
    have hs' : ∀ o, (upd H p o) s = some (.ins A.cS ds (setF c)) := fun o => by rw [upd_ne hsp]; exact hs
    refine ⟨_, pss_cons (ps_fld (pv 0) pe_int rfl) (pss_cons (ps_fld (pv 0) pe_bl rfl) (pss_one (ps_if (pt_cmp (pc_eqI (pe_fld (pe_fld (pv 0) rfl) rfl) (pe_gi rfl T.c_BOTH)))
      (pss_cons (ps_fld (pv 0) pe_bl rfl) (pss_one (ps_fld (pv 0) pe_int rfl))) pss_nil))), ?_⟩
    refine ⟨_, rfl, T.wP_a hp ?_⟩
    refine ⟨_, rfl, T.wP_since upd_same ?_⟩
    rw [upd_upd]
    refine ⟨_, rfl, T.rP_s upd_same (T.rS_way (hs' _) ⟨_, _, rfl, rfl, _, rfl, ite2 (fun h => ?_) (fun h => ?_)⟩)⟩
    · refine ⟨_, rfl, T.wP_wg upd_same ?_⟩
      rw [upd_upd]
      refine ⟨_, rfl, T.wP_wd upd_same ?_⟩
      rw [upd_upd]
      have e : atriumBeats c q = { q with a := 0, since := true, wg := true, wd := 0 } := if_pos (of_decide_eq_true h)
      rw [e] at k
      exact k
    · have e : atriumBeats c q = { q with a := 0, since := true } := if_neg fun z => h (decide_eq_true z)
      rw [e] at k
      exact k
def spVb (A : Ad) : Sp := fun vs H Q _ => ∃ (p dx s : Addr) (q : PM) (o : Bool), vs = [.ref p, .bl o] ∧ H p = some (.ins A.cP dx (pmF s q)) ∧ Q .non (upd H p (.ins A.cP dx (pmF s (ventricleBeats q o))))
theorem sc_vb : FnScope ["self", "odd"] ["self", "odd"] (defScope s_vb) := ⟨rfl, rfl, rfl, by decide +kernel, rfl, by decide +kernel, by decide +kernel⟩
theorem ok_vb (T : Tx K mg A) : FnOk P w K mg base CX0 1 A.f_vb A.d_vb ["self", "odd"] (spVb A) := by
  refine T.vb.fn.ok sc_vb (fun vs H Q E h => ?_) (fun cdv A' outer s H vs Q E hr h => ?_)
  · obtain ⟨p, dx, s, q, o, rfl, _⟩ := h
    rfl
  · obtain ⟨p, dx, s, q, o, rfl, hp, k⟩ := h
    refine ⟨_, pss_cons (ps_fld (pv 0) pe_int rfl) (pss_cons (ps_fld (pv 0) pe_bl rfl) (pss_cons (ps_fld (pv 0) pe_int rfl) (pss_cons (ps_fld (pv 0) pe_bl rfl) (pss_one (ps_fld (pv 0) (pv 1) rfl))))), ?_⟩
    refine ⟨_, rfl, T.wP_v hp ?_⟩
    refine ⟨_, rfl, T.wP_wg upd_same ?_⟩
    rw [upd_upd]
    refine ⟨_, rfl, T.wP_wd upd_same ?_⟩
    rw [upd_upd]
    refine ⟨_, rfl, T.wP_since upd_same ?_⟩
    rw [upd_upd]
    refine ⟨_, rfl, _, rfl, T.wP_odd upd_same ?_⟩
    rw [upd_upd]
    exact k
/-! ### Pacemaker: looks -/
def spQ (A : Ad) (f : Cfg → PM → V) : Sp := fun vs H Q _ => ∃ (p dx s ds : Addr) (q : PM) (c : Cfg), vs = [.ref p] ∧ H p = some (.ins A.cP dx (pmF s q)) ∧ H s = some (.ins A.cS ds (setF c)) ∧ Q (f c q) H
theorem sc_qa : FnScope ["self", "settings", "blind"] ["self"] (defScope s_qa) := ⟨rfl, rfl, rfl, by decide +kernel, rfl, by decide +kernel, by decide +kernel⟩
theorem ok_qa (T : Tx K mg A) : FnOk P w K mg base CX0 1 A.f_qa A.d_qa ["self"] (spQ A fun c q => .bl (passA c q)) := by
  refine T.qa.fn.ok sc_qa (fun vs H Q E h => ?_) (fun cdv A' outer s H vs Q E hr h => ?_)
  · obtain ⟨p, dx, s, ds, q, c, rfl, _⟩ := h
    rfl
  · obtain ⟨p, dx, s, ds, q, c, rfl, hp, hs, k⟩ := h
    dsimp only at k
    refine ⟨_, pss_cons (ps_set (i := 1) sc_qa.nd rfl (Or.inl rfl) (pe_fld (pv 0) rfl))
      (pss_cons (ps_if (pt_cmp (pc_eqI (pe_fld (pv 1) rfl) (pe_gi rfl T.c_VENTRICLE_ALONE))) (pss_one (ps_ret pe_bl)) pss_nil)
      (pss_cons (ps_if (pt_cmp (pc_eqI (pe_fld (pv 1) rfl) (pe_gi rfl T.c_ATRIUM_ALONE))) (pss_one (ps_ret (pe_cmp (pc_lt (pe_fld (pv 0) rfl) (pe_fld (pv 1) rfl))))) pss_nil)
      (pss_cons (ps_set (i := 2) sc_qa.nd rfl (Or.inl rfl) (pe_ifExp (pt_val (pe_fld (pv 0) rfl)) (pe_fld (pv 1) rfl) (pe_fld (pv 1) rfl)))
      (pss_one (ps_ret (pe_or (pe_fld (pv 0) rfl) (pe_one (pe_cmp (pc_lt (pe_fld (pv 0) rfl) (pv 2)))))))))), ?_⟩
    refine ⟨_, rfl, T.rP_s hp ?_⟩
    refine ⟨_, rfl, T.rS_way hs ⟨_, _, rfl, rfl, _, rfl, ite2 (fun h0 => ?_) (fun h0 => ?_)⟩⟩
    · have e : passA c q = true := if_pos (of_decide_eq_true h0)
      rw [e] at k
      exact k
    · refine ⟨_, rfl, T.rS_way hs ⟨_, _, rfl, rfl, _, rfl, ite2 (fun h1 => ?_) (fun h1 => ?_)⟩⟩
      · refine ⟨_, rfl, T.rP_a hp ⟨_, rfl, T.rS_atr hs ⟨_, _, rfl, rfl, ?_⟩⟩⟩
        have e : passA c q = decide (q.a < c.atr) := by
          unfold passA
          rw [if_neg fun z => h0 (decide_eq_true z), if_pos (of_decide_eq_true h1)]
        rw [e] at k
        exact k
      · have e : passA c q = if q.wg = true then true else decide (q.v < (if q.odd = true then c.aft else c.atr)) := by
          unfold passA
          rw [if_neg fun z => h0 (decide_eq_true z), if_neg fun z => h1 (decide_eq_true z)]
        rw [e] at k
        refine ⟨_, rfl, T.rP_odd hp ⟨_, rfl, ite2 (fun h2 => ?_) (fun h2 => ?_)⟩⟩
        · rw [if_pos h2] at k
          refine ⟨_, rfl, T.rS_aft hs ⟨_, rfl, T.rP_wg hp ⟨_, rfl, ite2 (fun h3 => ?_) (fun h3 => ?_)⟩⟩⟩
          · rw [if_pos h3] at k
            exact k
          · rw [if_neg h3] at k
            exact ⟨_, rfl, T.rP_v hp ⟨_, rfl, _, _, rfl, rfl, k⟩⟩
        · rw [if_neg h2] at k
          refine ⟨_, rfl, T.rS_atr hs ⟨_, rfl, T.rP_wg hp ⟨_, rfl, ite2 (fun h3 => ?_) (fun h3 => ?_)⟩⟩⟩
          · rw [if_pos h3] at k
            exact k
          · rw [if_neg h3] at k
            exact ⟨_, rfl, T.rP_v hp ⟨_, rfl, _, _, rfl, rfl, k⟩⟩
theorem sc_qv : FnScope ["self"] ["self"] (defScope s_qv) := ⟨rfl, rfl, rfl, by decide +kernel, rfl, by decide +kernel, by decide +kernel⟩
theorem ok_qv (T : Tx K mg A) : FnOk P w K mg base CX0 1 A.f_qv A.d_qv ["self"] (spQ A fun c q => .bl (passV c q)) := by
  refine T.qv.fn.ok sc_qv (fun vs H Q E h => ?_) (fun cdv A' outer s H vs Q E hr h => ?_)
  · obtain ⟨p, dx, s, ds, q, c, rfl, _⟩ := h
    rfl
  · obtain ⟨p, dx, s, ds, q, c, rfl, hp, hs, k⟩ := h
    dsimp only at k
    refine ⟨_, pss_one (ps_ret (pe_or (pe_cmp (pc_eqI (pe_fld (pe_fld (pv 0) rfl) rfl) (pe_gi rfl T.c_ATRIUM_ALONE))) (pe_one (pe_cmp (pc_lt (pe_fld (pv 0) rfl) (pe_fld (pe_fld (pv 0) rfl) rfl)))))), ?_⟩
    refine ⟨_, rfl, T.rP_s hp (T.rS_way hs ⟨_, _, rfl, rfl, _, rfl, ite2 (fun h => ?_) (fun h => ?_)⟩)⟩
    · have e : passV c q = true := if_pos (of_decide_eq_true h)
      rw [e] at k
      exact k
    · have e : passV c q = decide (q.v < c.ven) := if_neg fun z => h (decide_eq_true z)
      rw [e] at k
      exact ⟨_, rfl, T.rP_v hp ⟨_, rfl, T.rP_s hp (T.rS_ven hs ⟨_, _, rfl, rfl, k⟩)⟩⟩
theorem sc_ta : FnScope ["self", "settings"] ["self"] (defScope s_ta) := ⟨rfl, rfl, rfl, by decide +kernel, rfl, by decide +kernel, by decide +kernel⟩
theorem ok_ta (T : Tx K mg A) : FnOk P w K mg base CX0 1 A.f_ta A.d_ta ["self"] (spQ A fun c q => .bl (timeA c q)) := by
  refine T.ta.fn.ok sc_ta (fun vs H Q E h => ?_) (fun cdv A' outer s H vs Q E hr h => ?_)
  · obtain ⟨p, dx, s, ds, q, c, rfl, _⟩ := h
    rfl
  · obtain ⟨p, dx, s, ds, q, c, rfl, hp, hs, k⟩ := h
    dsimp only at k
    refine ⟨_, pss_cons (ps_set (i := 1) sc_ta.nd rfl (Or.inl rfl) (pe_fld (pv 0) rfl))
      (pss_cons (ps_if (pt_cmp (pc_eqI (pe_fld (pv 1) rfl) (pe_gi rfl T.c_ATRIUM_ALONE))) (pss_one (ps_ret (pe_cmp (pc_ge (pe_fld (pv 0) rfl) (pe_fld (pv 1) rfl))))) pss_nil)
      (pss_one (ps_ret (pe_and (pe_cmp (pc_eqI (pe_fld (pv 1) rfl) (pe_gi rfl T.c_BOTH))) (pe_and (pe_not (pe_fld (pv 0) rfl)) (pe_one (pe_cmp (pc_ge (pe_fld (pv 0) rfl) (pe_op op_sub (pe_fld (pv 1) rfl) (pe_fld (pv 1) rfl)))))))))), ?_⟩
    refine ⟨_, rfl, T.rP_s hp ?_⟩
    refine ⟨_, rfl, T.rS_way hs ⟨_, _, rfl, rfl, _, rfl, ite2 (fun h0 => ?_) (fun h0 => ?_)⟩⟩
    · have e : timeA c q = decide (c.low ≤ q.a) := if_pos (of_decide_eq_true h0)
      rw [e] at k
      exact ⟨_, rfl, T.rP_a hp ⟨_, rfl, T.rS_low hs ⟨_, _, rfl, rfl, k⟩⟩⟩
    · refine ⟨_, rfl, T.rS_way hs ⟨_, _, rfl, rfl, _, rfl, ite2 (fun h1 => ?_) (fun h1 => ?_)⟩⟩
      · have e : timeA c q = if q.wg = true then false else decide (c.low - c.delay ≤ q.v) := by
          unfold timeA
          rw [if_neg fun z => h0 (decide_eq_true z), if_pos (of_decide_eq_true h1)]
        rw [e] at k
        refine ⟨_, rfl, T.rP_wg hp ⟨_, rfl, _, rfl, ite2 (fun h2 => ?_) (fun h2 => ?_)⟩⟩
        · have h3 : ¬ q.wg = true := by
            intro z
            rw [z] at h2
            cases h2
          rw [if_neg h3] at k
          exact ⟨_, rfl, T.rP_v hp ⟨_, rfl, T.rS_low hs ⟨_, rfl, T.rS_delay hs ⟨_, _, rfl, rfl, _, _, rfl, rfl, k⟩⟩⟩⟩
        · have h3 : q.wg = true := by
            cases z : q.wg with
            | true => rfl
            | false =>
              rw [z] at h2
              exact absurd rfl h2
          rw [if_pos h3] at k
          exact k
      · have e : timeA c q = false := by
          unfold timeA
          rw [if_neg fun z => h0 (decide_eq_true z), if_neg fun z => h1 (decide_eq_true z)]
        rw [e] at k
        exact k
theorem sc_tv : FnScope ["self", "settings"] ["self"] (defScope s_tv) := ⟨rfl, rfl, rfl, by decide +kernel, rfl, by decide +kernel, by decide +kernel⟩
theorem ok_tv (T : Tx K mg A) : FnOk P w K mg base CX0 1 A.f_tv A.d_tv ["self"] (spQ A fun c q => .bl (timeV c q)) := by
  refine T.tv.fn.ok sc_tv (fun vs H Q E h => ?_) (fun cdv A' outer s H vs Q E hr h => ?_)
  · obtain ⟨p, dx, s, ds, q, c, rfl, _⟩ := h
    rfl
  · obtain ⟨p, dx, s, ds, q, c, rfl, hp, hs, k⟩ := h
    dsimp only at k
    refine ⟨_, pss_cons (ps_set (i := 1) sc_tv.nd rfl (Or.inl rfl) (pe_fld (pv 0) rfl))
      (pss_cons (ps_if (pt_cmp (pc_eqI (pe_fld (pv 1) rfl) (pe_gi rfl T.c_VENTRICLE_ALONE))) (pss_one (ps_ret (pe_cmp (pc_ge (pe_fld (pv 0) rfl) (pe_fld (pv 1) rfl))))) pss_nil)
      (pss_one (ps_ret (pe_and (pe_fld (pv 0) rfl) (pe_and (pe_cmp (pc_ge (pe_fld (pv 0) rfl) (pe_fld (pv 1) rfl))) (pe_one (pe_cmp (pc_ge (pe_fld (pv 0) rfl) (pe_fld (pv 1) rfl))))))))), ?_⟩
    refine ⟨_, rfl, T.rP_s hp ?_⟩
    refine ⟨_, rfl, T.rS_way hs ⟨_, _, rfl, rfl, _, rfl, ite2 (fun h0 => ?_) (fun h0 => ?_)⟩⟩
    · have e : timeV c q = decide (c.low ≤ q.v) := if_pos (of_decide_eq_true h0)
      rw [e] at k
      exact ⟨_, rfl, T.rP_v hp ⟨_, rfl, T.rS_low hs ⟨_, _, rfl, rfl, k⟩⟩⟩
    · have e : timeV c q = if q.wg = true then (if c.delay ≤ q.wd then decide (c.high ≤ q.v) else false) else false := if_neg fun z => h0 (decide_eq_true z)
      rw [e] at k
      refine ⟨_, rfl, T.rP_wg hp ⟨_, rfl, ite2 (fun h1 => ?_) (fun h1 => ?_)⟩⟩
      · rw [if_pos h1] at k
        refine ⟨_, rfl, T.rP_wd hp ⟨_, rfl, T.rS_delay hs ⟨_, _, rfl, rfl, _, rfl, ite2 (fun h2 => ?_) (fun h2 => ?_)⟩⟩⟩
        · rw [if_pos (of_decide_eq_true h2)] at k
          exact ⟨_, rfl, T.rP_v hp ⟨_, rfl, T.rS_high hs ⟨_, _, rfl, rfl, k⟩⟩⟩
        · rw [if_neg fun z => h2 (decide_eq_true z)] at k
          exact k
      · rw [if_neg h1] at k
        exact k
theorem sc_up : FnScope ["self", "settings"] ["self"] (defScope s_up) := ⟨rfl, rfl, rfl, by decide +kernel, rfl, by decide +kernel, by decide +kernel⟩
theorem ok_up (T : Tx K mg A) : FnOk P w K mg base CX0 1 A.f_up A.d_up ["self"] (spQ A fun c q => .int (untilP c q)) := by
  refine T.up.fn.ok sc_up (fun vs H Q E h => ?_) (fun cdv A' outer s H vs Q E hr h => ?_)
  · obtain ⟨p, dx, s, ds, q, c, rfl, _⟩ := h
    rfl
  · obtain ⟨p, dx, s, ds, q, c, rfl, hp, hs, k⟩ := h
    dsimp only at k
    refine ⟨_, pss_cons (ps_set (i := 1) sc_up.nd rfl (Or.inl rfl) (pe_fld (pv 0) rfl))
      (pss_cons (ps_if (pt_cmp (pc_eqI (pe_fld (pv 1) rfl) (pe_gi rfl T.c_VENTRICLE_ALONE))) (pss_one (ps_ret (pe_op op_sub (pe_fld (pv 1) rfl) (pe_fld (pv 0) rfl)))) pss_nil)
      (pss_cons (ps_if (pt_cmp (pc_eqI (pe_fld (pv 1) rfl) (pe_gi rfl T.c_ATRIUM_ALONE))) (pss_one (ps_ret (pe_op op_sub (pe_fld (pv 1) rfl) (pe_fld (pv 0) rfl)))) pss_nil)
      (pss_cons (ps_if (pt_val (pe_fld (pv 0) rfl)) (pss_one (ps_ret (pe_callB (call_max2 rfl) (by rfl) T.max boot_max (pa_cons (pe_op op_sub (pe_fld (pv 1) rfl) (pe_fld (pv 0) rfl)) (pa_cons (pe_op op_sub (pe_fld (pv 1) rfl) (pe_fld (pv 0) rfl)) pa_nil))))) pss_nil)
      (pss_one (ps_ret (pe_op op_sub (pe_op op_sub (pe_fld (pv 1) rfl) (pe_fld (pv 1) rfl)) (pe_fld (pv 0) rfl))))))), ?_⟩
    refine ⟨_, rfl, T.rP_s hp ?_⟩
    refine ⟨_, rfl, T.rS_way hs ⟨_, _, rfl, rfl, _, rfl, ite2 (fun h0 => ?_) (fun h0 => ?_)⟩⟩
    · have e : untilP c q = c.low - q.v := if_pos (of_decide_eq_true h0)
      rw [e] at k
      exact ⟨_, rfl, T.rS_low hs ⟨_, rfl, T.rP_v hp ⟨_, _, rfl, rfl, k⟩⟩⟩
    · refine ⟨_, rfl, T.rS_way hs ⟨_, _, rfl, rfl, _, rfl, ite2 (fun h1 => ?_) (fun h1 => ?_)⟩⟩
      · have e : untilP c q = c.low - q.a := by
          unfold untilP
          rw [if_neg fun z => h0 (decide_eq_true z), if_pos (of_decide_eq_true h1)]
        rw [e] at k
        exact ⟨_, rfl, T.rS_low hs ⟨_, rfl, T.rP_a hp ⟨_, _, rfl, rfl, k⟩⟩⟩
      · have e : untilP c q = if q.wg = true then mx (c.delay - q.wd) (c.high - q.v) else c.low - c.delay - q.v := by
          unfold untilP
          rw [if_neg fun z => h0 (decide_eq_true z), if_neg fun z => h1 (decide_eq_true z)]
        rw [e] at k
        refine ⟨_, rfl, T.rP_wg hp ⟨_, rfl, ite2 (fun h2 => ?_) (fun h2 => ?_)⟩⟩
        · rw [if_pos h2] at k
          exact ⟨_, rfl, T.rS_delay hs ⟨_, rfl, T.rP_wd hp ⟨_, _, rfl, rfl, _, rfl, T.rS_high hs ⟨_, rfl, T.rP_v hp ⟨_, _, rfl, rfl, _, _, rfl, k⟩⟩⟩⟩⟩
        · rw [if_neg h2] at k
          exact ⟨_, rfl, T.rS_low hs ⟨_, rfl, T.rS_delay hs ⟨_, _, rfl, rfl, _, rfl, T.rP_v hp ⟨_, _, rfl, rfl, k⟩⟩⟩⟩
end
end HP
end
section
set_option Elab.async false
set_option linter.all false
set_option maxRecDepth 100000
set_option maxHeartbeats 4000000
namespace HP
open PySem PySem.Spec PyProof.Rows L2
section
variable {P : Program} {w : World} {K : PySem.W.Frag} {mg : Str → Option Value} {base : Heap} {A : Ad}
/-! ### a beat is felt -/
def spFe (A : Ad) : Sp := fun vs H Q _ => ∃ (p dx s ds : Addr) (q : PM) (c : Cfg) (ch : Int), vs = [.ref p, .int ch] ∧ H p = some (.ins A.cP dx (pmF s q)) ∧ H s = some (.ins A.cS ds (setF c)) ∧
  Q (.int (feelW c q ch)) (upd H p (.ins A.cP dx (pmF s (feelP c q ch))))
theorem sc_fe : FnScope ["self", "chamber"] ["self", "chamber"] (defScope s_fe) := ⟨rfl, rfl, rfl, by decide +kernel, rfl, by decide +kernel, by decide +kernel⟩
theorem ok_fe (T : Tx K mg A) : FnOk P w K mg base CX0 2 A.f_fe A.d_fe ["self", "chamber"] (spFe A) := by
  have Gqa : FnOk P w K mg base CX0 1 A.f_qa A.d_qa ["self"] (spQ A fun c q => .bl (passA c q)) := ok_qa T
  have Gqv : FnOk P w K mg base CX0 1 A.f_qv A.d_qv ["self"] (spQ A fun c q => .bl (passV c q)) := ok_qv T
  have Gab : FnOk P w K mg base CX0 1 A.f_ab A.d_ab ["self"] (spAb A) := ok_ab T
  have Gvb : FnOk P w K mg base CX0 1 A.f_vb A.d_vb ["self", "odd"] (spVb A) := ok_vb T
  refine T.fe.fn.ok sc_fe (fun vs H Q E h => ?_) (fun cdv A' outer s H vs Q E hr h => ?_)
  · obtain ⟨p, dx, s, ds, q, c, ch, rfl, _⟩ := h
    rfl
  · obtain ⟨p, dx, s, ds, q, c, ch, rfl, hp, hs, k⟩ := h
    refine ⟨_, pss_cons (ps_if (pt_cmp (pc_eqI (pv 1) (pe_gi rfl T.c_ATRIUM)))
        (pss_cons (ps_if (pt_val (pe_meth0 (pv 0) T.P T.qa.mt Gqa hr T.qa.bd .nil pass0)) (pss_one (ps_ret (pe_gi rfl T.c_PASSED_OVER))) pss_nil)
        (pss_cons (ps_expr (pe_meth0 (pv 0) T.P T.ab.mt Gab hr T.ab.bd .nil pass0))
        (pss_one (ps_ret (pe_gi rfl T.c_TAKEN))))) pss_nil)
      (pss_cons (ps_if (pt_val (pe_meth0 (pv 0) T.P T.qv.mt Gqv hr T.qv.bd .nil pass0)) (pss_one (ps_ret (pe_gi rfl T.c_PASSED_OVER))) pss_nil)
      (pss_cons (ps_expr (pe_meth (pv 0) T.P T.vb.mt Gvb hr T.vb.bd .nil pass0 (pa_cons (pe_and (pe_cmp (pc_eqI (pe_fld (pe_fld (pv 0) rfl) rfl) (pe_gi rfl T.c_BOTH))) (pe_one (pe_not (pe_fld (pv 0) rfl)))) pa_nil)))
      (pss_one (ps_ret (pe_gi rfl T.c_TAKEN))))), ?_⟩
    refine ⟨_, rfl, _, _, rfl, rfl, _, rfl, ite2 (fun h0 => ?_) (fun h0 => ?_)⟩
    · have h0' : ch = 0 := of_decide_eq_true h0
      refine ⟨_, rfl, p, dx, _, rfl, hp, noP s q (by decide +kernel), p, dx, s, ds, q, c, rfl, hp, hs, _, rfl, ite2 (fun h1 => ?_) (fun h1 => ?_)⟩
      · have e1 : feelP c q ch = q := by unfold feelP; rw [if_pos h0', if_pos h1]
        have e2 : feelW c q ch = 4 := by unfold feelW; rw [if_pos h0', if_pos h1]
        rw [e1, e2, upd_id hp] at k
        exact k
      · have e1 : feelP c q ch = atriumBeats c q := by unfold feelP; rw [if_pos h0', if_neg h1]
        have e2 : feelW c q ch = 2 := by unfold feelW; rw [if_pos h0', if_neg h1]
        rw [e1, e2] at k
        exact ⟨_, rfl, p, dx, _, rfl, hp, noP s q (by decide +kernel), p, dx, s, ds, q, c, rfl, hp, hs, k⟩
    · have h0' : ¬ ch = 0 := fun z => h0 (decide_eq_true z)
      refine ⟨_, rfl, p, dx, _, rfl, hp, noP s q (by decide +kernel), p, dx, s, ds, q, c, rfl, hp, hs, _, rfl, ite2 (fun h1 => ?_) (fun h1 => ?_)⟩
      · have e1 : feelP c q ch = q := by unfold feelP; rw [if_neg h0', if_pos h1]
        have e2 : feelW c q ch = 4 := by unfold feelW; rw [if_neg h0', if_pos h1]
        rw [e1, e2, upd_id hp] at k
        exact k
      · have e1 : feelP c q ch = ventricleBeats q (oddB c q) := by unfold feelP; rw [if_neg h0', if_neg h1]
        have e2 : feelW c q ch = 2 := by unfold feelW; rw [if_neg h0', if_neg h1]
        rw [e1, e2] at k
        refine ⟨_, rfl, p, dx, _, rfl, hp, noP s q (by decide +kernel), _, rfl, T.rP_s hp (T.rS_way hs ⟨_, _, rfl, rfl, _, rfl, ite2 (fun h2 => ?_) (fun h2 => ?_)⟩)⟩
        · have e3 : oddB c q = !q.since := if_pos (of_decide_eq_true h2)
          rw [e3] at k
          exact ⟨_, rfl, T.rP_since hp ⟨_, rfl, p, dx, s, q, _, rfl, hp, k⟩⟩
        · have e3 : oddB c q = false := if_neg fun z => h2 (decide_eq_true z)
          rw [e3] at k
          exact ⟨p, dx, s, q, _, rfl, hp, k⟩
/-! ### numbers -/
def spTh : Sp := fun vs H Q _ => ∃ (i j k : Int), vs = [.int i, .int j, .int k] ∧ Q (.int (8 * i + j + k)) H
theorem sc_th : FnScope ["millisecond", "what", "chamber"] ["millisecond", "what", "chamber"] (defScope s_th) := ⟨rfl, rfl, rfl, by decide +kernel, rfl, by decide +kernel, by decide +kernel⟩
theorem ok_th (T : Tx K mg A) : FnOk P w K mg base CX0 1 A.f_th A.d_th ["millisecond", "what", "chamber"] spTh := by
  refine T.th.fn.ok sc_th (fun vs H Q E h => ?_) (fun cdv A' outer s H vs Q E hr h => ?_)
  · obtain ⟨i, j, k, rfl, _⟩ := h
    rfl
  · obtain ⟨i, j, k, rfl, z⟩ := h
    refine ⟨_, pss_one (ps_ret (pe_op op_add (pe_op op_add (pe_op op_mul pe_int (pv 0)) (pv 1)) (pv 2))), ?_⟩
    exact ⟨_, rfl, _, _, rfl, rfl, .inl ⟨by decide, by decide⟩, _, rfl, _, _, rfl, rfl, _, rfl, _, _, rfl, rfl, z⟩
def spBm : Sp := fun vs H Q _ => ∃ (i : Int), vs = [.int i] ∧ Q (.int (i / 2)) H
theorem sc_bm : FnScope ["beat"] ["beat"] (defScope s_bm) := ⟨rfl, rfl, rfl, by decide +kernel, rfl, by decide +kernel, by decide +kernel⟩
theorem ok_bm (T : Tx K mg A) : FnOk P w K mg base CX0 1 A.f_bm A.d_bm ["beat"] spBm := by
  refine T.bm.fn.ok sc_bm (fun vs H Q E h => ?_) (fun cdv A' outer s H vs Q E hr h => ?_)
  · obtain ⟨i, rfl, _⟩ := h
    rfl
  · obtain ⟨i, rfl, z⟩ := h
    refine ⟨_, pss_one (ps_ret (pe_op op_fdiv (pv 0) pe_int)), ?_⟩
    exact ⟨_, rfl, _, _, rfl, rfl, ⟨by decide, by decide⟩, z⟩
def spBc : Sp := fun vs H Q _ => ∃ (i : Int), vs = [.int i] ∧ Q (.int (i % 2)) H
theorem sc_bc : FnScope ["beat"] ["beat"] (defScope s_bc) := ⟨rfl, rfl, rfl, by decide +kernel, rfl, by decide +kernel, by decide +kernel⟩
theorem ok_bc (T : Tx K mg A) : FnOk P w K mg base CX0 1 A.f_bc A.d_bc ["beat"] spBc := by
  refine T.bc.fn.ok sc_bc (fun vs H Q E h => ?_) (fun cdv A' outer s H vs Q E hr h => ?_)
  · obtain ⟨i, rfl, _⟩ := h
    rfl
  · obtain ⟨i, rfl, z⟩ := h
    refine ⟨_, pss_one (ps_ret (pe_ifExp (pt_cmp (pc_eqI (pe_op op_mod (pv 0) pe_int) pe_int)) (pe_gi rfl T.c_VENTRICLE) (pe_gi rfl T.c_ATRIUM))), ?_⟩
    refine ⟨_, rfl, _, _, rfl, rfl, (by show (0 : Int) < 2; decide), _, _, rfl, rfl, _, rfl, ite2 (fun h => ?_) (fun h => ?_)⟩
    · rw [of_decide_eq_true h] at z
      exact z
    · have h' : ¬ i % 2 = 1 := fun y => h (decide_eq_true y)
      rw [show i % 2 = 0 by omega] at z
      exact z
/-! ### what is due is paced -/
def spPt (A : Ad) : Sp := fun vs H Q _ => ∃ (p dx s ds l : Addr) (q : PM) (c : Cfg) (now : Int) (ts : List Int), vs = [.ref p, .int now, .ref l] ∧ H p = some (.ins A.cP dx (pmF s q)) ∧ H s = some (.ins A.cS ds (setF c)) ∧ H l = some (.lst (ts.map V.int)) ∧ ts.length + 2 ≤ sizeLine ∧
  ∀ H' : Hp, H' p = some (.ins A.cP dx (pmF s (paceP c q))) → H' l = some (.lst ((ts ++ paceW c q now).map V.int)) → (∀ b, b ≠ p → b ≠ l → H' b = H b) → Q .non H'
theorem sc_pt : FnScope ["pacemaker", "now", "things"] ["pacemaker", "now", "things"] (defScope s_pt) := ⟨rfl, rfl, rfl, by decide +kernel, rfl, by decide +kernel, by decide +kernel⟩
theorem app_map (ts : List Int) (z : Int) : ts.map V.int ++ [V.int z] = (ts ++ [z]).map V.int := by rw [List.map_append]; rfl
theorem ok_pt (T : Tx K mg A) : FnOk P w K mg base CX0 2 A.f_pt A.d_pt ["pacemaker", "now", "things"] (spPt A) := by
  have Gta : FnOk P w K mg base CX0 1 A.f_ta A.d_ta ["self"] (spQ A fun c q => .bl (timeA c q)) := ok_ta T
  have Gtv : FnOk P w K mg base CX0 1 A.f_tv A.d_tv ["self"] (spQ A fun c q => .bl (timeV c q)) := ok_tv T
  have Gab : FnOk P w K mg base CX0 1 A.f_ab A.d_ab ["self"] (spAb A) := ok_ab T
  have Gvb : FnOk P w K mg base CX0 1 A.f_vb A.d_vb ["self", "odd"] (spVb A) := ok_vb T
  have Gth : FnOk P w K mg base CX0 1 A.f_th A.d_th ["millisecond", "what", "chamber"] spTh := ok_th T
  refine T.pt.fn.ok sc_pt (fun vs H Q E h => ?_) (fun cdv A' outer s H vs Q E hr h => ?_)
  · obtain ⟨p, dx, s, ds, l, q, c, now, ts, rfl, _⟩ := h
    rfl
  · obtain ⟨p, dx, s, ds, l, q, c, now, ts, rfl, hp, hs, hl, hz, k⟩ := h
    have hsp : s ≠ p := ne_of hs hp ne_SP
    have hlp : l ≠ p := ne_of hl hp (by intro z; cases z)
    have hsl : s ≠ l := ne_of hs hl (by intro z; cases z)
    refine ⟨_, pss_cons (ps_if (pt_val (pe_meth0 (pv 0) T.P T.ta.mt Gta hr T.ta.bd .nil pass0))
        (pss_cons (ps_expr (pe_meth0 (pv 0) T.P T.ab.mt Gab hr T.ab.bd .nil pass0))
        (pss_one (ps_expr (pe_bm PySem.F.plainAttrs_list PySem.F.slot_list_append PySem.F.type_list_append mt_append (pv 2)
          (pa_cons (pe_call Gth hr rfl T.th.mg T.th.fn.kp T.th.bd .nil pass0 (pa_cons (pv 1) (pa_cons (pe_gi rfl T.c_PACED) (pa_cons (pe_gi rfl T.c_ATRIUM) pa_nil)))) pa_nil))))) pss_nil)
      (pss_one (ps_if (pt_val (pe_meth0 (pv 0) T.P T.tv.mt Gtv hr T.tv.bd .nil pass0))
        (pss_cons (ps_expr (pe_meth (pv 0) T.P T.vb.mt Gvb hr T.vb.bd .nil pass0 (pa_cons pe_bl pa_nil)))
        (pss_one (ps_expr (pe_bm PySem.F.plainAttrs_list PySem.F.slot_list_append PySem.F.type_list_append mt_append (pv 2)
          (pa_cons (pe_call Gth hr rfl T.th.mg T.th.fn.kp T.th.bd .nil pass0 (pa_cons (pv 1) (pa_cons (pe_gi rfl T.c_PACED) (pa_cons (pe_gi rfl T.c_VENTRICLE) pa_nil)))) pa_nil))))) pss_nil)), ?_⟩
    refine ⟨_, rfl, p, dx, _, rfl, hp, noP s q (by decide +kernel), p, dx, s, ds, q, c, rfl, hp, hs, _, rfl, ite2 (fun h0 => ?_) (fun h0 => ?_)⟩
    · -- the atrium is paced
      refine ⟨_, rfl, p, dx, _, rfl, hp, noP s q (by decide +kernel), p, dx, s, ds, q, c, rfl, hp, hs, ?_⟩
      have hl1 : (upd H p (.ins A.cP dx (pmF s (atriumBeats c q)))) l = some (.lst (ts.map V.int)) := by rw [upd_ne hlp]; exact hl
      refine ⟨_, rfl, .inl ⟨rfl, _, SqL.of hl1⟩, _, rfl, _, _, _, rfl, l, _, _, rfl, rfl, hl1, (by rw [List.length_map]; omega), ?_⟩
      rw [app_map]
      have hp2 : (upd (upd H p (.ins A.cP dx (pmF s (atriumBeats c q)))) l (.lst ((ts ++ [8 * now + 0 + 0]).map V.int))) p = some (.ins A.cP dx (pmF s (atriumBeats c q))) := by rw [upd_ne hlp.symm, upd_same]
      have hs2 : (upd (upd H p (.ins A.cP dx (pmF s (atriumBeats c q)))) l (.lst ((ts ++ [8 * now + 0 + 0]).map V.int))) s = some (.ins A.cS ds (setF c)) := by rw [upd_ne hsl, upd_ne hsp]; exact hs
      refine ⟨_, rfl, p, dx, _, rfl, hp2, noP s _ (by decide +kernel), p, dx, s, ds, atriumBeats c q, c, rfl, hp2, hs2, _, rfl, ite2 (fun h1 => ?_) (fun h1 => ?_)⟩
      · have e1 : paceP c q = ventricleBeats (atriumBeats c q) false := by unfold paceP; simp only [h0, if_true]; rw [if_pos h1]
        have e2 : paceW c q now = [8 * now + 0 + 0] ++ [8 * now + 0 + 1] := by unfold paceW; simp only [h0, if_true]; rw [if_pos h1]
        rw [e1, e2] at k
        refine ⟨_, rfl, p, dx, _, rfl, hp2, noP s _ (by decide +kernel), p, dx, s, atriumBeats c q, false, rfl, hp2, ?_⟩
        have hl3 : (upd (upd (upd H p (.ins A.cP dx (pmF s (atriumBeats c q)))) l (.lst ((ts ++ [8 * now + 0 + 0]).map V.int))) p (.ins A.cP dx (pmF s (ventricleBeats (atriumBeats c q) false)))) l = some (.lst ((ts ++ [8 * now + 0 + 0]).map V.int)) := by rw [upd_ne hlp, upd_same]
        refine ⟨_, rfl, .inl ⟨rfl, _, SqL.of hl3⟩, _, rfl, _, _, _, rfl, l, _, _, rfl, rfl, hl3, (by rw [List.length_map, List.length_append]; simp only [List.length_cons, List.length_nil]; omega), ?_⟩
        rw [app_map]
        refine k _ (by rw [upd_ne hlp.symm, upd_same]) (by rw [upd_same, List.append_assoc]) fun b hb1 hb2 => ?_
        rw [upd_ne hb2, upd_ne hb1, upd_ne hb2, upd_ne hb1]
      · have e1 : paceP c q = atriumBeats c q := by unfold paceP; simp only [h0, if_true]; rw [if_neg h1]
        have e2 : paceW c q now = [8 * now + 0 + 0] := by unfold paceW; simp only [h0, if_true]; rw [if_neg h1, List.append_nil]
        rw [e1, e2] at k
        refine k _ hp2 upd_same fun b hb1 hb2 => ?_
        rw [upd_ne hb2, upd_ne hb1]
    · -- it is not
      refine ⟨_, rfl, p, dx, _, rfl, hp, noP s q (by decide +kernel), p, dx, s, ds, q, c, rfl, hp, hs, _, rfl, ite2 (fun h1 => ?_) (fun h1 => ?_)⟩
      · have e1 : paceP c q = ventricleBeats q false := by unfold paceP; simp only [if_neg h0]; rw [if_pos h1]
        have e2 : paceW c q now = [8 * now + 0 + 1] := by unfold paceW; simp only [if_neg h0]; rw [if_pos h1, List.nil_append]
        rw [e1, e2] at k
        refine ⟨_, rfl, p, dx, _, rfl, hp, noP s q (by decide +kernel), p, dx, s, q, false, rfl, hp, ?_⟩
        have hl1 : (upd H p (.ins A.cP dx (pmF s (ventricleBeats q false)))) l = some (.lst (ts.map V.int)) := by rw [upd_ne hlp]; exact hl
        refine ⟨_, rfl, .inl ⟨rfl, _, SqL.of hl1⟩, _, rfl, _, _, _, rfl, l, _, _, rfl, rfl, hl1, (by rw [List.length_map]; omega), ?_⟩
        rw [app_map]
        refine k _ (by rw [upd_ne hlp.symm, upd_same]) upd_same fun b hb1 hb2 => ?_
        rw [upd_ne hb2, upd_ne hb1]
      · have e1 : paceP c q = q := by unfold paceP; simp only [if_neg h0]; rw [if_neg h1]
        have e2 : paceW c q now = [] := by unfold paceW; simp only [if_neg h0]; rw [if_neg h1, List.nil_append]
        rw [e1, e2, List.append_nil] at k
        exact k H hp hl fun _ _ _ => rfl
/-! ### the next millisecond in which something may happen -/
def spNm (A : Ad) : Sp := fun vs H Q _ => ∃ (p dx s ds b : Addr) (q : PM) (c : Cfg) (now n : Int) (bs : List Int) (f : Nat), vs = [.ref p, .int now, .int n, .ref b, .int (f : Int)] ∧ H p = some (.ins A.cP dx (pmF s q)) ∧ H s = some (.ins A.cS ds (setF c)) ∧ H b = some (.lst (bs.map V.int)) ∧
  Q (.int (nextMs c q now n bs[f]?)) H
theorem sc_nm : FnScope ["pacemaker", "now", "n", "beats", "felt", "coming"] ["pacemaker", "now", "n", "beats", "felt"] (defScope s_nm) := ⟨rfl, rfl, rfl, by decide +kernel, rfl, by decide +kernel, by decide +kernel⟩
theorem get_map {bs : List Int} {f : Nat} {x : Int} (h : bs[f]? = some x) : (bs.map V.int)[f]? = some (V.int x) := by rw [List.getElem?_map, h]; rfl
theorem ok_nm (T : Tx K mg A) : FnOk P w K mg base CX0 2 A.f_nm A.d_nm ["pacemaker", "now", "n", "beats", "felt"] (spNm A) := by
  have Gup : FnOk P w K mg base CX0 1 A.f_up A.d_up ["self"] (spQ A fun c q => .int (untilP c q)) := ok_up T
  have Gbm : FnOk P w K mg base CX0 1 A.f_bm A.d_bm ["beat"] spBm := ok_bm T
  refine T.nm.fn.ok sc_nm (fun vs H Q E h => ?_) (fun cdv A' outer s H vs Q E hr h => ?_)
  · obtain ⟨p, dx, s, ds, b, q, c, now, n, bs, f, rfl, _⟩ := h
    rfl
  · obtain ⟨p, dx, s, ds, b, q, c, now, n, bs, f, rfl, hp, hs, hb, k⟩ := h
    refine ⟨_, pss_cons (ps_set (i := 5) sc_nm.nd rfl (Or.inl rfl) (pe_callB (call_min2 rfl) (by rfl) T.min boot_min (pa_cons (pe_op op_add (pv 1) (pe_meth0 (pv 0) T.P T.up.mt Gup hr T.up.bd .nil pass0)) (pa_cons (pv 2) pa_nil))))
      (pss_cons (ps_if (pt_cmp (pc_lt (pv 4) (pe_callB call_len_seq (by rfl) T.len PySem.boot_len (pa_cons (pv 3) pa_nil))))
        (pss_one (ps_set (i := 5) sc_nm.nd rfl (Or.inl rfl) (pe_callB (call_min2 rfl) (by rfl) T.min boot_min (pa_cons (pv 5) (pa_cons (pe_call Gbm hr rfl T.bm.mg T.bm.fn.kp T.bm.bd .nil pass0 (pa_cons (pe_ix ix_list (pv 3) (pv 4) (fun _ _ => rfl)) pa_nil)) pa_nil))))) pss_nil)
      (pss_one (ps_ret (pv 5)))), ?_⟩
    refine ⟨_, rfl, _, rfl, p, dx, _, rfl, hp, noP s q (by decide +kernel), p, dx, s, ds, q, c, rfl, hp, hs, _, _, rfl, rfl, _, rfl, _, _, rfl, ?_⟩
    refine ⟨_, rfl, _, rfl, b, _, rfl, .inl (SqL.of hb), _, _, rfl, rfl, _, rfl, ite2 (fun h => ?_) (fun h => ?_)⟩
    · have h' : f < bs.length := by
        have := of_decide_eq_true h
        rw [List.length_map] at this
        omega
      have hx : bs[f]? = some bs[f] := List.getElem?_eq_getElem h'
      rw [hx] at k
      exact ⟨_, rfl, _, rfl, _, rfl, b, _, _, _, rfl, rfl, SqL.of hb, at_of (j := f) rfl (get_map hx), _, rfl, _, _, rfl, _, rfl, k⟩
    · have h' : bs.length ≤ f := by
        have : ¬ (f : Int) < ((bs.map V.int).length : Int) := fun z => h (decide_eq_true z)
        rw [List.length_map] at this
        omega
      rw [List.getElem?_eq_none_iff.mpr h'] at k
      exact ⟨_, rfl, k⟩
/-! ### looks at run's numbers -/
def spRo : Sp := fun vs H Q _ => ∃ (m n r : Int), vs = [.int m, .int n, .int r] ∧ Q (.bl (okR m n r)) H
theorem sc_ro : FnScope ["m", "n", "most"] ["m", "n", "most"] (defScope s_ro) := ⟨rfl, rfl, rfl, by decide +kernel, rfl, by decide +kernel, by decide +kernel⟩
theorem ok_ro (T : Tx K mg A) : FnOk P w K mg base CX0 1 A.f_ro A.d_ro ["m", "n", "most"] spRo := by
  refine T.ro.fn.ok sc_ro (fun vs H Q E h => ?_) (fun cdv A' outer s H vs Q E hr h => ?_)
  · obtain ⟨m, n, r, rfl, _⟩ := h
    rfl
  · obtain ⟨m, n, r, rfl, k⟩ := h
    have no : ¬ (0 ≤ m ∧ m ≤ 4096 ∧ 0 ≤ n ∧ n ≤ 1000000 ∧ 0 ≤ r ∧ r ≤ 65536) → Q (.bl false) H := fun z => by
      have e : okR m n r = false := decide_eq_false z
      rw [e] at k
      exact k
    refine ⟨_, pss_one (ps_ret (pe_and (pe_chain op_le op_le pe_int (pv 0) (pe_gi rfl T.c_MOST_BEATS)) (pe_and (pe_chain op_le op_le pe_int (pv 1) (pe_gi rfl T.c_MOST_MILLISECONDS)) (pe_one (pe_chain op_le op_le pe_int (pv 2) (pe_gi rfl T.c_MOST_THINGS)))))), ?_⟩
    refine ⟨_, rfl, _, _, rfl, rfl, _, rfl, ite2 (fun h1 => ⟨_, _, rfl, rfl, _, rfl, ite2 (fun h2 => ?_) (fun h2 => no fun z => h2 (decide_eq_true z.2.1))⟩) (fun h1 => ⟨_, rfl, iteF (no fun z => h1 (decide_eq_true z.1))⟩)⟩
    refine ⟨_, rfl, _, _, rfl, rfl, _, rfl, ite2 (fun h3 => ⟨_, _, rfl, rfl, _, rfl, ite2 (fun h4 => ?_) (fun h4 => no fun z => h4 (decide_eq_true z.2.2.2.1))⟩) (fun h3 => ⟨_, rfl, iteF (no fun z => h3 (decide_eq_true z.2.2.1))⟩)⟩
    refine ⟨_, rfl, _, _, rfl, rfl, _, rfl, ite2 (fun h5 => ⟨_, _, rfl, rfl, ?_⟩) (fun h5 => no fun z => h5 (decide_eq_true z.2.2.2.2.1))⟩
    show Q (V.bl (decide (r ≤ 65536))) H
    by_cases h6 : r ≤ 65536
    · rw [decide_eq_true h6]
      have e : okR m n r = true := decide_eq_true ⟨of_decide_eq_true h1, of_decide_eq_true h2, of_decide_eq_true h3, of_decide_eq_true h4, of_decide_eq_true h5, h6⟩
      rw [e] at k
      exact k
    · rw [decide_eq_false h6]
      exact no fun z => h6 z.2.2.2.2.2
def spBo : Sp := fun vs H Q _ => ∃ (b : Addr) (bs : List Int) (n : Int), vs = [.ref b, .int n] ∧ H b = some (.lst (bs.map V.int)) ∧ Q (.bl (okB 1 n bs)) H
theorem sc_bo : FnScope ["beats", "n", "earliest", "beat"] ["beats", "n"] (defScope s_bo) := ⟨rfl, rfl, rfl, by decide +kernel, rfl, by decide +kernel, by decide +kernel⟩
theorem ok_bo (T : Tx K mg A) : FnOk P w K mg base CX0 2 A.f_bo A.d_bo ["beats", "n"] spBo := by
  have Gbm : FnOk P w K mg base CX0 1 A.f_bm A.d_bm ["beat"] spBm := ok_bm T
  refine T.bo.fn.ok sc_bo (fun vs H Q E h => ?_) (fun cdv A' outer s H vs Q E hr h => ?_)
  · obtain ⟨b, bs, n, rfl, _⟩ := h
    rfl
  · obtain ⟨b, bs, n, rfl, hb, k⟩ := h
    refine ⟨_, pss_cons (ps_set (i := 2) sc_bo.nd rfl (Or.inl rfl) pe_int)
      (pss_cons (ps_for PassesOwn.never rfl (pi_list (pv 0)) (pg_name (i := 3) sc_bo.nd rfl (Or.inl rfl))
        (pss_cons (ps_if (pt_not (pt_chain op_le op_le (pv 2) (pe_call Gbm hr rfl T.bm.mg T.bm.fn.kp T.bm.bd .nil pass0 (pa_cons (pv 3) pa_nil)) (pv 1))) (pss_one (ps_ret pe_bl)) pss_nil)
        (pss_one (ps_set (i := 2) sc_bo.nd rfl (Or.inl rfl) (pe_call Gbm hr rfl T.bm.mg T.bm.fn.kp T.bm.bd .nil pass0 (pa_cons (pv 3) pa_nil))))))
      (pss_one (ps_ret pe_bl))), ?_⟩
    refine ⟨_, rfl, b, rfl, ⟨_, SqL.of hb⟩, for_list (K := K) (a := b) (xs := bs.map V.int) (fun i σ H' => ∃ (e : Int) (v : Option V), σ = [some (.ref b), some (.int n), some (.int e), v] ∧ H' = H ∧ okB 1 n bs = okB e n (bs.drop i))
      ⟨1, none, rfl, rfl, rfl⟩ (fun i σ H' _ ⟨_, _, _, e, _⟩ => by rw [e]; exact SqL.of hb) ?_ ?_⟩
    · rintro i y σ H' hi ⟨e, v, rfl, rfl, eq⟩
      obtain ⟨z, hz, rfl⟩ : ∃ z, bs[i]? = some z ∧ y = V.int z := by
        rw [List.getElem?_map] at hi
        cases e : bs[i]? with
        | none =>
          rw [e] at hi
          cases hi
        | some z =>
          rw [e] at hi
          exact ⟨z, rfl, (Option.some.inj hi).symm⟩
      obtain ⟨hi', ez⟩ := List.getElem?_eq_some_iff.mp hz
      rw [List.drop_eq_getElem_cons hi', ez] at eq
      have eq2 : okB 1 n bs = if e ≤ z / 2 ∧ z / 2 ≤ n then okB (z / 2) n (bs.drop (i + 1)) else false := eq
      refine ⟨_, rfl, _, rfl, z, rfl, _, _, rfl, rfl, _, rfl, ite2 (fun h1 => ⟨_, rfl, _, _, rfl, rfl, _, rfl, ite2 (fun h2 => ?_) (fun h2 => ?_)⟩) (fun h1 => ⟨_, rfl, iteT ?_⟩)⟩
      · have h2' : ¬ z / 2 ≤ n := by
          intro y
          rw [decide_eq_true y] at h2
          cases h2
        rw [if_neg fun y => h2' y.2] at eq2
        rw [eq2] at k
        exact k
      · have h2' : z / 2 ≤ n := by
          by_cases y : z / 2 ≤ n
          · exact y
          · rw [decide_eq_false y] at h2
            exact absurd rfl h2
        rw [if_pos ⟨of_decide_eq_true h1, h2'⟩] at eq2
        exact ⟨_, rfl, z, rfl, _, _, rfl, rfl, eq2⟩
      · rw [if_neg fun y => h1 (decide_eq_true y.1)] at eq2
        rw [eq2] at k
        exact k
    · rintro σ H' ⟨e, v, rfl, rfl, eq⟩
      rw [List.length_map, List.drop_length] at eq
      have eq2 : okB 1 n bs = true := eq
      rw [eq2] at k
      exact k
end
end HP
end
section
set_option Elab.async false
set_option linter.all false
set_option maxRecDepth 100000
set_option maxHeartbeats 4000000
namespace HP
open PySem PySem.Spec PyProof.Rows L2
section
variable {P : Program} {w : World} {K : PySem.W.Frag} {mg : Str → Option Value} {base : Heap} {A : Ad}
/-! ### a run -/
/-- behind a run: what happened, the state -/
def GoEnd (h0 : Sn71.Heart) (l : List Nat) (N M : Nat) (ts : List Int) (q : PM) : Prop :=
  (ts = cast (Sn71.told (Sn71.run h0 (Sn71.at_ l N)).2) ∧ Rel q (Sn71.run h0 (Sn71.at_ l N)).1 ∧ 1 ≤ untilP (cfgOf h0.set) q ∧ (Sn71.run h0 (Sn71.at_ l N)).1.set = h0.set) ∨
  (M < ts.length ∧ M < (Sn71.told (Sn71.run h0 (Sn71.at_ l N)).2).length)
def spGo (A : Ad) : Sp := fun vs H Q _ => ∃ (p dx s ds b : Addr) (q : PM) (h0 : Sn71.Heart) (l : List Nat) (N M : Nat), vs = [.ref p, .int N, .int M, .ref b] ∧ H p = some (.ins A.cP dx (pmF s q)) ∧ H s = some (.ins A.cS ds (setF (cfgOf h0.set))) ∧ H b = some (.lst ((cast l).map V.int)) ∧
  Rel q h0 ∧ 1 ≤ untilP (cfgOf h0.set) q ∧ Rises l ∧ (∀ x ∈ l, 1 ≤ x / 2) ∧ l.length ≤ 4096 ∧ M ≤ 65536 ∧
  ∀ (H' : Hp) (r : Addr) (ts : List Int) (q2 : PM), H r = none → H' r = some (.lst (ts.map V.int)) → H' p = some (.ins A.cP dx (pmF s q2)) → (∀ a, a ≠ p → a ≠ r → H' a = H a) → ts.length ≤ 70000 → GoEnd h0 l N M ts q2 → Q (.ref r) H'
theorem sc_go : FnScope ["pacemaker", "n", "most", "beats", "things", "now", "felt", "coming", "chamber"] ["pacemaker", "n", "most", "beats"] (defScope s_go) := ⟨rfl, rfl, rfl, by decide +kernel, rfl, by decide +kernel, by decide +kernel⟩
/-- between two turns of the outer loop -/
def goW (A : Ad) (H : Hp) (p dx s b r : Addr) (h0 : Sn71.Heart) (l : List Nat) (N M : Nat) : Nat → L2.St → Hp → Prop := fun m σ H' =>
  ∃ (t f : Nat) (ts : List Int) (q : PM) (g : Sn71.Heart) (v7 v8 : Option V), σ = [some (.ref p), some (.int N), some (.int M), some (.ref b), some (.ref r), some (.int t), some (.int f), v7, v8] ∧ m = N - t ∧ Outer h0 l N t f ts q g ∧ ts.length ≤ 70000 ∧
    H' r = some (.lst (ts.map V.int)) ∧ H' p = some (.ins A.cP dx (pmF s q)) ∧ ∀ a, a ≠ p → a ≠ r → H' a = H a
/-- between two turns of the inner loop, in the millisecond t + 1 -/
def goI (A : Ad) (H : Hp) (p dx s b r : Addr) (h0 : Sn71.Heart) (l : List Nat) (N M t : Nat) : Nat → L2.St → Hp → Prop := fun m σ H' =>
  ∃ (f : Nat) (ts : List Int) (q : PM) (g : Sn71.Heart) (v7 v8 : Option V), σ = [some (.ref p), some (.int N), some (.int M), some (.ref b), some (.ref r), some (.int ((t + 1 : Nat) : Int)), some (.int f), v7, v8] ∧ m = l.length - f ∧ Inner h0 l N t f ts q g ∧ ts.length ≤ M + f ∧
    H' r = some (.lst (ts.map V.int)) ∧ H' p = some (.ins A.cP dx (pmF s q)) ∧ ∀ a, a ≠ p → a ≠ r → H' a = H a
theorem line_big {n : Nat} (h : n ≤ 1100000) : n < sizeLine := by
  rw [sizeLine_eq]
  omega
theorem paceW_len (c : Cfg) (q : PM) (t : Int) : (paceW c q t).length ≤ 2 := by
  unfold paceW
  simp only
  split <;> split <;> simp
theorem ok_go (T : Tx K mg A) : FnOk P w K mg base CX0 3 A.f_go A.d_go ["pacemaker", "n", "most", "beats"] (spGo A) := by
  have Gnm : FnOk P w K mg base CX0 2 A.f_nm A.d_nm ["pacemaker", "now", "n", "beats", "felt"] (spNm A) := ok_nm T
  have Glp : FnOk P w K mg base CX0 1 A.f_lp A.d_lp ["self", "milliseconds"] (spLp A) := ok_lp T
  have Gbm : FnOk P w K mg base CX0 1 A.f_bm A.d_bm ["beat"] spBm := ok_bm T
  have Gbc : FnOk P w K mg base CX0 1 A.f_bc A.d_bc ["beat"] spBc := ok_bc T
  have Gth : FnOk P w K mg base CX0 1 A.f_th A.d_th ["millisecond", "what", "chamber"] spTh := ok_th T
  have Gfe : FnOk P w K mg base CX0 2 A.f_fe A.d_fe ["self", "chamber"] (spFe A) := ok_fe T
  have Gpt : FnOk P w K mg base CX0 2 A.f_pt A.d_pt ["pacemaker", "now", "things"] (spPt A) := ok_pt T
  refine T.go.fn.ok sc_go (fun vs H Q E h => ?_) (fun cdv A' outer s H vs Q E hr h => ?_)
  · obtain ⟨p, dx, s, ds, b, q, h0, l, N, M, rfl, _⟩ := h
    rfl
  · obtain ⟨p, dx, s, ds, b, q, h0, l, N, M, rfl, hp, hs, hb, hR, hc, hri, hl1, hl4, hM, k⟩ := h
    have hr1 : Room 1 _ := hr.mono (by decide)
    refine ⟨_, pss_cons (ps_set (i := 4) sc_go.nd rfl (Or.inl rfl) (pe_lst pa_nil))
      (pss_cons (ps_set (i := 5) sc_go.nd rfl (Or.inl rfl) pe_int)
      (pss_cons (ps_set (i := 6) sc_go.nd rfl (Or.inl rfl) pe_int)
      (pss_cons (ps_while PassesOwn.never (PW.pt (pw_and (pt_cmp (pc_lt (pv 5) (pv 1))) (pw_and1 (pt_cmp (pc_le (pe_callB call_len_seq (by rfl) T.len PySem.boot_len (pa_cons (pv 4) pa_nil)) (pv 2))))))
        (pss_cons (ps_set (i := 7) sc_go.nd rfl (Or.inl rfl) (pe_call Gnm hr rfl T.nm.mg T.nm.fn.kp T.nm.bd .nil pass0 (pa_cons (pv 0) (pa_cons (pv 5) (pa_cons (pv 1) (pa_cons (pv 3) (pa_cons (pv 6) pa_nil)))))))
        (pss_cons (ps_expr (pe_meth (pv 0) T.P T.lp.mt Glp hr1 T.lp.bd .nil pass0 (pa_cons (pe_op op_sub (pv 7) (pv 5)) pa_nil)))
        (pss_cons (ps_set (i := 5) sc_go.nd rfl (Or.inl rfl) (pv 7))
        (pss_cons (ps_while PassesOwn.never (PW.pt (pw_and (pt_cmp (pc_lt (pv 6) (pe_callB call_len_seq (by rfl) T.len PySem.boot_len (pa_cons (pv 3) pa_nil)))) (pw_and1 (pt_cmp (pc_eqI (pe_call Gbm hr1 rfl T.bm.mg T.bm.fn.kp T.bm.bd .nil pass0 (pa_cons (pe_ix ix_list (pv 3) (pv 6) (fun _ _ => rfl)) pa_nil)) (pv 5))))))
          (pss_cons (ps_set (i := 8) sc_go.nd rfl (Or.inl rfl) (pe_call Gbc hr1 rfl T.bc.mg T.bc.fn.kp T.bc.bd .nil pass0 (pa_cons (pe_ix ix_list (pv 3) (pv 6) (fun _ _ => rfl)) pa_nil)))
          (pss_cons (ps_expr (pe_bm PySem.F.plainAttrs_list PySem.F.slot_list_append PySem.F.type_list_append mt_append (pv 4)
            (pa_cons (pe_call Gth hr1 rfl T.th.mg T.th.fn.kp T.th.bd .nil pass0 (pa_cons (pv 5) (pa_cons (pe_meth (pv 0) T.P T.fe.mt Gfe hr T.fe.bd .nil pass0 (pa_cons (pv 8) pa_nil)) (pa_cons (pv 8) pa_nil)))) pa_nil)))
          (pss_one (ps_aug (i := 6) sc_go.nd rfl (Or.inl rfl) pe_int ip_add)))))
        (pss_one (ps_expr (pe_call Gpt hr rfl T.pt.mg T.pt.fn.kp T.pt.bd .nil pass0 (pa_cons (pv 0) (pa_cons (pv 5) (pa_cons (pv 4) pa_nil)))))))))))
      (pss_one (ps_ret (pv 4)))))), ?_⟩
    have hsp : s ≠ p := ne_of hs hp ne_SP
    have hbp : b ≠ p := ne_of hb hp (by intro z; cases z)
    refine ⟨Nat.zero_le _, fun r hr0 => ?_⟩
    have hpr : p ≠ r := ne_of_none hp hr0
    have hsr : s ≠ r := ne_of_none hs hr0
    have hbr : b ≠ r := ne_of_none hb hr0
    refine ⟨goW A H p dx s b r h0 l N M, ⟨_, 0, 0, [], q, h0, none, none, rfl, rfl, Outer.start hR hc hl1, Nat.zero_le _, upd_same, by rw [upd_ne hpr]; exact hp, fun a h1 h2 => upd_ne h2⟩, ?_⟩
    rintro m σ H1 ⟨t, f, ts, q1, g, v7, v8, rfl, rfl, O, hts, hr1', hp1, fr1⟩
    have hs1 : H1 s = some (.ins A.cS ds (setF (cfgOf h0.set))) := by rw [fr1 s hsp hsr]; exact hs
    have hb1 : H1 b = some (.lst ((cast l).map V.int)) := by rw [fr1 b hbp hbr]; exact hb
    refine ⟨_, rfl, _, rfl, _, _, rfl, rfl, _, rfl, ite2 (fun ht => ?_) (fun ht => ?_)⟩
    · have ht' : t < N := by
        have := of_decide_eq_true ht
        omega
      refine ⟨_, rfl, r, _, rfl, .inl (SqL.of hr1'), _, rfl, _, _, rfl, rfl, _, rfl, ite2 (fun hm => ?_) (fun hm => ?_)⟩
      · have hm' : ts.length ≤ M := by
          have := of_decide_eq_true hm
          rw [List.length_map] at this
          omega
        refine ⟨fun σ' H'' => ∃ m', m' < N - t ∧ goW A H p dx s b r h0 l N M m' σ' H'', fun _ _ z => z, ?_⟩
        obtain ⟨t2, en, htt, I⟩ := O.go hri ht'
        -- coming = next_millisecond(..)
        refine ⟨_, rfl, _, rfl, _, rfl, _, rfl, _, rfl, p, dx, s, ds, b, q1, cfgOf h0.set, (t : Int), (N : Int), cast l, f, rfl, hp1, hs1, hb1, ?_⟩
        rw [show (cast l)[f]? = l[f]?.map fun (x : Nat) => (x : Int) from List.getElem?_map .., en]
        -- pacemaker.let_pass(coming - now); now = coming
        refine ⟨_, rfl, p, dx, _, rfl, hp1, noP s q1 (by decide +kernel), _, rfl, _, rfl, _, _, rfl, rfl, p, dx, s, q1, _, rfl, hp1, ?_⟩
        refine ⟨_, rfl, ?_⟩
        refine ⟨goI A H p dx s b r h0 l N M t2, ⟨_, f, ts, _, _, _, _, rfl, rfl, I, by omega, by rw [upd_ne hpr.symm]; exact hr1', upd_same, fun a h1 h2 => by rw [upd_ne h1]; exact fr1 a h1 h2⟩, ?_⟩
        rintro m2 σ2 H2 ⟨f2, ts2, q2, g2, w7, w8, rfl, rfl, I2, hts2, hr2, hp2, fr2⟩
        have hs2 : H2 s = some (.ins A.cS ds (setF (cfgOf h0.set))) := by rw [fr2 s hsp hsr]; exact hs
        have hb2 : H2 b = some (.lst ((cast l).map V.int)) := by rw [fr2 b hbp hbr]; exact hb
        have hf2 := I2.fl
        -- behind the inner loop
        have fin : (∀ x, l[f2]? = some x → x / 2 ≠ t2 + 1) → ∀ (Hx : Hp) (qx : PM), Hx p = some (.ins A.cP dx (pmF s (paceP (cfgOf h0.set) q2))) → Hx r = some (.lst ((ts2 ++ paceW (cfgOf h0.set) q2 ((t2 + 1 : Nat) : Int)).map V.int)) → (∀ a, a ≠ p → a ≠ r → Hx a = H2 a) →
            ∃ m', m' < N - t ∧ goW A H p dx s b r h0 l N M m' [some (.ref p), some (.int N), some (.int M), some (.ref b), some (.ref r), some (.int ((t2 + 1 : Nat) : Int)), some (.int f2), w7, w8] Hx := by
          intro hx Hx qx e1 e2 e3
          obtain ⟨g3, O3⟩ := I2.pace hri hx
          have := O3.tn
          have hlen := paceW_len (cfgOf h0.set) q2 ((t2 + 1 : Nat) : Int)
          exact ⟨N - (t2 + 1), by omega, t2 + 1, f2, _, _, g3, _, _, rfl, rfl, O3, by rw [List.length_append]; omega, e2, e1, fun a h1 h2 => (e3 a h1 h2).trans (fr2 a h1 h2)⟩
        have out : (∀ x, l[f2]? = some x → x / 2 ≠ t2 + 1) → spPt A [.ref p, .int ((t2 + 1 : Nat) : Int), .ref r] H2 (fun _ Hx => ∃ m', m' < N - t ∧ goW A H p dx s b r h0 l N M m' [some (.ref p), some (.int N), some (.int M), some (.ref b), some (.ref r), some (.int ((t2 + 1 : Nat) : Int)), some (.int f2), w7, w8] Hx) E0 := fun hx =>
          ⟨p, dx, s, ds, r, q2, cfgOf h0.set, _, ts2, rfl, hp2, hs2, hr2, by rw [sizeLine_eq]; omega, fun Hx e1 e2 e3 => fin hx Hx q2 e1 e2 e3⟩
        refine ⟨_, rfl, _, rfl, b, _, rfl, .inl (SqL.of hb2), _, _, rfl, rfl, _, rfl, ite2 (fun hf => ?_) (fun hf => ?_)⟩
        · have hf' : f2 < l.length := by
            have := of_decide_eq_true hf
            rw [List.length_map, List.length_map] at this
            omega
          have hx : l[f2]? = some l[f2] := List.getElem?_eq_getElem hf'
          generalize l[f2] = x at hx
          have hxc : (cast l)[f2]? = some (x : Int) := by
            show (l.map _)[f2]? = _
            rw [List.getElem?_map, hx]
            rfl
          refine ⟨_, rfl, _, rfl, b, _, _, _, rfl, rfl, SqL.of hb2, at_of (j := f2) rfl (get_map hxc), _, rfl, _, rfl, _, _, rfl, rfl, _, rfl, ite2 (fun he => ?_) (fun he => ?_)⟩
          · have he' : x / 2 = t2 + 1 := by
              have := of_decide_eq_true he
              omega
            refine ⟨fun σ' H'' => ∃ m', m' < l.length - f2 ∧ goI A H p dx s b r h0 l N M t2 m' σ' H'', fun _ _ z => z, ?_⟩
            have em : (x : Int) % 2 = ((x % 2 : Nat) : Int) := by omega
            -- chamber = beat_chamber(beats[felt])
            refine ⟨_, rfl, _, rfl, b, _, _, _, rfl, rfl, SqL.of hb2, at_of (j := f2) rfl (get_map hxc), _, rfl, ?_⟩
            rw [em]
            -- things.append(thing(now, pacemaker.feel(chamber), chamber))
            refine ⟨_, rfl, .inl ⟨rfl, _, SqL.of hr2⟩, _, rfl, _, rfl, p, dx, _, rfl, hp2, noP s q2 (by decide +kernel), _, rfl, p, dx, s, ds, q2, cfgOf h0.set, _, rfl, hp2, hs2, _, rfl, _, _, _, rfl, r, _, _, rfl, rfl, (by rw [upd_ne hpr.symm]; exact hr2), (by rw [List.length_map]; exact line_big (by omega)), ?_⟩
            -- felt += 1
            refine ⟨_, rfl, _, _, rfl, rfl, ?_⟩
            have I3 := I2.feel hri hx he'
            refine ⟨l.length - (f2 + 1), by omega, f2 + 1, _, _, _, _, _, rfl, rfl, I3, by rw [List.length_append]; simp only [List.length_cons, List.length_nil]; omega, by rw [upd_same, app_map], by rw [upd_ne hpr, upd_same], fun a h1 h2 => by rw [upd_ne h2, upd_ne h1]; exact fr2 a h1 h2⟩
          · have hn : ∀ y, l[f2]? = some y → y / 2 ≠ t2 + 1 := by
              intro y hy
              rw [hx] at hy
              have e := Option.some.inj hy
              subst e
              intro z
              exact he (decide_eq_true (by omega))
            exact ⟨_, rfl, _, rfl, _, rfl, out hn⟩
        · have hn : ∀ y, l[f2]? = some y → y / 2 ≠ t2 + 1 := by
            intro y hy
            have : ¬ (f2 : Int) < ((((cast l).map V.int).length : Nat) : Int) := fun z => hf (decide_eq_true z)
            rw [List.length_map, List.length_map] at this
            have := (List.getElem?_eq_some_iff.mp hy).1
            omega
          exact iteF ⟨_, rfl, _, rfl, _, rfl, out hn⟩
      · -- too many things
        have hm' : M < ts.length := by
          have : ¬ ((((ts.map V.int).length : Nat) : Int) ≤ (M : Int)) := fun z => hm (decide_eq_true z)
          rw [List.length_map] at this
          omega
        refine ⟨_, rfl, ?_⟩
        exact k H1 r ts q1 hr0 hr1' hp1 fr1 hts (.inr ⟨hm', Nat.lt_of_lt_of_le hm' O.len⟩)
    · -- all have gone by
      have ht' : t = N := by
        have : ¬ ((t : Int) < (N : Int)) := fun z => ht (decide_eq_true z)
        have := O.tn
        omega
      subst ht'
      refine iteF ⟨_, rfl, ?_⟩
      have e := O.st
      have e2 := O.set
      subst e
      exact k H1 r ts q1 hr0 hr1' hp1 fr1 hts (.inl ⟨O.ts, O.rel, O.calm, e2⟩)
end
end HP
end
section
set_option Elab.async false
set_option linter.all false
set_option maxRecDepth 100000
set_option maxHeartbeats 4000000
namespace HP
open PySem PySem.Spec PyProof.Rows L2
theorem same_upd {H : Hp} {a : Addr} {o : HO} (h : H a = none) : Same H (upd H a o) := fun b u e => by
  rw [upd_ne (ne_of_none e h)]
  exact e
theorem upd_free {H : Hp} {a b : Addr} {o : HO} (h : (upd H a o) b = none) : b ≠ a ∧ H b = none := by
  unfold upd at h
  split at h
  · cases h
  · rename_i z
    exact ⟨z, h⟩
/-- the line at l is in the state st -/
def LineAt (A : Ad) (H : Hp) (l : Addr) : Option Sn71.Heart → Prop
  | none => ∃ dl, H l = some (.ins A.cL dl (lineF .non))
  | some h => ∃ (dl p dx s ds : Addr) (q : PM), H l = some (.ins A.cL dl (lineF (.ref p))) ∧ H p = some (.ins A.cP dx (pmF s q)) ∧ H s = some (.ins A.cS ds (setF (cfgOf h.set))) ∧ Rel q h ∧ 1 ≤ untilP (cfgOf h.set) q
theorem LineAt.any {A : Ad} {H : Hp} {l : Addr} {st : Option Sn71.Heart} (h : LineAt A H l st) : ∃ dl v, H l = some (.ins A.cL dl (lineF v)) := by
  cases st with
  | none => obtain ⟨dl, e⟩ := h; exact ⟨dl, _, e⟩
  | some h0 => obtain ⟨dl, p, dx, s, ds, q, e, _⟩ := h; exact ⟨dl, _, e⟩
theorem LineAt.same {A : Ad} {H H' : Hp} {l : Addr} {st : Option Sn71.Heart} (h : LineAt A H l st) (e : Same H H') : LineAt A H' l st := by
  cases st with
  | none => obtain ⟨dl, e1⟩ := h; exact ⟨dl, e _ _ e1⟩
  | some h0 => obtain ⟨dl, p, dx, s, ds, q, e1, e2, e3, r⟩ := h; exact ⟨dl, p, dx, s, ds, q, e _ _ e1, e _ _ e2, e _ _ e3, r⟩
section
variable {P : Program} {w : World} {K : PySem.W.Frag} {mg : Str → Option Value} {base : Heap} {A : Ad}
def spLi (A : Ad) : Sp := fun vs H Q _ => ∃ (p dx : Addr), vs = [.ref p] ∧ H p = some (.ins A.cL dx []) ∧ Q .non (upd H p (.ins A.cL dx (lineF .non)))
theorem sc_li : FnScope ["self"] ["self"] (defScope s_li) := ⟨rfl, rfl, rfl, by decide +kernel, rfl, by decide +kernel, by decide +kernel⟩
theorem ok_li (T : Tx K mg A) : FnOk P w K mg base CX0 1 A.f_li A.d_li ["self"] (spLi A) := by
  refine T.li.1.ok sc_li (fun vs H Q E h => ?_) (fun cdv A' outer s H vs Q E hr h => ?_)
  · obtain ⟨p, dx, rfl, _⟩ := h
    rfl
  · obtain ⟨p, dx, rfl, hp, k⟩ := h
    refine ⟨_, pss_one (ps_fld (pv 0) pe_non rfl), ?_⟩
    exact ⟨_, rfl, p, A.cL, dx, _, rfl, hp, T.L, T.nL, lpd (Nat.le_refl 0) (by decide), k⟩
/-- what a call of the line leaves behind: its answer's list, the line's state, all else as it was -/
def After (A : Ad) (H : Hp) (l : Addr) (y : Option Sn71.Heart × List Int) (Q : VK) : Prop :=
  ∀ (H' : Hp) (r : Addr), H r = none → H' r = some (.lst (y.2.map V.int)) → LineAt A H' l y.1 → (∀ a o, H a = some o → a ≠ l → H' a = some o) → Q (.ref r) H'
def spLb (A : Ad) : Sp := fun vs H Q _ => ∃ (l b : Addr) (st : Option Sn71.Heart) (x : List Int), vs = [.ref l, .ref b] ∧ LineAt A H l st ∧ H b = some (.lst (x.map V.int)) ∧ x.length = 7 ∧ (∀ y ∈ x, 0 ≤ y) ∧ After A H l (stp st [[0], x]) Q
theorem sc_lb : FnScope ["self", "numbers", "settings"] ["self", "numbers"] (defScope s_lb) := ⟨rfl, rfl, rfl, by decide +kernel, rfl, by decide +kernel, by decide +kernel⟩
theorem ok_lb (T : Tx K mg A) : FnOk P w K mg base CX0 3 A.f_lb A.d_lb ["self", "numbers"] (spLb A) := by
  have Gsi : FnOk P w K mg base CX0 1 A.f_si A.d_si ["self", "numbers"] (spSi A) := ok_si T
  have Gpi : FnOk P w K mg base CX0 1 A.f_pi A.d_pi ["self", "settings"] (spPi A) := ok_pi T
  have Gso : FnOk P w K mg base CX0 1 A.f_so A.d_so ["self"] (spSo A) := ok_so T
  refine T.lb.fn.ok sc_lb (fun vs H Q E h => ?_) (fun cdv A' outer s H vs Q E hr h => ?_)
  · obtain ⟨l, b, st, x, rfl, _⟩ := h
    rfl
  · obtain ⟨l, b, st, x, rfl, hL, hb, hx7, hx0, k⟩ := h
    have hr1 : Room 1 _ := hr.mono (by decide)
    refine ⟨_, pss_cons (ps_set (i := 2) sc_lb.nd rfl (Or.inl rfl) (pe_make T.kS Gsi hr rfl T.gS T.si.2 .nil pass0 (pa_cons (pv 1) pa_nil)))
      (pss_cons (ps_if (pt_not (pt_val (pe_meth0 (pv 2) T.S T.so.mt Gso hr1 T.so.bd .nil pass0))) (pss_one (ps_ret (pe_lst (pa_cons (pe_un un_neg pe_int) pa_nil)))) pss_nil)
      (pss_cons (ps_fld (pv 0) (pe_make T.kP Gpi hr rfl T.gP T.pi.2 .nil pass0 (pa_cons (pv 2) pa_nil)) rfl)
      (pss_one (ps_ret (pe_lst (pa_cons pe_int pa_nil)))))), ?_⟩
    refine ⟨_, rfl, fun x0 dy hx hdy hne => ?_⟩
    have f1 : (upd H dy (.own x0)) x0 = none := by rw [upd_ne hne.symm]; exact hx
    have s1 : ∀ o, Same H (upd (upd H dy (.own x0)) x0 o) := fun o => (same_upd hdy).trans (same_upd f1)
    refine ⟨x0, dy, b, x, rfl, upd_same, s1 _ _ _ hb, hx7, rfl, ?_⟩
    rw [upd_upd]
    have ec := cfgL_of hx7 hx0
    refine ⟨_, rfl, x0, dy, _, rfl, upd_same, noS _ (by decide +kernel), x0, dy, cfgL x, rfl, upd_same, _, rfl, ite2 (fun h => ?_) (fun h => ?_)⟩
    · have e : (Sn71.setOf (Sn71Neutral.nats x)).right = false := by
        rw [← okC_of, ← ec]
        simpa using h
      rw [step_begin, if_pos e] at k
      refine ⟨_, rfl, (by show 1 ≤ sizeLine; decide), fun r hr0 => ?_⟩
      obtain ⟨n1, hr2⟩ := upd_free hr0
      obtain ⟨n2, hr3⟩ := upd_free hr2
      have s2 : Same H (upd (upd (upd H dy (.own x0)) x0 (.ins A.cS dy (setF (cfgL x)))) r (.lst [.int (-2)])) := (s1 _).trans (same_upd hr0)
      exact k _ r hr3 upd_same (hL.same s2) fun a o h1 _ => s2 a o h1
    · have e : ¬ (Sn71.setOf (Sn71Neutral.nats x)).right = false := by
        rw [← okC_of, ← ec]
        intro z
        rw [z] at h
        exact h rfl
      rw [step_begin, if_neg e] at k
      have hR : Right (Sn71.setOf (Sn71Neutral.nats x)) := (right_iff _).mp (by simpa using e)
      obtain ⟨dl, v, hl⟩ := hL.any
      generalize hG1 : upd (upd H dy (.own x0)) x0 (.ins A.cS dy (setF (cfgL x))) = G1
      have sG1 : Same H G1 := by rw [← hG1]; exact s1 _
      have xG1 : G1 x0 = some (.ins A.cS dy (setF (cfgL x))) := by rw [← hG1]; exact upd_same
      have fG1 : ∀ r, G1 r = none → H r = none := fun r z => sG1.free z
      refine ⟨_, rfl, fun y0 ey hy hey hne2 => ?_⟩
      refine ⟨y0, ey, x0, rfl, upd_same, rfl, ?_⟩
      rw [upd_upd]
      have f2 : (upd G1 ey (.own y0)) y0 = none := by rw [upd_ne hne2.symm]; exact hy
      have s2 : ∀ o, Same G1 (upd (upd G1 ey (.own y0)) y0 o) := fun o => (same_upd hey).trans (same_upd f2)
      generalize hG2 : upd (upd G1 ey (.own y0)) y0 (.ins A.cP ey (pmF x0 ⟨0, 0, false, 0, false, false⟩)) = G2
      have sG2 : Same G1 G2 := by rw [← hG2]; exact s2 _
      have yG2 : G2 y0 = some (.ins A.cP ey (pmF x0 ⟨0, 0, false, 0, false, false⟩)) := by rw [← hG2]; exact upd_same
      have xG2 := sG2 _ _ xG1
      have lG2 := sG2 _ _ (sG1 _ _ hl)
      refine ⟨_, rfl, T.wL lG2 ?_⟩
      refine ⟨(by show 1 ≤ sizeLine; decide), fun r hr0 => ?_⟩
      obtain ⟨n1, hr2⟩ := upd_free hr0
      have yl : y0 ≠ l := ne_of yG2 lG2 (fun z => ne_LP z.symm)
      have xl : x0 ≠ l := ne_of xG2 lG2 (fun z => ne_LS z.symm)
      have s3 : ∀ a o, G2 a = some o → a ≠ l → (upd (upd G2 l (.ins A.cL dl (lineF (.ref y0)))) r (.lst [.int 0])) a = some o := fun a o h1 h2 => by
        rw [upd_ne (ne_of_none h1 hr2), upd_ne h2]
        exact h1
      refine k _ r (sG1.free (sG2.free hr2)) upd_same ⟨dl, y0, ey, x0, dy, _, by rw [upd_ne n1.symm, upd_same], s3 _ _ yG2 yl, ?_, Rel.start hR, calm_start hR⟩ fun a o h1 h2 => s3 a o (sG2 _ _ (sG1 _ _ h1)) h2
      have := s3 _ _ xG2 xl
      rw [ec] at this
      exact this
def spLr (A : Ad) : Sp := fun vs H Q _ => ∃ (l b : Addr) (h : Sn71.Heart) (x : List Int) (n r : Int), vs = [.ref l, .int (x.length : Int), .int n, .int r, .ref b] ∧ LineAt A H l (some h) ∧ H b = some (.lst (x.map V.int)) ∧ x.length ≤ 4096 ∧ (∀ y ∈ x, 0 ≤ y) ∧
  After A H l (stp (some h) [[1, (x.length : Int), n, r], x]) Q
theorem sc_lr : FnScope ["self", "m", "n", "most", "beats", "changed", "things"] ["self", "m", "n", "most", "beats"] (defScope s_lr) := ⟨rfl, rfl, rfl, by decide +kernel, rfl, by decide +kernel, by decide +kernel⟩
theorem ok_lr (T : Tx K mg A) : FnOk P w K mg base CX0 4 A.f_lr A.d_lr ["self", "m", "n", "most", "beats"] (spLr A) := by
  have Gro : FnOk P w K mg base CX0 1 A.f_ro A.d_ro ["m", "n", "most"] spRo := ok_ro T
  have Gbo : FnOk P w K mg base CX0 2 A.f_bo A.d_bo ["beats", "n"] spBo := ok_bo T
  have Gtw : FnOk P w K mg base CX0 3 A.f_tw A.d_tw ["self"] (spTw A) := ok_tw T
  have Ggo : FnOk P w K mg base CX0 3 A.f_go A.d_go ["pacemaker", "n", "most", "beats"] (spGo A) := ok_go T
  refine T.lr.fn.ok sc_lr (fun vs H Q E h => ?_) (fun cdv A' outer s H vs Q E hr h => ?_)
  · obtain ⟨l, b, h, x, n, r, rfl, _⟩ := h
    rfl
  · obtain ⟨l, b, h, x, n, r, rfl, hL, hb, hx4, hx0, k⟩ := h
    have hr1 : Room 1 _ := hr.mono (by decide)
    have hr2 : Room 2 _ := hr.mono (by decide)
    refine ⟨_, pss_cons (ps_if (PW.pt (pw_or (pt_not (pt_val (pe_call Gro hr1 rfl T.ro.mg T.ro.fn.kp T.ro.bd .nil pass0 (pa_cons (pv 1) (pa_cons (pv 2) (pa_cons (pv 3) pa_nil))))))
          (pw_or1 (pt_not (pt_val (pe_call Gbo hr2 rfl T.bo.mg T.bo.fn.kp T.bo.bd .nil pass0 (pa_cons (pv 4) (pa_cons (pv 2) pa_nil))))))))
        (pss_one (ps_ret (pe_lst (pa_cons (pe_un un_neg pe_int) pa_nil)))) pss_nil)
      (pss_cons (ps_set (i := 5) sc_lr.nd rfl (Or.inl rfl) (pe_meth0 (pe_fld (pv 0) rfl) T.P T.tw.mt Gtw hr T.tw.bd .nil pass0))
      (pss_cons (ps_set (i := 6) sc_lr.nd rfl (Or.inl rfl) (pe_call Ggo hr rfl T.go.mg T.go.fn.kp T.go.bd .nil pass0 (pa_cons (pv 5) (pa_cons (pv 2) (pa_cons (pv 3) (pa_cons (pv 4) pa_nil))))))
      (pss_cons (ps_if (pt_cmp (pc_gt (pe_callB call_len_seq (by rfl) T.len PySem.boot_len (pa_cons (pv 6) pa_nil)) (pv 3)))
        (pss_one (ps_ret (pe_lst (pa_cons (pe_un un_neg pe_int) pa_nil)))) pss_nil)
      (pss_cons (ps_fld (pv 0) (pv 5) rfl)
      (pss_one (ps_ret (pe_op op_cat (pe_lst (pa_cons (pe_callB call_len_seq (by rfl) T.len PySem.boot_len (pa_cons (pv 6) pa_nil)) pa_nil)) (pv 6)))))))), ?_⟩
    rw [step_run hx0] at k
    have two : okR (x.length : Int) n r = false ∨ okB 1 n x = false → ∀ r2, H r2 = none → Q (.ref r2) (upd H r2 (.lst [.int (-2)])) := fun z r2 h2 => by
      have e : (okR (x.length : Int) n r && okB 1 n x) = false := by
        rcases z with z | z <;> rw [z] <;> simp
      rw [if_pos e] at k
      exact k _ r2 h2 upd_same (hL.same (same_upd h2)) fun a o h1 _ => same_upd h2 a o h1
    refine ⟨_, rfl, _, rfl, _, rfl, _, n, r, rfl, _, rfl, ite2 (fun h1 => ?_) (fun h1 => ?_)⟩
    · exact iteT ⟨_, rfl, (by show 1 ≤ sizeLine; decide), fun r2 h2 => two (.inl (by simpa using h1)) r2 h2⟩
    · have h1' : okR (x.length : Int) n r = true := by simpa using h1
      refine ⟨_, rfl, _, rfl, b, x, n, rfl, hb, _, rfl, ite2 (fun h2 => ?_) (fun h2 => ?_)⟩
      · exact ⟨_, rfl, (by show 1 ≤ sizeLine; decide), fun r2 h3 => two (.inr (by simpa using h2)) r2 h3⟩
      · have h2' : okB 1 n x = true := by simpa using h2
        have hb3 := of_decide_eq_true h1'
        obtain ⟨N, rfl⟩ : ∃ N : Nat, n = (N : Int) := ⟨n.toNat, by omega⟩
        obtain ⟨M, rfl⟩ : ∃ M : Nat, r = (M : Int) := ⟨r.toNat, by omega⟩
        have hbs : H b = some (.lst ((cast (Sn71Neutral.nats x)).map V.int)) := by rw [nats_cast hx0]; exact hb
        have h2c : okB ((1 : Nat) : Int) ((N : Nat) : Int) (cast (Sn71Neutral.nats x)) = true := by rw [nats_cast hx0]; exact h2'
        obtain ⟨hall, hri⟩ := (okB_iff N (Sn71Neutral.nats x) 1).mp h2c
        have hlen : (Sn71Neutral.nats x).length ≤ 4096 := by
          unfold Sn71Neutral.nats
          rw [List.length_map]
          exact hx4
        rw [h1', h2', if_neg (by simp)] at k
        have hN : ((N : Int)).toNat = N := by omega
        rw [hN] at k
        generalize Sn71Neutral.nats x = lN at hbs hall hri hlen k
        have hL' := hL
        obtain ⟨dl, p, dx, s, ds, q, hl, hp, hs, hR, hc⟩ := hL
        -- changed = self.pacemaker.twin()
        refine ⟨_, rfl, T.rL hl ⟨p, dx, _, rfl, hp, noP s q (by decide +kernel), p, dx, s, q, rfl, hp, fun y ey hy hey hne => ?_⟩⟩
        have f1 : (upd H ey (.own y)) y = none := by rw [upd_ne hne.symm]; exact hy
        have s1 : Same H (upd (upd H ey (.own y)) y (.ins A.cP ey (pmF s q))) := (same_upd hey).trans (same_upd f1)
        generalize hG1 : upd (upd H ey (.own y)) y (.ins A.cP ey (pmF s q)) = G1 at s1
        have yG1 : G1 y = some (.ins A.cP ey (pmF s q)) := by rw [← hG1]; exact upd_same
        -- things = go_on(changed, n, most, beats)
        refine ⟨_, rfl, _, rfl, _, rfl, _, rfl, y, ey, s, ds, b, q, h, lN, N, M, rfl, yG1, s1 _ _ hs, s1 _ _ hbs, hR, hc, hri, fun z hz => (hall z hz).1, hlen, by omega, fun H' rr ts q2 hr0 hr' hp' fr hts ge => ?_⟩
        have sH : ∀ a o, H a = some o → H' a = some o := fun a o h3 => by
          rw [fr a (ne_of_none h3 hy) (ne_of_none (s1 _ _ h3) hr0)]
          exact s1 _ _ h3
        refine ⟨_, rfl, rr, _, rfl, .inl (SqL.of hr'), _, rfl, _, _, rfl, rfl, _, rfl, ite2 (fun h3 => ?_) (fun h3 => ?_)⟩
        · have h3' : M < ts.length := by
            have := of_decide_eq_true h3
            rw [List.length_map] at this
            omega
          have e : (M : Int) < ((Sn71.told (Sn71.run h (Sn71.at_ lN N)).2).length : Int) := by
            rcases ge with ⟨e, _⟩ | ⟨_, e⟩
            · rw [e] at h3'
              simp only [cast, List.length_map] at h3'
              omega
            · omega
          rw [if_pos e] at k
          refine ⟨_, rfl, (by show 1 ≤ sizeLine; decide), fun r2 h4 => ?_⟩
          have s2 : Same H (upd H' r2 (.lst [.int (-3)])) := fun a o h5 => same_upd h4 a o (sH a o h5)
          have fr2 : H r2 = none := by
            cases z : H r2 with
            | none => rfl
            | some o =>
              rw [sH _ _ z] at h4
              cases h4
          exact k _ r2 fr2 upd_same (hL'.same s2) fun a o h5 _ => s2 a o h5
        · have h3' : ts.length ≤ M := by
            have : ¬ ((M : Int) < (((ts.map V.int).length : Nat) : Int)) := fun z => h3 (decide_eq_true z)
            rw [List.length_map] at this
            omega
          rcases ge with ⟨e1, e2, e3, e4⟩ | ⟨e1, _⟩
          · have e : ¬ (M : Int) < ((Sn71.told (Sn71.run h (Sn71.at_ lN N)).2).length : Int) := by
              rw [e1] at h3'
              simp only [cast, List.length_map] at h3'
              omega
            rw [if_neg e] at k
            have hlH := sH _ _ hl
            refine ⟨_, rfl, _, rfl, T.wL hlH ?_⟩
            have rl : rr ≠ l := ne_of hr' hlH (by intro z; cases z)
            have yl : y ≠ l := ne_of hp' hlH (fun z => ne_LP z.symm)
            have sl : s ≠ l := ne_of (sH _ _ hs) hlH (fun z => ne_LS z.symm)
            generalize hG2 : upd H' l (.ins A.cL dl (lineF (.ref y))) = G2
            have rG2 : G2 rr = some (.lst (ts.map V.int)) := by rw [← hG2, upd_ne rl]; exact hr'
            have lG2 : G2 l = some (.ins A.cL dl (lineF (.ref y))) := by rw [← hG2]; exact upd_same
            have yG2 : G2 y = some (.ins A.cP ey (pmF s q2)) := by rw [← hG2, upd_ne yl]; exact hp'
            have sG2 : G2 s = some (.ins A.cS ds (setF (cfgOf h.set))) := by rw [← hG2, upd_ne sl]; exact sH _ _ hs
            have kG2 : ∀ a o, H a = some o → a ≠ l → G2 a = some o := fun a o h5 h6 => by rw [← hG2, upd_ne h6]; exact sH a o h5
            refine ⟨_, rfl, rr, _, rfl, .inl (SqL.of rG2), (by show 1 ≤ sizeLine; decide), fun r2 h4 => ?_⟩
            refine ⟨_, rfl, r2, rr, _, _, rfl, rfl, upd_same, same_upd h4 _ _ rG2, (by rw [List.length_map, sizeLine_eq]; simp only [List.length_cons, List.length_nil]; omega), fun r3 h5 => ?_⟩
            obtain ⟨n3, h6⟩ := upd_free h5
            have s3 : Same G2 (upd (upd G2 r2 (.lst [.int ((ts.map V.int).length : Int)])) r3 (.lst ([.int ((ts.map V.int).length : Int)] ++ ts.map V.int))) := (same_upd h4).trans (same_upd h5)
            have fr3 : H r3 = none := by
              cases z : H r3 with
              | none => rfl
              | some o =>
                by_cases zl : r3 = l
                · subst zl
                  rw [lG2] at h6
                  cases h6
                · rw [kG2 _ _ z zl] at h6
                  cases h6
            refine k _ r3 fr3 ?_ ⟨dl, y, ey, s, ds, q2, s3 _ _ lG2, s3 _ _ yG2, by rw [e4]; exact s3 _ _ sG2, e2, by rw [e4]; exact e3⟩ fun a o h7 h8 => s3 _ _ (kG2 a o h7 h8)
            rw [upd_same]
            have el : (ts.map V.int).length = (Sn71.told (Sn71.run h (Sn71.at_ lN N)).2).length := by
              rw [List.length_map, e1]
              simp only [cast, List.length_map]
            rw [el, e1]
            rfl
          · omega
def spLs (A : Ad) : Sp := fun vs H Q _ => ∃ (l : Addr) (h : Sn71.Heart), vs = [.ref l] ∧ LineAt A H l (some h) ∧ After A H l (stp (some h) [[2]]) Q
theorem sc_ls : FnScope ["self", "kept"] ["self"] (defScope s_ls) := ⟨rfl, rfl, rfl, by decide +kernel, rfl, by decide +kernel, by decide +kernel⟩
theorem ok_ls (T : Tx K mg A) : FnOk P w K mg base CX0 1 A.f_ls A.d_ls ["self"] (spLs A) := by
  refine T.ls.fn.ok sc_ls (fun vs H Q E h => ?_) (fun cdv A' outer s H vs Q E hr h => ?_)
  · obtain ⟨l, h, rfl, _⟩ := h
    rfl
  · obtain ⟨l, h, rfl, hL, k⟩ := h
    rw [step_state] at k
    have hL' := hL
    obtain ⟨dl, p, dx, s, ds, q, hl, hp, hs, hR, hc⟩ := hL
    refine ⟨_, pss_cons (ps_set (i := 1) sc_ls.nd rfl (Or.inl rfl) (pe_fld (pv 0) rfl))
      (pss_one (ps_ret (pe_lst (pa_cons pe_int (pa_cons (pe_fld (pv 1) rfl) (pa_cons (pe_fld (pv 1) rfl) (pa_cons (pe_ifExp (pt_val (pe_fld (pv 1) rfl)) pe_int pe_int) (pa_cons (pe_fld (pv 1) rfl) pa_nil)))))))), ?_⟩
    refine ⟨_, rfl, T.rL hl ?_⟩
    have fin : ∀ (b : Int) (r : Addr), H r = none → (b = if h.waits.isSome = true then 1 else 0) → Q (.ref r) (upd H r (.lst [.int 0, .int q.v, .int q.a, .int b, .int q.wd])) := fun b r hr0 hb => by
      refine k _ r hr0 ?_ (hL'.same (same_upd hr0)) fun a o h1 _ => same_upd hr0 a o h1
      rw [upd_same, hb, hR.v, hR.a, hR.wd]
      rfl
    refine ⟨_, rfl, T.rP_v hp ⟨_, rfl, T.rP_a hp ⟨_, rfl, T.rP_wg hp ⟨_, rfl, ite2 (fun h1 => ?_) (fun h1 => ?_)⟩⟩⟩⟩
    · rw [hR.wg] at h1
      exact ⟨_, rfl, T.rP_wd hp ⟨(by show 5 ≤ sizeLine; decide), fun r hr0 => fin 1 r hr0 (by rw [if_pos h1])⟩⟩
    · rw [hR.wg] at h1
      exact ⟨_, rfl, T.rP_wd hp ⟨(by show 5 ≤ sizeLine; decide), fun r hr0 => fin 0 r hr0 (by rw [if_neg h1])⟩⟩
/-! ### the one list -/
def spRe (K : PySem.W.Frag) : Sp := fun vs H Q _ => ∃ (a : Addr) (ns : List Int) (i : Int) (j : Nat) (z : Int), vs = [.ref a, .int i] ∧ i = (j : Int) ∧ SqL K H a (ns.map V.int) ∧ ns[j]? = some z ∧ Q (.int (i + 1 + mx z 0)) H
theorem sc_re : FnScope ["calls", "at"] ["calls", "at"] (defScope s_re) := ⟨rfl, rfl, rfl, by decide +kernel, rfl, by decide +kernel, by decide +kernel⟩
theorem ok_re (T : Tx K mg A) : FnOk P w K mg base CX0 1 A.f_re A.d_re ["calls", "at"] (spRe K) := by
  refine T.re.fn.ok sc_re (fun vs H Q E h => ?_) (fun cdv A' outer s H vs Q E hr h => ?_)
  · obtain ⟨a, ns, i, j, z, rfl, _⟩ := h
    rfl
  · obtain ⟨a, ns, i, j, z, rfl, hi, hS, hz, k⟩ := h
    refine ⟨_, pss_one (ps_ret (pe_op op_add (pe_op op_add (pv 1) pe_int) (pe_callB (call_max2 rfl) (by rfl) T.max boot_max (pa_cons (pe_ix ix_list (pv 0) (pv 1) (fun _ _ => rfl)) (pa_cons pe_int pa_nil))))), ?_⟩
    exact ⟨_, rfl, _, _, rfl, rfl, _, rfl, _, rfl, a, _, _, _, rfl, rfl, hS, at_of (j := j) hi (get_map hz), _, _, rfl, _, _, rfl, rfl, k⟩
theorem cut_map {ns : List Int} {j k : Nat} {lo hi : Int} (h : j + k ≤ ns.length) (e1 : lo = (j : Int)) (e2 : hi = ((j + k : Nat) : Int)) : cutV (ns.map V.int) (some lo) (some hi) = ((ns.drop j).take k).map V.int := by
  subst e1 e2
  unfold cutV
  rw [HT.sIx_nat, HT.sIx_nat, List.length_map, Nat.min_eq_left (by omega : j ≤ ns.length), Nat.min_eq_left h, ← List.map_drop, ← List.map_take, show j + k - j = k by omega]
def spAn (K : PySem.W.Frag) : Sp := fun vs H Q _ => ∃ (a : Addr) (ns : List Int), vs = [.ref a] ∧ SqL K H a (ns.map V.int) ∧ PySn71.answers_asked ns = true ∧ ∀ (H' : Hp) (p : Addr), H' p = some (.lst ((PySn71.answers ns).map V.int)) → Q (.ref p) H'
theorem sc_an : FnScope ["calls", "line", "given", "at", "end", "answer"] ["calls"] (defScope s_an) := ⟨rfl, rfl, rfl, by decide +kernel, rfl, by decide +kernel, by decide +kernel⟩
/-- between two calls -/
def anW (A : Ad) (H : Hp) (a l g : Addr) (ns : List Int) : Nat → L2.St → Hp → Prop := fun m σ H' =>
  ∃ (i : Nat) (gs : List Int) (st : Option Sn71.Heart) (cs : List (List (List Int))) (k : Nat) (v4 v5 : Option V), σ = [some (.ref a), some (.ref l), some (.ref g), some (.int i), v4, v5] ∧ m = ns.length - i ∧ Left ns i gs st cs k ∧
    LineAt A H' l st ∧ H' g = some (.lst (gs.map V.int)) ∧ Same H H'
theorem ok_an (T : Tx K mg A) : FnOk P w K mg base CX0 5 A.f_an A.d_an ["calls"] (spAn K) := by
  have Gli : FnOk P w K mg base CX0 1 A.f_li A.d_li ["self"] (spLi A) := ok_li T
  have Glb : FnOk P w K mg base CX0 3 A.f_lb A.d_lb ["self", "numbers"] (spLb A) := ok_lb T
  have Glr : FnOk P w K mg base CX0 4 A.f_lr A.d_lr ["self", "m", "n", "most", "beats"] (spLr A) := ok_lr T
  have Gls : FnOk P w K mg base CX0 1 A.f_ls A.d_ls ["self"] (spLs A) := ok_ls T
  have Gre : FnOk P w K mg base CX0 1 A.f_re A.d_re ["calls", "at"] (spRe K) := ok_re T
  refine T.an.fn.ok sc_an (fun vs H Q E h => ?_) (fun cdv A' outer s H vs Q E hr h => ?_)
  · obtain ⟨a, ns, rfl, _⟩ := h
    rfl
  · obtain ⟨a, ns, rfl, hS, hask, k⟩ := h
    have hr1 : Room 1 _ := hr.mono (by decide)
    have hr2 : Room 2 _ := hr.mono (by decide)
    have hr3 : Room 3 _ := hr.mono (by decide)
    refine ⟨_, pss_cons (ps_set (i := 1) sc_an.nd rfl (Or.inl rfl) (pe_make0 T.kL Gli hr2 rfl T.gL T.li.2 .nil pass0))
      (pss_cons (ps_set (i := 2) sc_an.nd rfl (Or.inl rfl) (pe_lst pa_nil))
      (pss_cons (ps_set (i := 3) sc_an.nd rfl (Or.inl rfl) pe_int)
      (pss_cons (ps_while PassesOwn.never (pt_cmp (pc_lt (pv 3) (pe_callB call_len_seq (by rfl) T.len PySem.boot_len (pa_cons (pv 0) pa_nil))))
        (pss_cons (ps_if (pt_cmp (pc_eqI (pe_ix ix_list (pv 0) (pv 3) (fun _ _ => rfl)) (pe_gi rfl T.c_BEGIN)))
          (pss_cons (ps_set (i := 4) sc_an.nd rfl (Or.inl rfl) (pe_call Gre hr1 rfl T.re.mg T.re.fn.kp T.re.bd .nil pass0 (pa_cons (pv 0) (pa_cons (pe_op op_add (pv 3) pe_int) pa_nil))))
          (pss_one (ps_set (i := 5) sc_an.nd rfl (Or.inl rfl) (pe_meth (pv 1) T.L T.lb.mt Glb hr3 T.lb.bd .nil pass0 (pa_cons (pe_slice sl_list (pv 0) (po_some (pe_op op_add (pv 3) pe_int)) (po_some (pv 4))) pa_nil)))))
          (pss_one (ps_if (pt_cmp (pc_eqI (pe_ix ix_list (pv 0) (pv 3) (fun _ _ => rfl)) (pe_gi rfl T.c_RUN)))
            (pss_cons (ps_set (i := 4) sc_an.nd rfl (Or.inl rfl) (pe_call Gre hr1 rfl T.re.mg T.re.fn.kp T.re.bd .nil pass0 (pa_cons (pv 0) (pa_cons (pe_op op_add (pv 3) pe_int) pa_nil))))
            (pss_one (ps_set (i := 5) sc_an.nd rfl (Or.inl rfl) (pe_meth (pv 1) T.L T.lr.mt Glr hr T.lr.bd .nil pass0
              (pa_cons (pe_ix ix_list (pv 0) (pe_op op_add (pv 3) pe_int) (fun _ _ => rfl)) (pa_cons (pe_ix ix_list (pv 0) (pe_op op_add (pv 3) pe_int) (fun _ _ => rfl)) (pa_cons (pe_ix ix_list (pv 0) (pe_op op_add (pv 3) pe_int) (fun _ _ => rfl))
              (pa_cons (pe_slice sl_list (pv 0) (po_some (pe_op op_add (pv 3) pe_int)) (po_some (pv 4))) pa_nil))))))))
            (pss_cons (ps_set (i := 4) sc_an.nd rfl (Or.inl rfl) (pe_op op_add (pv 3) pe_int))
            (pss_one (ps_set (i := 5) sc_an.nd rfl (Or.inl rfl) (pe_meth0 (pv 1) T.L T.ls.mt Gls hr1 T.ls.bd .nil pass0)))))))
        (pss_cons (ps_expr (pe_bm PySem.F.plainAttrs_list PySem.F.slot_list_append PySem.F.type_list_append mt_append (pv 2) (pa_cons (pe_callB call_len_seq (by rfl) T.len PySem.boot_len (pa_cons (pv 5) pa_nil)) pa_nil)))
        (pss_cons (ps_expr (pe_bm PySem.F.plainAttrs_list PySem.F.slot_list_extend PySem.F.type_list_extend mt_extend (pv 2) (pa_cons (pv 5) pa_nil)))
        (pss_one (ps_set (i := 3) sc_an.nd rfl (Or.inl rfl) (pv 4)))))))
      (pss_one (ps_ret (pv 2)))))), ?_⟩
    -- line = Line()
    intro l dl hl0 hdl hne
    refine ⟨l, dl, rfl, upd_same, rfl, ?_⟩
    rw [upd_upd]
    have f1 : (upd H dl (.own l)) l = none := by rw [upd_ne hne.symm]; exact hl0
    have s1 : Same H (upd (upd H dl (.own l)) l (.ins A.cL dl (lineF .non))) := (same_upd hdl).trans (same_upd f1)
    generalize hG1 : upd (upd H dl (.own l)) l (.ins A.cL dl (lineF .non)) = G1 at s1
    have lG1 : G1 l = some (.ins A.cL dl (lineF .non)) := by rw [← hG1]; exact upd_same
    -- given = []
    refine ⟨Nat.zero_le _, fun g hg0 => ?_⟩
    obtain ⟨cs0, L0⟩ := Left.start hask
    have gH : H g = none := s1.free hg0
    refine ⟨anW A H a l g ns, ⟨_, 0, [], none, cs0, 0, none, none, rfl, rfl, L0, ⟨dl, same_upd hg0 _ _ lG1⟩, upd_same, s1.trans (same_upd hg0)⟩, ?_⟩
    rintro m σ H1 ⟨i, gs, st, cs, kk, v4, v5, rfl, rfl, L, hL, hg, sH⟩
    have hSq : SqL K H1 a (ns.map V.int) := sH.seq hS
    have hil := L.il
    refine ⟨_, rfl, _, rfl, a, _, rfl, .inl hSq, _, _, rfl, rfl, _, rfl, ite2 (fun hi => ?_) (fun hi => ?_)⟩
    · have hi' : i < ns.length := by
        have := of_decide_eq_true hi
        rw [List.length_map] at this
        omega
      refine ⟨fun σ' H'' => ∃ m', m' < ns.length - i ∧ anW A H a l g ns m' σ' H'', fun _ _ z => z, ?_⟩
      obtain ⟨dl1, vl, hl1⟩ := hL.any
      have gl : g ≠ l := ne_of hg hl1 (by intro z; cases z)
      -- behind the answer
      have fin : ∀ (H2 : Hp) (r : Addr) (y : Option Sn71.Heart × List Int) (j : Nat) (cs' : List (List (List Int))) (k' : Nat), i < j → Left ns j (gs ++ ((y.2.length : Int) :: y.2)) y.1 cs' k' → H1 r = none → H2 r = some (.lst (y.2.map V.int)) → LineAt A H2 l y.1 → (∀ b o, H1 b = some o → b ≠ l → H2 b = some o) →
          ∀ H3, H3 = upd (upd H2 g (.lst (gs.map V.int ++ [.int ((y.2.map V.int).length : Int)]))) g (.lst ((gs.map V.int ++ [.int ((y.2.map V.int).length : Int)]) ++ y.2.map V.int)) →
          ∃ m', m' < ns.length - i ∧ anW A H a l g ns m' [some (.ref a), some (.ref l), some (.ref g), some (.int (j : Int)), some (.int (j : Int)), some (.ref r)] H3 := by
        intro H2 r y j cs' k' hj L2 h0 h1 h2 h3 H3 e
        rw [upd_upd] at e
        subst e
        have hg2 : H2 g = some (.lst (gs.map V.int)) := h3 g _ hg gl
        have hjl := L2.il
        refine ⟨ns.length - j, by omega, j, _, y.1, cs', k', _, _, rfl, rfl, L2, ?_, ?_, ?_⟩
        · cases hy : y.1 with
          | none =>
            rw [hy] at h2
            obtain ⟨d, e1⟩ := h2
            exact ⟨d, by rw [upd_ne gl.symm]; exact e1⟩
          | some h =>
            rw [hy] at h2
            obtain ⟨d, p, dx, s, ds, q, e1, e2, e3, r⟩ := h2
            have pg : p ≠ g := ne_of e2 hg2 (by intro z; cases z)
            have sg : s ≠ g := ne_of e3 hg2 (by intro z; cases z)
            exact ⟨d, p, dx, s, ds, q, by rw [upd_ne gl.symm]; exact e1, by rw [upd_ne pg]; exact e2, by rw [upd_ne sg]; exact e3, r⟩
        · rw [upd_same, List.map_append, List.map_cons, List.append_assoc, List.length_map]
          rfl
        · intro b o hb
          have hbg : b ≠ g := ne_of_none hb gH
          have hbl : b ≠ l := ne_of_none hb hl0
          rw [upd_ne hbg]
          exact h3 b o (sH b o hb) hbl
      have tl1 : ∀ (H2 : Hp), (∀ b o, H1 b = some o → b ≠ l → H2 b = some o) → H2 g = some (.lst (gs.map V.int)) := fun H2 h3 => h3 g _ hg gl
      rcases L.turn hi' with ⟨x, cs', e0, e1, hx7, ex, hn, hx0, L2, hbig⟩ | ⟨h, n, mm, x, cs', est, e0, e1, e2, e3, ex, hn, hx4, hx0, L2, hbig⟩ | ⟨h, cs', est, e0, L2, hbig⟩
      · -- begin
        refine ⟨_, rfl, _, rfl, a, _, _, _, rfl, rfl, hSq, at_of (j := i) rfl (get_map e0), _, _, rfl, rfl, _, rfl, ite2 (fun _ => ?_) (fun z => (z (decide_eq_true rfl)).elim)⟩
        refine ⟨_, rfl, _, rfl, _, _, rfl, rfl, a, ns, _, i + 1, 7, rfl, (by omega), hSq, e1, ?_⟩
        rw [show (i : Int) + 1 + 1 + mx 7 0 = ((i + 9 : Nat) : Int) by show (i : Int) + 1 + 1 + 7 = _; omega]
        refine ⟨_, rfl, l, dl1, _, rfl, hl1, noL _ (by decide +kernel), _, rfl, _, rfl, _, _, rfl, rfl, _, rfl, _, rfl, _, rfl, a, _, rfl, hSq, fun b hb0 => ?_⟩
        rw [cut_map (j := i + 2) (k := 7) (by omega) (by omega) (by omega), ← ex]
        have sb : Same H1 (upd H1 b (.lst (x.map V.int))) := same_upd hb0
        refine ⟨l, b, st, x, rfl, hL.same sb, upd_same, hx7, hx0, fun H2 r h0 h1 h2 h3 => ?_⟩
        have h3' : ∀ b o, H1 b = some o → b ≠ l → H2 b = some o := fun b o z1 z2 => h3 b o (sb b o z1) z2
        have hg2 := tl1 H2 h3'
        have rg : r ≠ g := fun z => by
          rw [z] at h0
          rw [sb g _ hg] at h0
          cases h0
        refine ⟨_, rfl, .inl ⟨rfl, _, SqL.of hg2⟩, _, rfl, r, _, rfl, .inl (SqL.of h1), g, _, _, rfl, rfl, hg2, (by rw [List.length_map]; exact line_big (by omega)), ?_⟩
        refine ⟨_, rfl, .inl ⟨rfl, _, SqL.of upd_same⟩, _, rfl, g, r, _, _, rfl, rfl, upd_same, (by rw [upd_ne rg]; exact h1), (by rw [List.length_append, List.length_map, List.length_map]; simp only [List.length_cons, List.length_nil]; exact Nat.le_of_lt (line_big (by omega))), ?_⟩
        exact ⟨_, rfl, fin H2 r (stp st [[0], x]) (i + 9) cs' _ (by omega) L2 (sb.free h0) h1 h2 h3' _ rfl⟩
      · -- run
        subst est
        refine ⟨_, rfl, _, rfl, a, _, _, _, rfl, rfl, hSq, at_of (j := i) rfl (get_map e0), _, _, rfl, rfl, _, rfl, ite2 (fun z => absurd (of_decide_eq_true z) (by decide)) (fun _ => ?_)⟩
        refine ⟨_, rfl, _, rfl, a, _, _, _, rfl, rfl, hSq, at_of (j := i) rfl (get_map e0), _, _, rfl, rfl, _, rfl, ite2 (fun _ => ?_) (fun z => (z (decide_eq_true rfl)).elim)⟩
        refine ⟨_, rfl, _, rfl, _, _, rfl, rfl, a, ns, _, i + 3, _, rfl, (by omega), hSq, e3, ?_⟩
        rw [show (i : Int) + 3 + 1 + mx (x.length : Int) 0 = ((i + 4 + x.length : Nat) : Int) by unfold mx; split <;> omega]
        refine ⟨_, rfl, l, dl1, _, rfl, hl1, noL _ (by decide +kernel), _, rfl, _, rfl, _, _, rfl, rfl, a, _, _, _, rfl, rfl, hSq, at_of (j := i + 3) (by omega) (get_map e3),
          _, rfl, _, rfl, _, _, rfl, rfl, a, _, _, _, rfl, rfl, hSq, at_of (j := i + 1) (by omega) (get_map e1), _, rfl, _, rfl, _, _, rfl, rfl, a, _, _, _, rfl, rfl, hSq, at_of (j := i + 2) (by omega) (get_map e2),
          _, rfl, _, rfl, _, _, rfl, rfl, _, rfl, _, rfl, _, rfl, a, _, rfl, hSq, fun b hb0 => ?_⟩
        rw [cut_map (j := i + 4) (k := x.length) (by omega) (by omega) (by omega), ← ex]
        have sb : Same H1 (upd H1 b (.lst (x.map V.int))) := same_upd hb0
        refine ⟨l, b, h, x, n, mm, rfl, hL.same sb, upd_same, hx4, hx0, fun H2 r h0 h1 h2 h3 => ?_⟩
        have h3' : ∀ b o, H1 b = some o → b ≠ l → H2 b = some o := fun b o z1 z2 => h3 b o (sb b o z1) z2
        have hg2 := tl1 H2 h3'
        have rg : r ≠ g := fun z => by
          rw [z] at h0
          rw [sb g _ hg] at h0
          cases h0
        refine ⟨_, rfl, .inl ⟨rfl, _, SqL.of hg2⟩, _, rfl, r, _, rfl, .inl (SqL.of h1), g, _, _, rfl, rfl, hg2, (by rw [List.length_map]; exact line_big (by omega)), ?_⟩
        refine ⟨_, rfl, .inl ⟨rfl, _, SqL.of upd_same⟩, _, rfl, g, r, _, _, rfl, rfl, upd_same, (by rw [upd_ne rg]; exact h1), (by rw [List.length_append, List.length_map, List.length_map]; simp only [List.length_cons, List.length_nil]; exact Nat.le_of_lt (line_big (by omega))), ?_⟩
        exact ⟨_, rfl, fin H2 r (stp (some h) [[1, (x.length : Int), n, mm], x]) (i + 4 + x.length) cs' _ (by omega) L2 (sb.free h0) h1 h2 h3' _ rfl⟩
      · -- state
        subst est
        refine ⟨_, rfl, _, rfl, a, _, _, _, rfl, rfl, hSq, at_of (j := i) rfl (get_map e0), _, _, rfl, rfl, _, rfl, ite2 (fun z => absurd (of_decide_eq_true z) (by decide)) (fun _ => ?_)⟩
        refine ⟨_, rfl, _, rfl, a, _, _, _, rfl, rfl, hSq, at_of (j := i) rfl (get_map e0), _, _, rfl, rfl, _, rfl, ite2 (fun z => absurd (of_decide_eq_true z) (by decide)) (fun _ => ?_)⟩
        refine ⟨_, rfl, _, _, rfl, rfl, ?_⟩
        refine ⟨_, rfl, l, dl1, _, rfl, hl1, noL _ (by decide +kernel), l, h, rfl, hL, fun H2 r h0 h1 h2 h3' => ?_⟩
        have hg2 := tl1 H2 h3'
        have rg : r ≠ g := fun z => by
          rw [z, hg] at h0
          cases h0
        refine ⟨_, rfl, .inl ⟨rfl, _, SqL.of hg2⟩, _, rfl, r, _, rfl, .inl (SqL.of h1), g, _, _, rfl, rfl, hg2, (by rw [List.length_map]; exact line_big (by omega)), ?_⟩
        refine ⟨_, rfl, .inl ⟨rfl, _, SqL.of upd_same⟩, _, rfl, g, r, _, _, rfl, rfl, upd_same, (by rw [upd_ne rg]; exact h1), (by rw [List.length_append, List.length_map, List.length_map]; simp only [List.length_cons, List.length_nil]; exact Nat.le_of_lt (line_big (by omega))), ?_⟩
        exact ⟨_, rfl, fin H2 r (stp (some h) [[2]]) (i + 1) cs' _ (by omega) L2 h0 h1 h2 h3' _ rfl⟩
    · -- the end
      have hi' : i = ns.length := by
        have : ¬ ((i : Int) < (((ns.map V.int).length : Nat) : Int)) := fun z => hi (decide_eq_true z)
        rw [List.length_map] at this
        omega
      subst hi'
      have e := L.stop
      subst e
      exact ⟨_, rfl, k H1 g hg⟩
end
end HP
end
set_option Elab.async false
set_option linter.all false
set_option maxRecDepth 100000
set_option maxHeartbeats 4000000
namespace HP
open PySem PySem.Spec PyProof.Rows L2
/-! ### what the top has written -/
theorem all_mk {P : Program} {w : World} {K : PySem.W.Frag} {h : Heap} {mg : Str → Option Value} {fa cS cP cL : Addr} {t_BEGIN : Tok} {t_RUN : Tok} {t_VENTRICLE_ALONE : Tok} {t_ATRIUM_ALONE : Tok} {t_BOTH : Tok} {t_ATRIUM : Tok} {t_VENTRICLE : Tok} {t_PACED : Tok} {t_TAKEN : Tok} {t_PASSED_OVER : Tok} {t_LONGEST_AGO : Tok} {t_MOST_BEATS : Tok} {t_MOST_MILLISECONDS : Tok} {t_MOST_THINGS : Tok}
    {f_si : Addr} {oc_si kV_si dc_si pm_si cd_si ct_si : Value} {od_si an_si : Option Addr} {sl_si : Array (Option Value)}
    {f_so : Addr} {oc_so kV_so dc_so pm_so cd_so ct_so : Value} {od_so an_so : Option Addr} {sl_so : Array (Option Value)}
    {f_pi : Addr} {oc_pi kV_pi dc_pi pm_pi cd_pi ct_pi : Value} {od_pi an_pi : Option Addr} {sl_pi : Array (Option Value)}
    {f_tw : Addr} {oc_tw kV_tw dc_tw pm_tw cd_tw ct_tw : Value} {od_tw an_tw : Option Addr} {sl_tw : Array (Option Value)}
    {f_lp : Addr} {oc_lp kV_lp dc_lp pm_lp cd_lp ct_lp : Value} {od_lp an_lp : Option Addr} {sl_lp : Array (Option Value)}
    {f_ab : Addr} {oc_ab kV_ab dc_ab pm_ab cd_ab ct_ab : Value} {od_ab an_ab : Option Addr} {sl_ab : Array (Option Value)}
    {f_vb : Addr} {oc_vb kV_vb dc_vb pm_vb cd_vb ct_vb : Value} {od_vb an_vb : Option Addr} {sl_vb : Array (Option Value)}
    {f_qa : Addr} {oc_qa kV_qa dc_qa pm_qa cd_qa ct_qa : Value} {od_qa an_qa : Option Addr} {sl_qa : Array (Option Value)}
    {f_qv : Addr} {oc_qv kV_qv dc_qv pm_qv cd_qv ct_qv : Value} {od_qv an_qv : Option Addr} {sl_qv : Array (Option Value)}
    {f_fe : Addr} {oc_fe kV_fe dc_fe pm_fe cd_fe ct_fe : Value} {od_fe an_fe : Option Addr} {sl_fe : Array (Option Value)}
    {f_ta : Addr} {oc_ta kV_ta dc_ta pm_ta cd_ta ct_ta : Value} {od_ta an_ta : Option Addr} {sl_ta : Array (Option Value)}
    {f_tv : Addr} {oc_tv kV_tv dc_tv pm_tv cd_tv ct_tv : Value} {od_tv an_tv : Option Addr} {sl_tv : Array (Option Value)}
    {f_up : Addr} {oc_up kV_up dc_up pm_up cd_up ct_up : Value} {od_up an_up : Option Addr} {sl_up : Array (Option Value)}
    {f_th : Addr} {oc_th kV_th dc_th pm_th cd_th ct_th : Value} {od_th an_th : Option Addr} {sl_th : Array (Option Value)}
    {f_bm : Addr} {oc_bm kV_bm dc_bm pm_bm cd_bm ct_bm : Value} {od_bm an_bm : Option Addr} {sl_bm : Array (Option Value)}
    {f_bc : Addr} {oc_bc kV_bc dc_bc pm_bc cd_bc ct_bc : Value} {od_bc an_bc : Option Addr} {sl_bc : Array (Option Value)}
    {f_pt : Addr} {oc_pt kV_pt dc_pt pm_pt cd_pt ct_pt : Value} {od_pt an_pt : Option Addr} {sl_pt : Array (Option Value)}
    {f_nm : Addr} {oc_nm kV_nm dc_nm pm_nm cd_nm ct_nm : Value} {od_nm an_nm : Option Addr} {sl_nm : Array (Option Value)}
    {f_go : Addr} {oc_go kV_go dc_go pm_go cd_go ct_go : Value} {od_go an_go : Option Addr} {sl_go : Array (Option Value)}
    {f_ro : Addr} {oc_ro kV_ro dc_ro pm_ro cd_ro ct_ro : Value} {od_ro an_ro : Option Addr} {sl_ro : Array (Option Value)}
    {f_bo : Addr} {oc_bo kV_bo dc_bo pm_bo cd_bo ct_bo : Value} {od_bo an_bo : Option Addr} {sl_bo : Array (Option Value)}
    {f_li : Addr} {oc_li kV_li dc_li pm_li cd_li ct_li : Value} {od_li an_li : Option Addr} {sl_li : Array (Option Value)}
    {f_lb : Addr} {oc_lb kV_lb dc_lb pm_lb cd_lb ct_lb : Value} {od_lb an_lb : Option Addr} {sl_lb : Array (Option Value)}
    {f_lr : Addr} {oc_lr kV_lr dc_lr pm_lr cd_lr ct_lr : Value} {od_lr an_lr : Option Addr} {sl_lr : Array (Option Value)}
    {f_ls : Addr} {oc_ls kV_ls dc_ls pm_ls cd_ls ct_ls : Value} {od_ls an_ls : Option Addr} {sl_ls : Array (Option Value)}
    {f_re : Addr} {oc_re kV_re dc_re pm_re cd_re ct_re : Value} {od_re an_re : Option Addr} {sl_re : Array (Option Value)}
    {f_an : Addr} {oc_an kV_an dc_an pm_an cd_an ct_an : Value} {od_an an_an : Option Addr} {sl_an : Array (Option Value)}
    (X : K.In h) (G : h.Ns mainGlobals mg) (hfa : mg "answers" = some (.ref fa))
    (a_cS : PySem.W.nsIn K mainGlobals "Settings" = some (some (.ref cS)))
    (a_cP : PySem.W.nsIn K mainGlobals "Pacemaker" = some (some (.ref cP)))
    (a_cL : PySem.W.nsIn K mainGlobals "Line" = some (some (.ref cL)))
    (a_si : PySem.W.findIn K (.ref cS) "__init__" = some (some (.ref f_si)))
    (i_si : PySem.W.isFn K (.ref f_si) = true)
    (l_si : K.lookup f_si = some ⟨oc_si, od_si, .func (PySem.W.fnOf "__init__" "Settings.__init__" (defArgs s_si) (defBody s_si) (defScope s_si) .none kV_si dc_si pm_si an_si cd_si ct_si), sl_si⟩)
    (c_si : PySem.W.codeIn K cd_si "Settings.__init__" = true)
    (k_si : PySem.W.keepIn K (.ref f_si) = true)
    (a_so : PySem.W.findIn K (.ref cS) "are_as_told" = some (some (.ref f_so)))
    (i_so : PySem.W.isFn K (.ref f_so) = true)
    (l_so : K.lookup f_so = some ⟨oc_so, od_so, .func (PySem.W.fnOf "are_as_told" "Settings.are_as_told" (defArgs s_so) (defBody s_so) (defScope s_so) .none kV_so dc_so pm_so an_so cd_so ct_so), sl_so⟩)
    (c_so : PySem.W.codeIn K cd_so "Settings.are_as_told" = true)
    (k_so : PySem.W.keepIn K (.ref f_so) = true)
    (a_pi : PySem.W.findIn K (.ref cP) "__init__" = some (some (.ref f_pi)))
    (i_pi : PySem.W.isFn K (.ref f_pi) = true)
    (l_pi : K.lookup f_pi = some ⟨oc_pi, od_pi, .func (PySem.W.fnOf "__init__" "Pacemaker.__init__" (defArgs s_pi) (defBody s_pi) (defScope s_pi) .none kV_pi dc_pi pm_pi an_pi cd_pi ct_pi), sl_pi⟩)
    (c_pi : PySem.W.codeIn K cd_pi "Pacemaker.__init__" = true)
    (k_pi : PySem.W.keepIn K (.ref f_pi) = true)
    (a_tw : PySem.W.findIn K (.ref cP) "twin" = some (some (.ref f_tw)))
    (i_tw : PySem.W.isFn K (.ref f_tw) = true)
    (l_tw : K.lookup f_tw = some ⟨oc_tw, od_tw, .func (PySem.W.fnOf "twin" "Pacemaker.twin" (defArgs s_tw) (defBody s_tw) (defScope s_tw) .none kV_tw dc_tw pm_tw an_tw cd_tw ct_tw), sl_tw⟩)
    (c_tw : PySem.W.codeIn K cd_tw "Pacemaker.twin" = true)
    (k_tw : PySem.W.keepIn K (.ref f_tw) = true)
    (a_lp : PySem.W.findIn K (.ref cP) "let_pass" = some (some (.ref f_lp)))
    (i_lp : PySem.W.isFn K (.ref f_lp) = true)
    (l_lp : K.lookup f_lp = some ⟨oc_lp, od_lp, .func (PySem.W.fnOf "let_pass" "Pacemaker.let_pass" (defArgs s_lp) (defBody s_lp) (defScope s_lp) .none kV_lp dc_lp pm_lp an_lp cd_lp ct_lp), sl_lp⟩)
    (c_lp : PySem.W.codeIn K cd_lp "Pacemaker.let_pass" = true)
    (k_lp : PySem.W.keepIn K (.ref f_lp) = true)
    (a_ab : PySem.W.findIn K (.ref cP) "atrium_beats" = some (some (.ref f_ab)))
    (i_ab : PySem.W.isFn K (.ref f_ab) = true)
    (l_ab : K.lookup f_ab = some ⟨oc_ab, od_ab, .func (PySem.W.fnOf "atrium_beats" "Pacemaker.atrium_beats" (defArgs s_ab) (defBody s_ab) (defScope s_ab) .none kV_ab dc_ab pm_ab an_ab cd_ab ct_ab), sl_ab⟩)
    (c_ab : PySem.W.codeIn K cd_ab "Pacemaker.atrium_beats" = true)
    (k_ab : PySem.W.keepIn K (.ref f_ab) = true)
    (a_vb : PySem.W.findIn K (.ref cP) "ventricle_beats" = some (some (.ref f_vb)))
    (i_vb : PySem.W.isFn K (.ref f_vb) = true)
    (l_vb : K.lookup f_vb = some ⟨oc_vb, od_vb, .func (PySem.W.fnOf "ventricle_beats" "Pacemaker.ventricle_beats" (defArgs s_vb) (defBody s_vb) (defScope s_vb) .none kV_vb dc_vb pm_vb an_vb cd_vb ct_vb), sl_vb⟩)
    (c_vb : PySem.W.codeIn K cd_vb "Pacemaker.ventricle_beats" = true)
    (k_vb : PySem.W.keepIn K (.ref f_vb) = true)
    (a_qa : PySem.W.findIn K (.ref cP) "passes_over_atrium" = some (some (.ref f_qa)))
    (i_qa : PySem.W.isFn K (.ref f_qa) = true)
    (l_qa : K.lookup f_qa = some ⟨oc_qa, od_qa, .func (PySem.W.fnOf "passes_over_atrium" "Pacemaker.passes_over_atrium" (defArgs s_qa) (defBody s_qa) (defScope s_qa) .none kV_qa dc_qa pm_qa an_qa cd_qa ct_qa), sl_qa⟩)
    (c_qa : PySem.W.codeIn K cd_qa "Pacemaker.passes_over_atrium" = true)
    (k_qa : PySem.W.keepIn K (.ref f_qa) = true)
    (a_qv : PySem.W.findIn K (.ref cP) "passes_over_ventricle" = some (some (.ref f_qv)))
    (i_qv : PySem.W.isFn K (.ref f_qv) = true)
    (l_qv : K.lookup f_qv = some ⟨oc_qv, od_qv, .func (PySem.W.fnOf "passes_over_ventricle" "Pacemaker.passes_over_ventricle" (defArgs s_qv) (defBody s_qv) (defScope s_qv) .none kV_qv dc_qv pm_qv an_qv cd_qv ct_qv), sl_qv⟩)
    (c_qv : PySem.W.codeIn K cd_qv "Pacemaker.passes_over_ventricle" = true)
    (k_qv : PySem.W.keepIn K (.ref f_qv) = true)
    (a_fe : PySem.W.findIn K (.ref cP) "feel" = some (some (.ref f_fe)))
    (i_fe : PySem.W.isFn K (.ref f_fe) = true)
    (l_fe : K.lookup f_fe = some ⟨oc_fe, od_fe, .func (PySem.W.fnOf "feel" "Pacemaker.feel" (defArgs s_fe) (defBody s_fe) (defScope s_fe) .none kV_fe dc_fe pm_fe an_fe cd_fe ct_fe), sl_fe⟩)
    (c_fe : PySem.W.codeIn K cd_fe "Pacemaker.feel" = true)
    (k_fe : PySem.W.keepIn K (.ref f_fe) = true)
    (a_ta : PySem.W.findIn K (.ref cP) "time_for_atrium" = some (some (.ref f_ta)))
    (i_ta : PySem.W.isFn K (.ref f_ta) = true)
    (l_ta : K.lookup f_ta = some ⟨oc_ta, od_ta, .func (PySem.W.fnOf "time_for_atrium" "Pacemaker.time_for_atrium" (defArgs s_ta) (defBody s_ta) (defScope s_ta) .none kV_ta dc_ta pm_ta an_ta cd_ta ct_ta), sl_ta⟩)
    (c_ta : PySem.W.codeIn K cd_ta "Pacemaker.time_for_atrium" = true)
    (k_ta : PySem.W.keepIn K (.ref f_ta) = true)
    (a_tv : PySem.W.findIn K (.ref cP) "time_for_ventricle" = some (some (.ref f_tv)))
    (i_tv : PySem.W.isFn K (.ref f_tv) = true)
    (l_tv : K.lookup f_tv = some ⟨oc_tv, od_tv, .func (PySem.W.fnOf "time_for_ventricle" "Pacemaker.time_for_ventricle" (defArgs s_tv) (defBody s_tv) (defScope s_tv) .none kV_tv dc_tv pm_tv an_tv cd_tv ct_tv), sl_tv⟩)
    (c_tv : PySem.W.codeIn K cd_tv "Pacemaker.time_for_ventricle" = true)
    (k_tv : PySem.W.keepIn K (.ref f_tv) = true)
    (a_up : PySem.W.findIn K (.ref cP) "until_pace" = some (some (.ref f_up)))
    (i_up : PySem.W.isFn K (.ref f_up) = true)
    (l_up : K.lookup f_up = some ⟨oc_up, od_up, .func (PySem.W.fnOf "until_pace" "Pacemaker.until_pace" (defArgs s_up) (defBody s_up) (defScope s_up) .none kV_up dc_up pm_up an_up cd_up ct_up), sl_up⟩)
    (c_up : PySem.W.codeIn K cd_up "Pacemaker.until_pace" = true)
    (k_up : PySem.W.keepIn K (.ref f_up) = true)
    (a_th : PySem.W.nsIn K mainGlobals "thing" = some (some (.ref f_th)))
    (l_th : K.lookup f_th = some ⟨oc_th, od_th, .func (PySem.W.fnOf "thing" "thing" (defArgs s_th) (defBody s_th) (defScope s_th) .none kV_th dc_th pm_th an_th cd_th ct_th), sl_th⟩)
    (c_th : PySem.W.codeIn K cd_th "thing" = true)
    (k_th : PySem.W.keepIn K (.ref f_th) = true)
    (a_bm : PySem.W.nsIn K mainGlobals "beat_millisecond" = some (some (.ref f_bm)))
    (l_bm : K.lookup f_bm = some ⟨oc_bm, od_bm, .func (PySem.W.fnOf "beat_millisecond" "beat_millisecond" (defArgs s_bm) (defBody s_bm) (defScope s_bm) .none kV_bm dc_bm pm_bm an_bm cd_bm ct_bm), sl_bm⟩)
    (c_bm : PySem.W.codeIn K cd_bm "beat_millisecond" = true)
    (k_bm : PySem.W.keepIn K (.ref f_bm) = true)
    (a_bc : PySem.W.nsIn K mainGlobals "beat_chamber" = some (some (.ref f_bc)))
    (l_bc : K.lookup f_bc = some ⟨oc_bc, od_bc, .func (PySem.W.fnOf "beat_chamber" "beat_chamber" (defArgs s_bc) (defBody s_bc) (defScope s_bc) .none kV_bc dc_bc pm_bc an_bc cd_bc ct_bc), sl_bc⟩)
    (c_bc : PySem.W.codeIn K cd_bc "beat_chamber" = true)
    (k_bc : PySem.W.keepIn K (.ref f_bc) = true)
    (a_pt : PySem.W.nsIn K mainGlobals "pace_if_time" = some (some (.ref f_pt)))
    (l_pt : K.lookup f_pt = some ⟨oc_pt, od_pt, .func (PySem.W.fnOf "pace_if_time" "pace_if_time" (defArgs s_pt) (defBody s_pt) (defScope s_pt) .none kV_pt dc_pt pm_pt an_pt cd_pt ct_pt), sl_pt⟩)
    (c_pt : PySem.W.codeIn K cd_pt "pace_if_time" = true)
    (k_pt : PySem.W.keepIn K (.ref f_pt) = true)
    (a_nm : PySem.W.nsIn K mainGlobals "next_millisecond" = some (some (.ref f_nm)))
    (l_nm : K.lookup f_nm = some ⟨oc_nm, od_nm, .func (PySem.W.fnOf "next_millisecond" "next_millisecond" (defArgs s_nm) (defBody s_nm) (defScope s_nm) .none kV_nm dc_nm pm_nm an_nm cd_nm ct_nm), sl_nm⟩)
    (c_nm : PySem.W.codeIn K cd_nm "next_millisecond" = true)
    (k_nm : PySem.W.keepIn K (.ref f_nm) = true)
    (a_go : PySem.W.nsIn K mainGlobals "go_on" = some (some (.ref f_go)))
    (l_go : K.lookup f_go = some ⟨oc_go, od_go, .func (PySem.W.fnOf "go_on" "go_on" (defArgs s_go) (defBody s_go) (defScope s_go) .none kV_go dc_go pm_go an_go cd_go ct_go), sl_go⟩)
    (c_go : PySem.W.codeIn K cd_go "go_on" = true)
    (k_go : PySem.W.keepIn K (.ref f_go) = true)
    (a_ro : PySem.W.nsIn K mainGlobals "run_is_as_told" = some (some (.ref f_ro)))
    (l_ro : K.lookup f_ro = some ⟨oc_ro, od_ro, .func (PySem.W.fnOf "run_is_as_told" "run_is_as_told" (defArgs s_ro) (defBody s_ro) (defScope s_ro) .none kV_ro dc_ro pm_ro an_ro cd_ro ct_ro), sl_ro⟩)
    (c_ro : PySem.W.codeIn K cd_ro "run_is_as_told" = true)
    (k_ro : PySem.W.keepIn K (.ref f_ro) = true)
    (a_bo : PySem.W.nsIn K mainGlobals "beats_are_as_told" = some (some (.ref f_bo)))
    (l_bo : K.lookup f_bo = some ⟨oc_bo, od_bo, .func (PySem.W.fnOf "beats_are_as_told" "beats_are_as_told" (defArgs s_bo) (defBody s_bo) (defScope s_bo) .none kV_bo dc_bo pm_bo an_bo cd_bo ct_bo), sl_bo⟩)
    (c_bo : PySem.W.codeIn K cd_bo "beats_are_as_told" = true)
    (k_bo : PySem.W.keepIn K (.ref f_bo) = true)
    (a_li : PySem.W.findIn K (.ref cL) "__init__" = some (some (.ref f_li)))
    (i_li : PySem.W.isFn K (.ref f_li) = true)
    (l_li : K.lookup f_li = some ⟨oc_li, od_li, .func (PySem.W.fnOf "__init__" "Line.__init__" (defArgs s_li) (defBody s_li) (defScope s_li) .none kV_li dc_li pm_li an_li cd_li ct_li), sl_li⟩)
    (c_li : PySem.W.codeIn K cd_li "Line.__init__" = true)
    (k_li : PySem.W.keepIn K (.ref f_li) = true)
    (a_lb : PySem.W.findIn K (.ref cL) "begin" = some (some (.ref f_lb)))
    (i_lb : PySem.W.isFn K (.ref f_lb) = true)
    (l_lb : K.lookup f_lb = some ⟨oc_lb, od_lb, .func (PySem.W.fnOf "begin" "Line.begin" (defArgs s_lb) (defBody s_lb) (defScope s_lb) .none kV_lb dc_lb pm_lb an_lb cd_lb ct_lb), sl_lb⟩)
    (c_lb : PySem.W.codeIn K cd_lb "Line.begin" = true)
    (k_lb : PySem.W.keepIn K (.ref f_lb) = true)
    (a_lr : PySem.W.findIn K (.ref cL) "run" = some (some (.ref f_lr)))
    (i_lr : PySem.W.isFn K (.ref f_lr) = true)
    (l_lr : K.lookup f_lr = some ⟨oc_lr, od_lr, .func (PySem.W.fnOf "run" "Line.run" (defArgs s_lr) (defBody s_lr) (defScope s_lr) .none kV_lr dc_lr pm_lr an_lr cd_lr ct_lr), sl_lr⟩)
    (c_lr : PySem.W.codeIn K cd_lr "Line.run" = true)
    (k_lr : PySem.W.keepIn K (.ref f_lr) = true)
    (a_ls : PySem.W.findIn K (.ref cL) "state" = some (some (.ref f_ls)))
    (i_ls : PySem.W.isFn K (.ref f_ls) = true)
    (l_ls : K.lookup f_ls = some ⟨oc_ls, od_ls, .func (PySem.W.fnOf "state" "Line.state" (defArgs s_ls) (defBody s_ls) (defScope s_ls) .none kV_ls dc_ls pm_ls an_ls cd_ls ct_ls), sl_ls⟩)
    (c_ls : PySem.W.codeIn K cd_ls "Line.state" = true)
    (k_ls : PySem.W.keepIn K (.ref f_ls) = true)
    (a_re : PySem.W.nsIn K mainGlobals "row_end" = some (some (.ref f_re)))
    (l_re : K.lookup f_re = some ⟨oc_re, od_re, .func (PySem.W.fnOf "row_end" "row_end" (defArgs s_re) (defBody s_re) (defScope s_re) .none kV_re dc_re pm_re an_re cd_re ct_re), sl_re⟩)
    (c_re : PySem.W.codeIn K cd_re "row_end" = true)
    (k_re : PySem.W.keepIn K (.ref f_re) = true)
    (a_an : PySem.W.nsIn K mainGlobals "answers" = some (some (.ref f_an)))
    (l_an : K.lookup f_an = some ⟨oc_an, od_an, .func (PySem.W.fnOf "answers" "answers" (defArgs s_an) (defBody s_an) (defScope s_an) .none kV_an dc_an pm_an an_an cd_an ct_an), sl_an⟩)
    (c_an : PySem.W.codeIn K cd_an "answers" = true)
    (k_an : PySem.W.keepIn K (.ref f_an) = true)
    (pg_S : PySem.W.plainGet K cS Str.empty = true)
    (hd_S : PySem.W.hasDictIn K cS = true)
    (po_S : PySem.W.plainOver K cS = true)
    (sa_S : PySem.W.findIn K (.ref cS) "__setattr__" = some (some (.builtin "object.__setattr__")))
    (mk_S : PySem.W.makesIn K cS = true)
    (kc_S : PySem.W.keepIn K (.ref cS) = true)
    (pg_P : PySem.W.plainGet K cP Str.empty = true)
    (hd_P : PySem.W.hasDictIn K cP = true)
    (po_P : PySem.W.plainOver K cP = true)
    (sa_P : PySem.W.findIn K (.ref cP) "__setattr__" = some (some (.builtin "object.__setattr__")))
    (mk_P : PySem.W.makesIn K cP = true)
    (kc_P : PySem.W.keepIn K (.ref cP) = true)
    (pg_L : PySem.W.plainGet K cL Str.empty = true)
    (hd_L : PySem.W.hasDictIn K cL = true)
    (po_L : PySem.W.plainOver K cL = true)
    (sa_L : PySem.W.findIn K (.ref cL) "__setattr__" = some (some (.builtin "object.__setattr__")))
    (mk_L : PySem.W.makesIn K cL = true)
    (kc_L : PySem.W.keepIn K (.ref cL) = true)
    (nS_way : PySem.W.findIn K (.ref cS) "way" = some none)
    (nS_low : PySem.W.findIn K (.ref cS) "low" = some none)
    (nS_high : PySem.W.findIn K (.ref cS) "high" = some none)
    (nS_delay : PySem.W.findIn K (.ref cS) "delay" = some none)
    (nS_atr : PySem.W.findIn K (.ref cS) "atrium" = some none)
    (nS_ven : PySem.W.findIn K (.ref cS) "ventricle" = some none)
    (nS_aft : PySem.W.findIn K (.ref cS) "after_odd" = some none)
    (nP_s : PySem.W.findIn K (.ref cP) "settings" = some none)
    (nP_v : PySem.W.findIn K (.ref cP) "ventricle_ago" = some none)
    (nP_a : PySem.W.findIn K (.ref cP) "atrium_ago" = some none)
    (nP_wg : PySem.W.findIn K (.ref cP) "waiting" = some none)
    (nP_wd : PySem.W.findIn K (.ref cP) "waited" = some none)
    (nP_since : PySem.W.findIn K (.ref cP) "atrium_since" = some none)
    (nP_odd : PySem.W.findIn K (.ref cP) "odd" = some none)
    (nL : PySem.W.findIn K (.ref cL) "pacemaker" = some none)
    (g_BEGIN : PySem.W.nsIn K mainGlobals "BEGIN" = some (some (.int 0 t_BEGIN)))
    (g_RUN : PySem.W.nsIn K mainGlobals "RUN" = some (some (.int 1 t_RUN)))
    (g_VENTRICLE_ALONE : PySem.W.nsIn K mainGlobals "VENTRICLE_ALONE" = some (some (.int 0 t_VENTRICLE_ALONE)))
    (g_ATRIUM_ALONE : PySem.W.nsIn K mainGlobals "ATRIUM_ALONE" = some (some (.int 1 t_ATRIUM_ALONE)))
    (g_BOTH : PySem.W.nsIn K mainGlobals "BOTH" = some (some (.int 2 t_BOTH)))
    (g_ATRIUM : PySem.W.nsIn K mainGlobals "ATRIUM" = some (some (.int 0 t_ATRIUM)))
    (g_VENTRICLE : PySem.W.nsIn K mainGlobals "VENTRICLE" = some (some (.int 1 t_VENTRICLE)))
    (g_PACED : PySem.W.nsIn K mainGlobals "PACED" = some (some (.int 0 t_PACED)))
    (g_TAKEN : PySem.W.nsIn K mainGlobals "TAKEN" = some (some (.int 2 t_TAKEN)))
    (g_PASSED_OVER : PySem.W.nsIn K mainGlobals "PASSED_OVER" = some (some (.int 4 t_PASSED_OVER)))
    (g_LONGEST_AGO : PySem.W.nsIn K mainGlobals "LONGEST_AGO" = some (some (.int 1000000 t_LONGEST_AGO)))
    (g_MOST_BEATS : PySem.W.nsIn K mainGlobals "MOST_BEATS" = some (some (.int 4096 t_MOST_BEATS)))
    (g_MOST_MILLISECONDS : PySem.W.nsIn K mainGlobals "MOST_MILLISECONDS" = some (some (.int 1000000 t_MOST_MILLISECONDS)))
    (g_MOST_THINGS : PySem.W.nsIn K mainGlobals "MOST_THINGS" = some (some (.int 65536 t_MOST_THINGS)))
    (z_len : PySem.W.nsIn K mainGlobals "len" = some none)
    (z_min : PySem.W.nsIn K mainGlobals "min" = some none)
    (z_max : PySem.W.nsIn K mainGlobals "max" = some none) :
    ∃ fd : FuncData, (∀ (s : Shared) (us : List Value), us.length = (["calls"] : List Str).length → BindsTo s fd ⟨us, []⟩ ((["calls"] : List Str).zip us)) ∧ ∀ base : Heap, K.In base → base.Ns mainGlobals mg → FnOk P w K mg base CX0 5 fa fd ["calls"] (spAn K) := by
  have e := hfa.symm.trans (PySem.W.mg_of X G a_an)
  cases e
  have F_si := fun_mk (st := s_si) l_si c_si k_si
  have b_si := F_si.binds (ps := ["self", "numbers"]) fun _ _ _ _ _ _ us hl => match us, hl with | [_, _], _ => rfl
  have F_so := fun_mk (st := s_so) l_so c_so k_so
  have b_so := F_so.binds (ps := ["self"]) fun _ _ _ _ _ _ us hl => match us, hl with | [_], _ => rfl
  have F_pi := fun_mk (st := s_pi) l_pi c_pi k_pi
  have b_pi := F_pi.binds (ps := ["self", "settings"]) fun _ _ _ _ _ _ us hl => match us, hl with | [_, _], _ => rfl
  have F_tw := fun_mk (st := s_tw) l_tw c_tw k_tw
  have b_tw := F_tw.binds (ps := ["self"]) fun _ _ _ _ _ _ us hl => match us, hl with | [_], _ => rfl
  have F_lp := fun_mk (st := s_lp) l_lp c_lp k_lp
  have b_lp := F_lp.binds (ps := ["self", "milliseconds"]) fun _ _ _ _ _ _ us hl => match us, hl with | [_, _], _ => rfl
  have F_ab := fun_mk (st := s_ab) l_ab c_ab k_ab
  have b_ab := F_ab.binds (ps := ["self"]) fun _ _ _ _ _ _ us hl => match us, hl with | [_], _ => rfl
  have F_vb := fun_mk (st := s_vb) l_vb c_vb k_vb
  have b_vb := F_vb.binds (ps := ["self", "odd"]) fun _ _ _ _ _ _ us hl => match us, hl with | [_, _], _ => rfl
  have F_qa := fun_mk (st := s_qa) l_qa c_qa k_qa
  have b_qa := F_qa.binds (ps := ["self"]) fun _ _ _ _ _ _ us hl => match us, hl with | [_], _ => rfl
  have F_qv := fun_mk (st := s_qv) l_qv c_qv k_qv
  have b_qv := F_qv.binds (ps := ["self"]) fun _ _ _ _ _ _ us hl => match us, hl with | [_], _ => rfl
  have F_fe := fun_mk (st := s_fe) l_fe c_fe k_fe
  have b_fe := F_fe.binds (ps := ["self", "chamber"]) fun _ _ _ _ _ _ us hl => match us, hl with | [_, _], _ => rfl
  have F_ta := fun_mk (st := s_ta) l_ta c_ta k_ta
  have b_ta := F_ta.binds (ps := ["self"]) fun _ _ _ _ _ _ us hl => match us, hl with | [_], _ => rfl
  have F_tv := fun_mk (st := s_tv) l_tv c_tv k_tv
  have b_tv := F_tv.binds (ps := ["self"]) fun _ _ _ _ _ _ us hl => match us, hl with | [_], _ => rfl
  have F_up := fun_mk (st := s_up) l_up c_up k_up
  have b_up := F_up.binds (ps := ["self"]) fun _ _ _ _ _ _ us hl => match us, hl with | [_], _ => rfl
  have F_th := fun_mk (st := s_th) l_th c_th k_th
  have b_th := F_th.binds (ps := ["millisecond", "what", "chamber"]) fun _ _ _ _ _ _ us hl => match us, hl with | [_, _, _], _ => rfl
  have F_bm := fun_mk (st := s_bm) l_bm c_bm k_bm
  have b_bm := F_bm.binds (ps := ["beat"]) fun _ _ _ _ _ _ us hl => match us, hl with | [_], _ => rfl
  have F_bc := fun_mk (st := s_bc) l_bc c_bc k_bc
  have b_bc := F_bc.binds (ps := ["beat"]) fun _ _ _ _ _ _ us hl => match us, hl with | [_], _ => rfl
  have F_pt := fun_mk (st := s_pt) l_pt c_pt k_pt
  have b_pt := F_pt.binds (ps := ["pacemaker", "now", "things"]) fun _ _ _ _ _ _ us hl => match us, hl with | [_, _, _], _ => rfl
  have F_nm := fun_mk (st := s_nm) l_nm c_nm k_nm
  have b_nm := F_nm.binds (ps := ["pacemaker", "now", "n", "beats", "felt"]) fun _ _ _ _ _ _ us hl => match us, hl with | [_, _, _, _, _], _ => rfl
  have F_go := fun_mk (st := s_go) l_go c_go k_go
  have b_go := F_go.binds (ps := ["pacemaker", "n", "most", "beats"]) fun _ _ _ _ _ _ us hl => match us, hl with | [_, _, _, _], _ => rfl
  have F_ro := fun_mk (st := s_ro) l_ro c_ro k_ro
  have b_ro := F_ro.binds (ps := ["m", "n", "most"]) fun _ _ _ _ _ _ us hl => match us, hl with | [_, _, _], _ => rfl
  have F_bo := fun_mk (st := s_bo) l_bo c_bo k_bo
  have b_bo := F_bo.binds (ps := ["beats", "n"]) fun _ _ _ _ _ _ us hl => match us, hl with | [_, _], _ => rfl
  have F_li := fun_mk (st := s_li) l_li c_li k_li
  have b_li := F_li.binds (ps := ["self"]) fun _ _ _ _ _ _ us hl => match us, hl with | [_], _ => rfl
  have F_lb := fun_mk (st := s_lb) l_lb c_lb k_lb
  have b_lb := F_lb.binds (ps := ["self", "numbers"]) fun _ _ _ _ _ _ us hl => match us, hl with | [_, _], _ => rfl
  have F_lr := fun_mk (st := s_lr) l_lr c_lr k_lr
  have b_lr := F_lr.binds (ps := ["self", "m", "n", "most", "beats"]) fun _ _ _ _ _ _ us hl => match us, hl with | [_, _, _, _, _], _ => rfl
  have F_ls := fun_mk (st := s_ls) l_ls c_ls k_ls
  have b_ls := F_ls.binds (ps := ["self"]) fun _ _ _ _ _ _ us hl => match us, hl with | [_], _ => rfl
  have F_re := fun_mk (st := s_re) l_re c_re k_re
  have b_re := F_re.binds (ps := ["calls", "at"]) fun _ _ _ _ _ _ us hl => match us, hl with | [_, _], _ => rfl
  have F_an := fun_mk (st := s_an) l_an c_an k_an
  have b_an := F_an.binds (ps := ["calls"]) fun _ _ _ _ _ _ us hl => match us, hl with | [_], _ => rfl
  let A : Ad := ⟨cS, cP, cL, f_si, f_so, f_pi, f_tw, f_lp, f_ab, f_vb, f_qa, f_qv, f_fe, f_ta, f_tv, f_up, f_th, f_bm, f_bc, f_pt, f_nm, f_go, f_ro, f_bo, f_li, f_lb, f_lr, f_ls, f_re, fa, PySem.W.fnOf "__init__" "Settings.__init__" (defArgs s_si) (defBody s_si) (defScope s_si) .none kV_si dc_si pm_si an_si cd_si ct_si, PySem.W.fnOf "are_as_told" "Settings.are_as_told" (defArgs s_so) (defBody s_so) (defScope s_so) .none kV_so dc_so pm_so an_so cd_so ct_so, PySem.W.fnOf "__init__" "Pacemaker.__init__" (defArgs s_pi) (defBody s_pi) (defScope s_pi) .none kV_pi dc_pi pm_pi an_pi cd_pi ct_pi, PySem.W.fnOf "twin" "Pacemaker.twin" (defArgs s_tw) (defBody s_tw) (defScope s_tw) .none kV_tw dc_tw pm_tw an_tw cd_tw ct_tw, PySem.W.fnOf "let_pass" "Pacemaker.let_pass" (defArgs s_lp) (defBody s_lp) (defScope s_lp) .none kV_lp dc_lp pm_lp an_lp cd_lp ct_lp, PySem.W.fnOf "atrium_beats" "Pacemaker.atrium_beats" (defArgs s_ab) (defBody s_ab) (defScope s_ab) .none kV_ab dc_ab pm_ab an_ab cd_ab ct_ab, PySem.W.fnOf "ventricle_beats" "Pacemaker.ventricle_beats" (defArgs s_vb) (defBody s_vb) (defScope s_vb) .none kV_vb dc_vb pm_vb an_vb cd_vb ct_vb, PySem.W.fnOf "passes_over_atrium" "Pacemaker.passes_over_atrium" (defArgs s_qa) (defBody s_qa) (defScope s_qa) .none kV_qa dc_qa pm_qa an_qa cd_qa ct_qa, PySem.W.fnOf "passes_over_ventricle" "Pacemaker.passes_over_ventricle" (defArgs s_qv) (defBody s_qv) (defScope s_qv) .none kV_qv dc_qv pm_qv an_qv cd_qv ct_qv, PySem.W.fnOf "feel" "Pacemaker.feel" (defArgs s_fe) (defBody s_fe) (defScope s_fe) .none kV_fe dc_fe pm_fe an_fe cd_fe ct_fe, PySem.W.fnOf "time_for_atrium" "Pacemaker.time_for_atrium" (defArgs s_ta) (defBody s_ta) (defScope s_ta) .none kV_ta dc_ta pm_ta an_ta cd_ta ct_ta, PySem.W.fnOf "time_for_ventricle" "Pacemaker.time_for_ventricle" (defArgs s_tv) (defBody s_tv) (defScope s_tv) .none kV_tv dc_tv pm_tv an_tv cd_tv ct_tv, PySem.W.fnOf "until_pace" "Pacemaker.until_pace" (defArgs s_up) (defBody s_up) (defScope s_up) .none kV_up dc_up pm_up an_up cd_up ct_up, PySem.W.fnOf "thing" "thing" (defArgs s_th) (defBody s_th) (defScope s_th) .none kV_th dc_th pm_th an_th cd_th ct_th, PySem.W.fnOf "beat_millisecond" "beat_millisecond" (defArgs s_bm) (defBody s_bm) (defScope s_bm) .none kV_bm dc_bm pm_bm an_bm cd_bm ct_bm, PySem.W.fnOf "beat_chamber" "beat_chamber" (defArgs s_bc) (defBody s_bc) (defScope s_bc) .none kV_bc dc_bc pm_bc an_bc cd_bc ct_bc, PySem.W.fnOf "pace_if_time" "pace_if_time" (defArgs s_pt) (defBody s_pt) (defScope s_pt) .none kV_pt dc_pt pm_pt an_pt cd_pt ct_pt, PySem.W.fnOf "next_millisecond" "next_millisecond" (defArgs s_nm) (defBody s_nm) (defScope s_nm) .none kV_nm dc_nm pm_nm an_nm cd_nm ct_nm, PySem.W.fnOf "go_on" "go_on" (defArgs s_go) (defBody s_go) (defScope s_go) .none kV_go dc_go pm_go an_go cd_go ct_go, PySem.W.fnOf "run_is_as_told" "run_is_as_told" (defArgs s_ro) (defBody s_ro) (defScope s_ro) .none kV_ro dc_ro pm_ro an_ro cd_ro ct_ro, PySem.W.fnOf "beats_are_as_told" "beats_are_as_told" (defArgs s_bo) (defBody s_bo) (defScope s_bo) .none kV_bo dc_bo pm_bo an_bo cd_bo ct_bo, PySem.W.fnOf "__init__" "Line.__init__" (defArgs s_li) (defBody s_li) (defScope s_li) .none kV_li dc_li pm_li an_li cd_li ct_li, PySem.W.fnOf "begin" "Line.begin" (defArgs s_lb) (defBody s_lb) (defScope s_lb) .none kV_lb dc_lb pm_lb an_lb cd_lb ct_lb, PySem.W.fnOf "run" "Line.run" (defArgs s_lr) (defBody s_lr) (defScope s_lr) .none kV_lr dc_lr pm_lr an_lr cd_lr ct_lr, PySem.W.fnOf "state" "Line.state" (defArgs s_ls) (defBody s_ls) (defScope s_ls) .none kV_ls dc_ls pm_ls an_ls cd_ls ct_ls, PySem.W.fnOf "row_end" "row_end" (defArgs s_re) (defBody s_re) (defScope s_re) .none kV_re dc_re pm_re an_re cd_re ct_re, PySem.W.fnOf "answers" "answers" (defArgs s_an) (defBody s_an) (defScope s_an) .none kV_an dc_an pm_an an_an cd_an ct_an⟩
  have T : Tx K mg A := ⟨⟨pg_S, hd_S, po_S, sa_S⟩, ⟨pg_P, hd_P, po_P, sa_P⟩, ⟨pg_L, hd_L, po_L, sa_L⟩, nS_way, nS_low, nS_high, nS_delay, nS_atr, nS_ven, nS_aft, nP_s, nP_v, nP_a, nP_wg, nP_wd, nP_since, nP_odd, nL, ⟨mk_S, a_si, i_si, kc_S⟩, ⟨mk_P, a_pi, i_pi, kc_P⟩, ⟨mk_L, a_li, i_li, kc_L⟩, PySem.W.mg_of X G a_cS, PySem.W.mg_of X G a_cP, PySem.W.mg_of X G a_cL, ⟨_, PySem.W.mg_of X G g_BEGIN⟩, ⟨_, PySem.W.mg_of X G g_RUN⟩, ⟨_, PySem.W.mg_of X G g_VENTRICLE_ALONE⟩, ⟨_, PySem.W.mg_of X G g_ATRIUM_ALONE⟩, ⟨_, PySem.W.mg_of X G g_BOTH⟩, ⟨_, PySem.W.mg_of X G g_ATRIUM⟩, ⟨_, PySem.W.mg_of X G g_VENTRICLE⟩, ⟨_, PySem.W.mg_of X G g_PACED⟩, ⟨_, PySem.W.mg_of X G g_TAKEN⟩, ⟨_, PySem.W.mg_of X G g_PASSED_OVER⟩, ⟨_, PySem.W.mg_of X G g_LONGEST_AGO⟩, ⟨_, PySem.W.mg_of X G g_MOST_BEATS⟩, ⟨_, PySem.W.mg_of X G g_MOST_MILLISECONDS⟩, ⟨_, PySem.W.mg_of X G g_MOST_THINGS⟩, PySem.W.mg_none_of X G z_len, PySem.W.mg_none_of X G z_min, PySem.W.mg_none_of X G z_max, ⟨F_si, b_si⟩, ⟨F_so, b_so, ⟨a_so, i_so, k_so⟩⟩, ⟨F_pi, b_pi⟩, ⟨F_tw, b_tw, ⟨a_tw, i_tw, k_tw⟩⟩, ⟨F_lp, b_lp, ⟨a_lp, i_lp, k_lp⟩⟩, ⟨F_ab, b_ab, ⟨a_ab, i_ab, k_ab⟩⟩, ⟨F_vb, b_vb, ⟨a_vb, i_vb, k_vb⟩⟩, ⟨F_qa, b_qa, ⟨a_qa, i_qa, k_qa⟩⟩, ⟨F_qv, b_qv, ⟨a_qv, i_qv, k_qv⟩⟩, ⟨F_fe, b_fe, ⟨a_fe, i_fe, k_fe⟩⟩, ⟨F_ta, b_ta, ⟨a_ta, i_ta, k_ta⟩⟩, ⟨F_tv, b_tv, ⟨a_tv, i_tv, k_tv⟩⟩, ⟨F_up, b_up, ⟨a_up, i_up, k_up⟩⟩, ⟨F_th, b_th, PySem.W.mg_of X G a_th⟩, ⟨F_bm, b_bm, PySem.W.mg_of X G a_bm⟩, ⟨F_bc, b_bc, PySem.W.mg_of X G a_bc⟩, ⟨F_pt, b_pt, PySem.W.mg_of X G a_pt⟩, ⟨F_nm, b_nm, PySem.W.mg_of X G a_nm⟩, ⟨F_go, b_go, PySem.W.mg_of X G a_go⟩, ⟨F_ro, b_ro, PySem.W.mg_of X G a_ro⟩, ⟨F_bo, b_bo, PySem.W.mg_of X G a_bo⟩, ⟨F_li, b_li⟩, ⟨F_lb, b_lb, ⟨a_lb, i_lb, k_lb⟩⟩, ⟨F_lr, b_lr, ⟨a_lr, i_lr, k_lr⟩⟩, ⟨F_ls, b_ls, ⟨a_ls, i_ls, k_ls⟩⟩, ⟨F_re, b_re, PySem.W.mg_of X G a_re⟩, ⟨F_an, b_an, PySem.W.mg_of X G a_an⟩⟩
  exact ⟨_, fun s us hu => match us, hu with | [_], _ => .of_eq rfl, fun base _ _ => ok_an (A := A) T⟩
end HP
open PySem PySem.W PyProof.Rows
set_option maxRecDepth 100000 in
set_option maxHeartbeats 0 in
theorem PySem.Challenge.cw_heartpacer_s01_answers_holds : PySem.Challenge.rw_heartpacer_s01_answers.Holds := by
  w_on; k_headS; (case hw => exact ⟨[.list [.int 0, .int 7, .int 0, .int 1000, .int 500, .int 150, .int 250, .int 200, .int 400]], by decide +kernel, by decide +kernel⟩)
  k_fillS
  refine L2.walk_specK (r := PySem.Challenge.rw_heartpacer_s01_answers) (k := 5) (CX := L2.CX0) (ps := ["calls"]) (sp := HP.spAn) (by decide +kernel) rfl rfl ⟨rfl, by decide, by decide⟩ (fun w h Y => PySem.W.kIn_of Y) ?F ?S (fun _ _ _ _ z => z)
  case F =>
    intro w mg fa h Y KX G hmg
    refine' HP.all_mk KX G hmg ?a_cS ?a_cP ?a_cL ?a_si ?i_si ?l_si ?c_si ?k_si ?a_so ?i_so ?l_so ?c_so ?k_so ?a_pi ?i_pi ?l_pi ?c_pi ?k_pi ?a_tw ?i_tw ?l_tw ?c_tw ?k_tw ?a_lp ?i_lp ?l_lp ?c_lp ?k_lp ?a_ab ?i_ab ?l_ab ?c_ab ?k_ab ?a_vb ?i_vb ?l_vb ?c_vb ?k_vb ?a_qa ?i_qa ?l_qa ?c_qa ?k_qa ?a_qv ?i_qv ?l_qv ?c_qv ?k_qv ?a_fe ?i_fe ?l_fe ?c_fe ?k_fe ?a_ta ?i_ta ?l_ta ?c_ta ?k_ta ?a_tv ?i_tv ?l_tv ?c_tv ?k_tv ?a_up ?i_up ?l_up ?c_up ?k_up ?a_th ?l_th ?c_th ?k_th ?a_bm ?l_bm ?c_bm ?k_bm ?a_bc ?l_bc ?c_bc ?k_bc ?a_pt ?l_pt ?c_pt ?k_pt ?a_nm ?l_nm ?c_nm ?k_nm ?a_go ?l_go ?c_go ?k_go ?a_ro ?l_ro ?c_ro ?k_ro ?a_bo ?l_bo ?c_bo ?k_bo ?a_li ?i_li ?l_li ?c_li ?k_li ?a_lb ?i_lb ?l_lb ?c_lb ?k_lb ?a_lr ?i_lr ?l_lr ?c_lr ?k_lr ?a_ls ?i_ls ?l_ls ?c_ls ?k_ls ?a_re ?l_re ?c_re ?k_re ?a_an ?l_an ?c_an ?k_an ?pg_S ?hd_S ?po_S ?sa_S ?mk_S ?kc_S ?pg_P ?hd_P ?po_P ?sa_P ?mk_P ?kc_P ?pg_L ?hd_L ?po_L ?sa_L ?mk_L ?kc_L ?nS_way ?nS_low ?nS_high ?nS_delay ?nS_atr ?nS_ven ?nS_aft ?nP_s ?nP_v ?nP_a ?nP_wg ?nP_wd ?nP_since ?nP_odd ?nL ?g_BEGIN ?g_RUN ?g_VENTRICLE_ALONE ?g_ATRIUM_ALONE ?g_BOTH ?g_ATRIUM ?g_VENTRICLE ?g_PACED ?g_TAKEN ?g_PASSED_OVER ?g_LONGEST_AGO ?g_MOST_BEATS ?g_MOST_MILLISECONDS ?g_MOST_THINGS ?z_len ?z_min ?z_max
    (case a_cS => k_is)
    (case a_cP => k_is)
    (case a_cL => k_is)
    (case a_si => k_is)
    (case i_si => k_is)
    (case l_si => k_is)
    (case c_si => k_is)
    (case k_si => k_is)
    (case a_so => k_is)
    (case i_so => k_is)
    (case l_so => k_is)
    (case c_so => k_is)
    (case k_so => k_is)
    (case a_pi => k_is)
    (case i_pi => k_is)
    (case l_pi => k_is)
    (case c_pi => k_is)
    (case k_pi => k_is)
    (case a_tw => k_is)
    (case i_tw => k_is)
    (case l_tw => k_is)
    (case c_tw => k_is)
    (case k_tw => k_is)
    (case a_lp => k_is)
    (case i_lp => k_is)
    (case l_lp => k_is)
    (case c_lp => k_is)
    (case k_lp => k_is)
    (case a_ab => k_is)
    (case i_ab => k_is)
    (case l_ab => k_is)
    (case c_ab => k_is)
    (case k_ab => k_is)
    (case a_vb => k_is)
    (case i_vb => k_is)
    (case l_vb => k_is)
    (case c_vb => k_is)
    (case k_vb => k_is)
    (case a_qa => k_is)
    (case i_qa => k_is)
    (case l_qa => k_is)
    (case c_qa => k_is)
    (case k_qa => k_is)
    (case a_qv => k_is)
    (case i_qv => k_is)
    (case l_qv => k_is)
    (case c_qv => k_is)
    (case k_qv => k_is)
    (case a_fe => k_is)
    (case i_fe => k_is)
    (case l_fe => k_is)
    (case c_fe => k_is)
    (case k_fe => k_is)
    (case a_ta => k_is)
    (case i_ta => k_is)
    (case l_ta => k_is)
    (case c_ta => k_is)
    (case k_ta => k_is)
    (case a_tv => k_is)
    (case i_tv => k_is)
    (case l_tv => k_is)
    (case c_tv => k_is)
    (case k_tv => k_is)
    (case a_up => k_is)
    (case i_up => k_is)
    (case l_up => k_is)
    (case c_up => k_is)
    (case k_up => k_is)
    (case a_th => k_is)
    (case l_th => k_is)
    (case c_th => k_is)
    (case k_th => k_is)
    (case a_bm => k_is)
    (case l_bm => k_is)
    (case c_bm => k_is)
    (case k_bm => k_is)
    (case a_bc => k_is)
    (case l_bc => k_is)
    (case c_bc => k_is)
    (case k_bc => k_is)
    (case a_pt => k_is)
    (case l_pt => k_is)
    (case c_pt => k_is)
    (case k_pt => k_is)
    (case a_nm => k_is)
    (case l_nm => k_is)
    (case c_nm => k_is)
    (case k_nm => k_is)
    (case a_go => k_is)
    (case l_go => k_is)
    (case c_go => k_is)
    (case k_go => k_is)
    (case a_ro => k_is)
    (case l_ro => k_is)
    (case c_ro => k_is)
    (case k_ro => k_is)
    (case a_bo => k_is)
    (case l_bo => k_is)
    (case c_bo => k_is)
    (case k_bo => k_is)
    (case a_li => k_is)
    (case i_li => k_is)
    (case l_li => k_is)
    (case c_li => k_is)
    (case k_li => k_is)
    (case a_lb => k_is)
    (case i_lb => k_is)
    (case l_lb => k_is)
    (case c_lb => k_is)
    (case k_lb => k_is)
    (case a_lr => k_is)
    (case i_lr => k_is)
    (case l_lr => k_is)
    (case c_lr => k_is)
    (case k_lr => k_is)
    (case a_ls => k_is)
    (case i_ls => k_is)
    (case l_ls => k_is)
    (case c_ls => k_is)
    (case k_ls => k_is)
    (case a_re => k_is)
    (case l_re => k_is)
    (case c_re => k_is)
    (case k_re => k_is)
    (case a_an => k_is)
    (case l_an => k_is)
    (case c_an => k_is)
    (case k_an => k_is)
    (case pg_S => k_is)
    (case hd_S => k_is)
    (case po_S => k_is)
    (case sa_S => k_is)
    (case mk_S => k_is)
    (case kc_S => k_is)
    (case pg_P => k_is)
    (case hd_P => k_is)
    (case po_P => k_is)
    (case sa_P => k_is)
    (case mk_P => k_is)
    (case kc_P => k_is)
    (case pg_L => k_is)
    (case hd_L => k_is)
    (case po_L => k_is)
    (case sa_L => k_is)
    (case mk_L => k_is)
    (case kc_L => k_is)
    (case nS_way => k_is)
    (case nS_low => k_is)
    (case nS_high => k_is)
    (case nS_delay => k_is)
    (case nS_atr => k_is)
    (case nS_ven => k_is)
    (case nS_aft => k_is)
    (case nP_s => k_is)
    (case nP_v => k_is)
    (case nP_a => k_is)
    (case nP_wg => k_is)
    (case nP_wd => k_is)
    (case nP_since => k_is)
    (case nP_odd => k_is)
    (case nL => k_is)
    (case g_BEGIN => k_is)
    (case g_RUN => k_is)
    (case g_VENTRICLE_ALONE => k_is)
    (case g_ATRIUM_ALONE => k_is)
    (case g_BOTH => k_is)
    (case g_ATRIUM => k_is)
    (case g_VENTRICLE => k_is)
    (case g_PACED => k_is)
    (case g_TAKEN => k_is)
    (case g_PASSED_OVER => k_is)
    (case g_LONGEST_AGO => k_is)
    (case g_MOST_BEATS => k_is)
    (case g_MOST_MILLISECONDS => k_is)
    (case g_MOST_THINGS => k_is)
    (case z_len => k_is)
    (case z_min => k_is)
    (case z_max => k_is)
  case S =>
    intro K H xs a hO hwi hask hx
    cases hx with
    | cons h1 h2 =>
      cases h2
      cases h1 with
      | lst hs ha =>
        have e := L2.ints_dw a.1 _ ha
        subst e
        exact ⟨_, a.1, rfl, hs, hask, fun H' p hp => .lst (L2.SqL.of hp) (L2.dw_ints _)⟩
#print axioms PySem.Challenge.cw_heartpacer_s01_answers_holds
