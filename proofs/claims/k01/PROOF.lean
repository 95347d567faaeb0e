import PyProof.Rows.All
import Wide.All
import OpenK.AllK
import Wide.FinOn
import PyProof.EqAt
import PyProof.EqKinds
import PyProof.TupleCall
import KE.BitLaws
import PySem.Challenge.RW_nightsheld_k01_houses_and_stays_known
set_option Elab.async false
set_option linter.all false
set_option maxRecDepth 100000
/-! THE HAND LAYER, for ints, bools, texts, own classes, lists, tuples, dicts, comprehensions, walks over dicts, enumerate, zip, reversed, texts, calls, loops. Paste it whole ahead of your own text; what your proof does not reach may be deleted. -/
namespace L2
open PySem PySem.Spec PyProof.Rows

/-- a key: an int or a str -/
abbrev Key := Sum Int Str
def keyIs : Key → Value → Bool
  | .inl k, v => Value.isInt k v
  | .inr x, v => Value.isStrOf x v
def keyH (w : World) : Key → Int
  | .inl k => hashInt k
  | .inr x => hashStr w x
theorem keyIs_shape : ∀ {k : Key} {v : Value}, keyIs k v = true → (∃ i t, k = Sum.inl i ∧ v = Value.int i t) ∨ (∃ x t, k = Sum.inr x ∧ v = Value.str x t)
  | .inl i, v, h => by
    obtain ⟨t, e⟩ := Value.isInt_shape (k := i) (v := v) h
    exact .inl ⟨i, t, rfl, e⟩
  | .inr x, v, h => by
    obtain ⟨t, e⟩ := Value.isStrOf_shape (x := x) (v := v) h
    exact .inr ⟨x, t, rfl, e⟩
theorem keyIs_int (i : Int) (t : Tok) : keyIs (.inl i) (.int i t) = true := by simp [keyIs, Value.isInt]
theorem keyIs_str (x : Str) (t : Tok) : keyIs (.inr x) (.str x t) = true := by simp [keyIs, Value.isStrOf]
theorem key_ll (a b : Int) : decide ((Sum.inl a : Key) = Sum.inl b) = (a == b) := by
  by_cases e : a = b
  · subst e; simp
  · have h : ¬ (Sum.inl a : Key) = Sum.inl b := fun q => e (Sum.inl.inj q)
    rw [decide_eq_false h]
    exact (beq_eq_false_iff_ne.mpr e).symm
theorem key_rr (a b : Str) : decide ((Sum.inr a : Key) = Sum.inr b) = decide (a = b) := by
  by_cases e : a = b
  · subst e; simp
  · have h : ¬ (Sum.inr a : Key) = Sum.inr b := fun q => e (Sum.inr.inj q)
    rw [decide_eq_false h, decide_eq_false e]
theorem key_lr (a : Int) (b : Str) : decide ((Sum.inl a : Key) = Sum.inr b) = false := decide_eq_false (fun q => nomatch q)
theorem key_rl (a : Str) (b : Int) : decide ((Sum.inr a : Key) = Sum.inl b) = false := decide_eq_false (fun q => nomatch q)

def mixKind (prog : Program) (w : World) : PySem.KeyKind prog w Key where
  is := keyIs
  hash := keyH w
  inj := fun v a b ha hb => by
    rcases keyIs_shape ha with ⟨i, t, rfl, rfl⟩ | ⟨x, t, rfl, rfl⟩
    · rcases keyIs_shape hb with ⟨j, u, rfl, e⟩ | ⟨y, u, rfl, e⟩
      · injection e with e1 _; rw [e1]
      · exact nomatch e
    · rcases keyIs_shape hb with ⟨j, u, rfl, e⟩ | ⟨y, u, rfl, e⟩
      · exact nomatch e
      · injection e with e1 _; rw [e1]
  byValue := fun k v h => by
    rcases keyIs_shape h with ⟨i, t, rfl, rfl⟩ | ⟨x, t, rfl, rfl⟩ <;> rfl
  pyHash := fun hv h => by
    rcases keyIs_shape hv with ⟨i, t, rfl, rfl⟩ | ⟨x, t, rfl, rfl⟩
    · exact wpAny_pyHash_int h
    · exact wpAny_pyHash_str h
  eqBool := fun hu hv h => by
    rcases keyIs_shape hu with ⟨i, t, rfl, rfl⟩ | ⟨x, t, rfl, rfl⟩
    · rcases keyIs_shape hv with ⟨j, u, rfl, rfl⟩ | ⟨y, u, rfl, rfl⟩
      · rw [key_ll] at h; exact wpAny_eqBool_int h
      · rw [key_lr] at h; exact SeqAt.EqAt.int_str i t y u _ _ _ _ h
    · rcases keyIs_shape hv with ⟨j, u, rfl, rfl⟩ | ⟨y, u, rfl, rfl⟩
      · rw [key_rl] at h; exact SeqAt.EqAt.str_int x t j u _ _ _ _ h
      · rw [key_rr] at h; exact wpAny_eqBool_str h
  «strs» := fun k x t v h => by
    rcases keyIs_shape h with ⟨i, u, rfl, e⟩ | ⟨y, u, rfl, e⟩
    · exact nomatch e
    · injection e with e1 _
      subst e1
      cases v <;> rfl

theorem mixKind_is (prog : Program) (w : World) (k : Key) (v : Value) : (mixKind prog w).is k v = keyIs k v := rfl
theorem mixKind_int (prog : Program) (w : World) (i : Int) (t : Tok) : (mixKind prog w).is (.inl i) (.int i t) = true := keyIs_int i t
theorem mixKind_str (prog : Program) (w : World) (x : Str) (t : Tok) : (mixKind prog w).is (.inr x) (.str x t) = true := keyIs_str x t
end L2

namespace L2
open PySem PySem.Spec PyProof.Rows

/-- a value, without the heap -/
inductive V where
  | non | bl (b : Bool) | int (i : Int) | str (x : Str) | byt (b : Array UInt8) | flt (b : UInt64) | ref (a : Addr) | ty (n : String)
  deriving DecidableEq

def RelV : V → Value → Prop
  | .non, u => u = Value.none
  | .bl b, u => u = Value.bool b
  | .int i, u => ∃ t, u = Value.int i t
  | .str x, u => ∃ t, u = Value.str x t
  | .byt b, u => ∃ t, u = Value.bytes b t
  | .flt b, u => ∃ t, u = Value.float b t
  | .ref a, u => u = Value.ref a
  | .ty n, u => u = Value.type n

abbrev Vals : List V → List Value → Prop := Paired RelV
theorem Vals.length {xs : List V} {us : List Value} (r : Vals xs us) : xs.length = us.length := Paired.length r
theorem Vals.get : ∀ {xs : List V} {us : List Value} {i : Nat} {x : V}, Vals xs us → xs[i]? = some x → ∃ u, us[i]? = some u ∧ RelV x u
  | _, _, _, _, .nil, e => by simp at e
  | _, _, 0, _, .cons r _, e => by simp at e; subst e; exact ⟨_, rfl, r⟩
  | _, _, i + 1, x, .cons _ t, e => by
    obtain ⟨u, h1, h2⟩ := Vals.get (i := i) (x := x) t (by simpa using e)
    exact ⟨u, by simpa using h1, h2⟩
theorem Vals.set {x : V} {u : Value} (r : RelV x u) : ∀ {xs : List V} {us : List Value} (i : Nat), Vals xs us → Vals (xs.set i x) (us.set i u)
  | _, _, _, .nil => .nil
  | _, _, 0, .cons _ t => .cons r t
  | _, _, i + 1, .cons q t => .cons q (Vals.set r i t)
theorem Vals.append : ∀ {xs ys : List V} {us ws : List Value}, Vals xs us → Vals ys ws → Vals (xs ++ ys) (us ++ ws)
  | _, _, _, _, .nil, s => s
  | _, _, _, _, .cons r t, s => .cons r (Vals.append t s)
theorem Vals.take : ∀ {xs : List V} {us : List Value} (n : Nat), Vals xs us → Vals (xs.take n) (us.take n)
  | _, _, 0, _ => .nil
  | _, _, _ + 1, .nil => .nil
  | _, _, n + 1, .cons r t => .cons r (Vals.take n t)
theorem Vals.drop : ∀ {xs : List V} {us : List Value} (n : Nat), Vals xs us → Vals (xs.drop n) (us.drop n)
  | _, _, 0, r => r
  | _, _, _ + 1, .nil => .nil
  | _, _, n + 1, .cons _ t => Vals.drop n t
theorem Vals.none_of : ∀ {xs : List V} {us : List Value} {i : Nat}, Vals xs us → xs[i]? = none → us[i]? = none := fun {xs us i} r e => by
  have h1 := r.length
  have h2 : xs.length ≤ i := List.getElem?_eq_none_iff.mp e
  exact List.getElem?_eq_none_iff.mpr (by omega)

def RelO : Option V → Option Value → Prop
  | some v, some u => RelV v u
  | none, none => True
  | _, _ => False
def KV {κ : Type} : List (κ × V) → List (κ × Value) → Prop := Paired fun (p : κ × V) (q : κ × Value) => p.1 = q.1 ∧ RelV p.2 q.2

/-- a key of a dict (00_mix): an int or a text -/
def kV : Key → V
  | .inl i => .int i
  | .inr x => .str x

/-- what stands at a tracked address -/
inductive HO where
  /-- a list -/
  | lst (xs : List V)
  /-- a tuple (never changes) -/
  | tup (xs : List V)
  /-- a dict whose keys are ints and texts; one whose keys are tuples of ints and texts (the empty one is both) -/
  | dK (kvs : List (Key × V)) | dT (kvs : List (List Key × V))
  /-- a set of ints: its members, its size -/
  | set (S : Int → Bool) (n : Nat)
  /-- an instance of the class at C, its dict at dx, its attributes -/
  | ins (C dx : Addr) (fs : List (Str × V))
  /-- the dict of the instance at x -/
  | own (x : Addr)
  /-- the dict of an exception -/
  | xd (fs : List (Str × V))
  /-- a bound method, f of x -/
  | met (f x : Addr)
  /-- a range object lo, lo + 1, .. below hi -/
  | rng (lo hi : Int)
  /-- a thing that is known to the object (the script; a dict while a loop walks it): read, never written while it is so -/
  | frz (o : Obj) (u : HO)
  /-- a code object's table -/
  | tbl (ps : Array Value)
  /-- any other thing, by what is true of its one object (a def of one's own: SetO a S n := HO.ext fun h => ..) -/
  | ext (φ : Heap → Prop)

abbrev Hp := Addr → Option HO
def upd (H : Hp) (a : Addr) (o : HO) : Hp := fun b => if b = a then some o else H b
theorem upd_same {H : Hp} {a : Addr} {o : HO} : upd H a o a = some o := by unfold upd; rw [if_pos rfl]
theorem upd_ne {H : Hp} {a b : Addr} {o : HO} (h : b ≠ a) : upd H a o b = H b := by unfold upd; rw [if_neg h]
theorem upd_upd {H : Hp} {a : Addr} {o u : HO} : upd (upd H a o) a u = upd H a u := by
  funext b; unfold upd; split <;> rfl
/-- two objects of different content stand apart -/
theorem ne_of {H : Hp} {a b : Addr} {o u : HO} (h : H a = some o) (h' : H b = some u) (d : o ≠ u) : a ≠ b := by
  intro e; subst e; rw [h] at h'; exact d (Option.some.inj h')
theorem ne_of_none {H : Hp} {a b : Addr} {o : HO} (h : H a = some o) (h' : H b = none) : a ≠ b := by
  intro e; subst e; rw [h] at h'; cases h'

section
variable (P : Program) (w : World)
def ObjOk (H : Hp) (h : Heap) (a : Addr) : HO → Prop
  | .lst xs => xs.length ≤ sizeLine ∧ ∃ (its : List Value) (n : Nat), Vals xs its ∧ h.get? a = some { cls := .type "list", data := .seq its.toArray n }
  | .tup xs => xs.length ≤ sizeLine ∧ ∃ its : List Value, Vals xs its ∧ IsTup h a its.toArray
  | .dK kvs => kvs.length ≤ sizeLine ∧ (a == sysModules) = false ∧ ∃ vs, KV kvs vs ∧ h.DictOf (mixKind P w) a vs
  | .dT kvs => kvs.length ≤ sizeLine ∧ (a == sysModules) = false ∧ ∃ xs : List (List Key × Addr × Value),
      Paired (fun (p : List Key × V) (q : List Key × Addr × Value) => p.1 = q.1 ∧ H q.2.1 = some (.tup (p.1.map kV)) ∧ RelV p.2 q.2.2) kvs xs ∧
      ∃ o es ep, h.get? a = some o ∧ o.ExactDict ∧ o.data = .dict es ep ∧ es.toList = xs.map (entryOfKey (tupleKind (mixKind P w))) ∧ (xs.map (·.1)).Nodup
  | .set S n => h.SetOf (intKind P w) a S n
  | .ins C dx fs => H dx = some (.own a) ∧ fs.length ≤ 1000 ∧ dx ≠ a ∧ h.get? a = some (PySem.W.instObj C dx) ∧
      ∃ mA, h.Ns1 dx mA ∧ (∀ f, RelO (fs.lookup f) (mA f)) ∧ PySem.Within mA (fs.map (·.1))
  | .own _ => ∃ o, h.get? a = some o
  | .xd fs => ∃ mA, h.Ns1 a mA ∧ ∀ f, RelO (fs.lookup f) (mA f)
  | .rng lo hi => ∃ t u v, h.get? a = some { cls := .type "range", data := .fields #[.int lo t, .int hi u, .int 1 v] }
  | .frz o u => h.get? a = some o ∧ ObjOk H h a u
  | .tbl ps => h.get? a = some { cls := .none, data := .fields ps }
  | .met f x => h.get? a = some (PySem.W.methodObj (.ref f) (.ref x))
  | .ext φ => φ h ∧ (∃ o, h.get? a = some o) ∧ ∀ h1 h2 : Heap, φ h1 → (∀ o, h1.get? a = some o → h2.get? a = some o) → φ h2
/-- the abstract heap is held -/
def HOk (H : Hp) (h : Heap) : Prop := ∀ a o, H a = some o → ObjOk P w H h a o
end

section
variable {P : Program} {w : World} {H H' : Hp} {h h' : Heap} {a : Addr} {o : HO}
theorem ObjOk.lt (x : ObjOk P w H h a o) : a < h.objs.size := by
  cases o with
  | lst xs => obtain ⟨_, _, _, _, e⟩ := x; exact Heap.lt_size e
  | tup xs => obtain ⟨_, _, _, p⟩ := x; exact p.lt
  | dK kvs => obtain ⟨_, _, _, _, o, _, _, e, _⟩ := x; exact Heap.lt_size e
  | dT kvs => obtain ⟨_, _, _, _, o, _, _, e, _⟩ := x; exact Heap.lt_size e
  | set S n => obtain ⟨o, _, _, _, e, _⟩ := x; exact Heap.lt_size e
  | ins C dx fs => obtain ⟨_, _, _, e, _⟩ := x; exact Heap.lt_size e
  | own y => obtain ⟨_, e⟩ := x; exact Heap.lt_size e
  | xd fs => obtain ⟨_, ⟨_, _, _, e, _⟩, _⟩ := x; exact Heap.lt_size e
  | rng lo hi => obtain ⟨_, _, _, e⟩ := x; exact Heap.lt_size e
  | frz ob u => obtain ⟨e, _⟩ := x; exact Heap.lt_size e
  | tbl ps => exact Heap.lt_size (show h.get? a = some _ from x)
  | met f y => exact Heap.lt_size (show h.get? a = some _ from x)
  | ext φ => obtain ⟨_, ⟨_, e⟩, _⟩ := x; exact Heap.lt_size e
theorem Paired.mapP {α β : Type} {F G : α → β → Prop} : ∀ {l₁ : List α} {l₂ : List β}, Paired F l₁ l₂ → (∀ a b, F a b → G a b) → Paired G l₁ l₂
  | _, _, .nil, _ => .nil
  | _, _, .cons r t, f => .cons (f _ _ r) (Paired.mapP t f)
theorem Paired.imp' {α β : Type} {F G : α → β → Prop} (f : ∀ a b, F a b → G a b) {l₁ : List α} {l₂ : List β} (r : Paired F l₁ l₂) : Paired G l₁ l₂ := Paired.mapP r f
/-- what an object's description leans on: its own object, its own dict, the tuples -/
theorem ObjOk.stay (x : ObjOk P w H h a o) (k : ∀ b u, (b = a ∨ H b = some (.own a)) → h.get? b = some u → h'.get? b = some u)
    (ho : ∀ b, H b = some (.own a) → H' b = some (.own a)) (ht : ∀ b xs, H b = some (.tup xs) → H' b = some (.tup xs)) : ObjOk P w H' h' a o := by
  induction o with
  | lst xs => obtain ⟨z, its, n, r, e⟩ := x; exact ⟨z, its, n, r, k _ _ (.inl rfl) e⟩
  | tup xs => obtain ⟨z, its, r, ob, e, c⟩ := x; exact ⟨z, its, r, ob, k _ _ (.inl rfl) e, c⟩
  | dK kvs => obtain ⟨z, y, vs, r, ob, es, ep, e, c⟩ := x; exact ⟨z, y, vs, r, ob, es, ep, k _ _ (.inl rfl) e, c⟩
  | dT kvs =>
    obtain ⟨z, y, xs, r, ob, es, ep, e, c⟩ := x
    exact ⟨z, y, xs, Paired.mapP r fun p q z => ⟨z.1, ht _ _ z.2.1, z.2.2⟩, ob, es, ep, k _ _ (.inl rfl) e, c⟩
  | set S n => obtain ⟨ob, es, ep, t, e, c⟩ := x; exact ⟨ob, es, ep, t, k _ _ (.inl rfl) e, c⟩
  | ins C dx fs =>
    obtain ⟨d, z, ne, e, mA, ⟨od, es, ep, e2, c⟩, r⟩ := x
    exact ⟨ho _ d, z, ne, k _ _ (.inl rfl) e, mA, ⟨od, es, ep, k _ _ (.inr d) e2, c⟩, r⟩
  | own y => obtain ⟨ob, e⟩ := x; exact ⟨ob, k _ _ (.inl rfl) e⟩
  | xd fs => obtain ⟨mA, ⟨od, es, ep, e, c⟩, r⟩ := x; exact ⟨mA, ⟨od, es, ep, k _ _ (.inl rfl) e, c⟩, r⟩
  | rng lo hi => obtain ⟨t, u, v, e⟩ := x; exact ⟨t, u, v, k _ _ (.inl rfl) e⟩
  | frz ob u ih => obtain ⟨e, q⟩ := x; exact ⟨k _ _ (.inl rfl) e, ih q⟩
  | tbl ps =>
    have e : h.get? a = some { cls := .none, data := .fields ps } := x
    show h'.get? a = some { cls := .none, data := .fields ps }
    exact k a _ (.inl rfl) e
  | met f y =>
    have e : h.get? a = some (PySem.W.methodObj (.ref f) (.ref y)) := x
    show h'.get? a = some (PySem.W.methodObj (.ref f) (.ref y))
    exact k a _ (.inl rfl) e
  | ext φ => obtain ⟨p, ⟨o, e⟩, st⟩ := x; exact ⟨st _ _ p fun o q => k _ _ (.inl rfl) q, ⟨o, k _ _ (.inl rfl) e⟩, st⟩
theorem HOk.lt (x : HOk P w H h) (e : H a = some o) : a < h.objs.size := (x a o e).lt
theorem HOk.fresh (x : HOk P w H h) (e : h.objs.size ≤ a) : H a = none := by
  cases q : H a with
  | none => rfl
  | some u => exact absurd (Nat.lt_of_lt_of_le (x.lt q) e) (Nat.lt_irrefl _)
/-- every object of the heap is kept -/
theorem HOk.kept (x : HOk P w H h) (k : ∀ b u, h.get? b = some u → h'.get? b = some u) : HOk P w H h' := fun a o e =>
  (x a o e).stay (fun b u _ q => k b u q) (fun _ q => q) fun _ _ q => q
/-- a new object is laid and tracked -/
theorem HOk.laid (x : HOk P w H h) (k : ∀ b u, h.get? b = some u → h'.get? b = some u) (hp : h.objs.size ≤ a) (new : ObjOk P w (upd H a o) h' a o) : HOk P w (upd H a o) h' := fun b u e => by
  have hn := x.fresh hp
  by_cases hb : b = a
  · subst hb; rw [upd_same] at e; cases e; exact new
  · rw [upd_ne hb] at e
    exact (x b u e).stay (fun c v _ q => k c v q) (fun c q => by rw [upd_ne (ne_of_none q hn)]; exact q) fun c xs q => by rw [upd_ne (ne_of_none q hn)]; exact q
end

/-- what may be read as u: it is u, or a known u -/
def Rd (H : Hp) (a : Addr) (u : HO) : Prop := H a = some u ∨ ∃ o, H a = some (.frz o u)
theorem Rd.of {H : Hp} {a : Addr} {u : HO} (h : H a = some u) : Rd H a u := .inl h
theorem Rd.ok {P : Program} {w : World} {H : Hp} {h : Heap} {a : Addr} {u : HO} (r : Rd H a u) (x : HOk P w H h) : ObjOk P w H h a u := by
  rcases r with r | ⟨o, r⟩
  · exact x a u r
  · obtain ⟨_, q⟩ := x a _ r
    exact q
/-- what may be written -/
def Mut : Option HO → Prop
  | some (.lst _) => True
  | some (.dK _) => True
  | some (.dT _) => True
  | some (.set _ _) => True
  | some (.ins _ _ _) => True
  | some (.ext _) => True
  | _ => False
section
variable {P : Program} {w : World} {H : Hp} {h h' : Heap} {x e : Addr} {o' : HO}
/-- the object at e is changed: x itself, or the dict of the instance x -/
theorem HOk.write (ok : HOk P w H h) (mu : Mut (H x)) (he : e = x ∨ H e = some (.own x)) (k : ∀ b u, b ≠ e → h.get? b = some u → h'.get? b = some u) (heo : ∃ u, h'.get? e = some u)
    (new : ObjOk P w (upd H x o') h' x o') : HOk P w (upd H x o') h' := fun b u q => by
  have nown : ∀ c y, H c = some (.own y) → c ≠ x := fun c y r z => by subst z; rw [r] at mu; exact mu
  have ntup : ∀ c xs, H c = some (.tup xs) → c ≠ x := fun c xs r z => by subst z; rw [r] at mu; exact mu
  by_cases hb : b = x
  · subst hb; rw [upd_same] at q; cases q; exact new
  · rw [upd_ne hb] at q
    by_cases hbe : b = e
    · have q' : H b = some (.own x) := by
        rcases he with z | z
        · exact absurd (hbe.trans z) hb
        · rw [hbe]; exact z
      rw [q] at q'; cases q'
      obtain ⟨v, hv⟩ := heo
      exact ⟨v, by rw [hbe]; exact hv⟩
    · refine (ok b u q).stay (fun c v hc r => k c v ?_ r) (fun c r => by rw [upd_ne (nown c b r)]; exact r) fun c xs r => by rw [upd_ne (ntup c xs r)]; exact r
      rcases hc with rfl | hc
      · exact hbe
      · rintro rfl
        rcases he with z | z
        · exact nown c b hc z
        · rw [hc] at z; cases z; exact hb rfl
end

/-! ### kept unless tracked; of the frames at fs (the callers') the slots may change (an exception that passes writes there); of the records at ex (iterators) nothing is said -/
structure Un (fs ex : List Addr) (H H' : Hp) (h h' : Heap) : Prop where
  keep : ∀ b o, h.get? b = some o → H b = none → b ∉ fs → b ∉ ex → h'.get? b = some o
  slot : ∀ b o, h.get? b = some o → H b = none → b ∈ fs → b ∉ ex → ∃ sl, h'.get? b = some { o with slots := sl }
  free : ∀ b o, h.get? b = some o → H b = none → b ∉ ex → H' b = none
  there : ∀ b o, h.get? b = some o → b ∉ ex → ∃ o', h'.get? b = some o'
  tups : ∀ b xs, H b = some (.tup xs) → H' b = some (.tup xs)
  frzs : ∀ b o u, H b = some (.frz o u) → H' b = some (.frz o u)
  tbls : ∀ b ps, H b = some (.tbl ps) → ∃ more, H' b = some (.tbl (ps ++ more))
section
variable {fs fs' ex ex' : List Addr} {H H1 H2 : Hp} {h h1 h2 h' : Heap} {a x e : Addr} {o : HO}
theorem Un.any (u : Un fs ex H H1 h h1) {b : Addr} {ob : Obj} (q : h.get? b = some ob) (n : H b = none) (hx : b ∉ ex) : ∃ sl, h1.get? b = some { ob with slots := sl } := by
  by_cases hb : b ∈ fs
  · exact u.slot b ob q n hb hx
  · exact ⟨ob.slots, u.keep b ob q n hb hx⟩
theorem Un.trans (a : Un fs ex H H1 h h1) (b : Un fs ex H1 H2 h1 h2) : Un fs ex H H2 h h2 where
  keep := fun c ob q n hc hx => b.keep c ob (a.keep c ob q n hc hx) (a.free c ob q n hx) hc hx
  slot := fun c ob q n hc hx => by
    obtain ⟨sl, e1⟩ := a.slot c ob q n hc hx
    obtain ⟨sl', e2⟩ := b.slot c _ e1 (a.free c ob q n hx) hc hx
    exact ⟨sl', e2⟩
  free := fun c ob q n hx => by
    obtain ⟨o', e1⟩ := a.there c ob q hx
    exact b.free c o' e1 (a.free c ob q n hx) hx
  there := fun c ob q hx => by
    obtain ⟨o', e1⟩ := a.there c ob q hx
    exact b.there c o' e1 hx
  tups := fun c xs q => b.tups c xs (a.tups c xs q)
  frzs := fun c ob xs q => b.frzs c ob xs (a.frzs c ob xs q)
  tbls := fun c ps q => by
    obtain ⟨m1, e1⟩ := a.tbls c ps q
    obtain ⟨m2, e2⟩ := b.tbls c _ e1
    exact ⟨m1 ++ m2, by rw [e2, Array.append_assoc]⟩
theorem Un.kept (k : ∀ b u, h.get? b = some u → h'.get? b = some u) : Un fs ex H H h h' :=
  ⟨fun b ob q _ _ _ => k b ob q, fun b ob q _ _ _ => ⟨ob.slots, k b ob q⟩, fun _ _ _ n _ => n, fun b ob q _ => ⟨ob, k b ob q⟩, fun _ _ q => q, fun _ _ _ q => q, fun _ ps q => ⟨#[], by rw [q]; simp⟩⟩
theorem Un.refl : Un fs ex H H h h := Un.kept fun _ _ q => q
theorem Un.laid (k : ∀ b u, h.get? b = some u → h'.get? b = some u) (hp : h.objs.size ≤ a) (hn : H a = none) : Un fs ex H (upd H a o) h h' where
  keep := fun b u q _ _ _ => k b u q
  slot := fun b u q _ _ _ => ⟨u.slots, k b u q⟩
  free := fun b u q n _ => by rw [upd_ne (Nat.ne_of_lt (Nat.lt_of_lt_of_le (Heap.lt_size q) hp))]; exact n
  there := fun b u q _ => ⟨u, k b u q⟩
  tups := fun b xs q => by rw [upd_ne (ne_of_none q hn)]; exact q
  frzs := fun b u xs q => by rw [upd_ne (ne_of_none q hn)]; exact q
  tbls := fun b ps q => ⟨#[], by rw [upd_ne (ne_of_none q hn), q]; simp⟩
theorem Un.write (mu : Mut (H x)) (he : e = x ∨ H e = some (.own x)) (k : ∀ b u, b ≠ e → h.get? b = some u → h'.get? b = some u) (heo : ∃ u, h'.get? e = some u) : Un fs ex H (upd H x o) h h' := by
  have hx : ∀ b, H b = none → b ≠ x := fun b n z => by subst z; rw [n] at mu; exact mu
  have hb : ∀ b, H b = none → b ≠ e := fun b n z => by
    subst z
    rcases he with r | r
    · exact hx b n r
    · rw [n] at r; cases r
  have hm : ∀ b u, H b = some u → ¬ Mut (some u) → b ≠ x := fun b u q nm z => by subst z; rw [q] at mu; exact nm mu
  refine ⟨fun b u q n _ _ => k b u (hb b n) q, fun b u q n _ _ => ⟨u.slots, k b u (hb b n) q⟩, fun b u q n _ => by rw [upd_ne (hx b n)]; exact n, fun b u q _ => ?_,
    fun b xs q => by rw [upd_ne (hm b _ q fun z => z)]; exact q, fun b u xs q => by rw [upd_ne (hm b _ q fun z => z)]; exact q, fun b ps q => ⟨#[], by rw [upd_ne (hm b _ q fun z => z), q]; simp⟩⟩
  by_cases hbe : b = e
  · subst hbe; exact heo
  · exact ⟨u, k b u hbe q⟩
theorem Un.mono (u : Un fs ex H H1 h h1) (hs : ∀ b ∈ fs, b ∈ fs') (hx : ∀ b ∈ ex, b ∈ ex') : Un fs' ex' H H1 h h1 :=
  ⟨fun b ob q n hb he => u.keep b ob q n (fun z => hb (hs b z)) fun z => he (hx b z), fun _ _ q n _ he => u.any q n fun z => he (hx _ z), fun b ob q n he => u.free b ob q n fun z => he (hx b z), fun b ob q he => u.there b ob q fun z => he (hx b z), u.tups, u.frzs, u.tbls⟩
end

/-! ### the heap without what is tracked -/
def trk (h : Heap) (H : Hp) : List Addr := (List.range h.objs.size).filter fun a => (H a).isSome
def hidT (h : Heap) (H : Hp) : Heap := PySem.W.hideAll h (trk h H)
theorem hidT_size (h : Heap) (H : Hp) : (hidT h H).objs.size = h.objs.size := PySem.W.hideAll_size _ _
theorem hidT_get {h : Heap} {H : Hp} {b : Addr} {o : Obj} (e : h.get? b = some o) (n : H b = none) : (hidT h H).get? b = some o :=
  PySem.W.hideAll_get _ e fun hm => by
    have q : (H b).isSome = true := (List.mem_filter.mp hm).2
    rw [n] at q; simp at q
theorem of_hidT {h : Heap} {H : Hp} {b : Addr} {o : Obj} (e : (hidT h H).get? b = some o) : h.get? b = some o ∧ H b = none := by
  have e' : h.get? b = some o := PySem.W.of_hideAll (trk h H) e
  refine ⟨e', ?_⟩
  cases q : H b with
  | none => rfl
  | some x =>
    have hm : b ∈ trk h H := List.mem_filter.mpr ⟨List.mem_range.mpr (Heap.lt_size e'), by simp [q]⟩
    have z : (hidT h H).get? b = none := PySem.W.hideAll_none (trk h H) hm
    rw [z] at e; cases e

/-! ### OpenK's ledger, filled with every new object but one -/
def allNews (g h : Heap) (L : Addr) : List (Addr × Obj) := (List.range h.objs.size).filterMap fun a => if a = L ∨ (g.get? a).isSome = true then none else (h.get? a).map fun o => (a, o)
theorem mem_allNews {g h : Heap} {L a : Addr} {o : Obj} (h1 : a ≠ L) (h2 : g.get? a = none) (h3 : h.get? a = some o) : (a, o) ∈ allNews g h L :=
  List.mem_filterMap.mpr ⟨a, List.mem_range.mpr (Heap.lt_size h3), by simp [h1, h2, h3]⟩
theorem of_mem_allNews {g h : Heap} {L : Addr} {p : Addr × Obj} (hp : p ∈ allNews g h L) : p.1 ≠ L ∧ g.get? p.1 = none ∧ h.get? p.1 = some p.2 := by
  obtain ⟨b, _, e⟩ := List.mem_filterMap.mp hp
  split at e
  · cases e
  · rename_i hn
    cases q : h.get? b with
    | none => rw [q] at e; simp at e
    | some u =>
      rw [q] at e
      simp only [Option.map_some, Option.some.injEq] at e
      subst e
      refine ⟨fun z => hn (.inl z), ?_, q⟩
      show g.get? b = none
      cases r : g.get? b with
      | none => rfl
      | some v => exact (hn (.inr (by simp [r]))).elim
def rest (g h : Heap) (L d : Addr) : List (Addr × Obj) := (allNews g h L).filter fun p => decide (p.1 ≠ d)
theorem rest_ne {g h : Heap} {L d : Addr} : ∀ p ∈ rest g h L d, p.1 ≠ d := fun p hp => of_decide_eq_true (List.mem_filter.mp hp).2
theorem mem_rest {g h : Heap} {L d a : Addr} {o : Obj} (h1 : a ≠ L) (h2 : g.get? a = none) (h3 : h.get? a = some o) (h4 : a ≠ d) : (a, o) ∈ rest g h L d :=
  List.mem_filter.mpr ⟨mem_allNews h1 h2 h3, decide_eq_true h4⟩
theorem news_all {g h : Heap} {L : Addr} : News g L h (allNews g h L) := fun p hp => let ⟨a, b, c⟩ := of_mem_allNews hp; ⟨c, a, b⟩
theorem news_at {g h : Heap} {L d : Addr} {o : Obj} (h1 : d ≠ L) (h2 : g.get? d = none) (h3 : h.get? d = some o) : News g L h ((d, o) :: rest g h L d) := fun p hp => by
  rcases List.mem_cons.mp hp with rfl | hp
  · exact ⟨h3, h1, h2⟩
  · exact news_all p (List.mem_filter.mp hp).1
/-- behind a rule that changed d alone: all else but the frame is kept -/
theorem kept_of_news {g h h' : Heap} {L d : Addr} {m : Str → Option Value} (k : ∀ b o, g.get? b = some o → h.get? b = some o) (F : Fr g L h' m) (N : News g L h' (rest g h L d)) :
    ∀ b o, b ≠ L → b ≠ d → h.get? b = some o → h'.get? b = some o := fun b o h1 h2 e => by
  cases q : g.get? b with
  | some u =>
    have := k b u q
    rw [e] at this; cases this
    exact F.keep b _ q
  | none => exact (N (b, o) (mem_rest h1 q e h2)).1
end L2

namespace L2
open PySem PySem.Spec PyProof.Rows

/-- the module's facts, over the base: the heap at the law's entry without what is tracked there -/
structure Mod (K : PySem.W.Frag) (mg : Str → Option Value) (base : Heap) : Prop where
  kin : K.In base
  glob : base.Ns mainGlobals mg
  blt : ∃ mb, base.Ns builtinsNs mb ∧ ∀ x : Str, x ≠ "__name__" → mb x = bootBuiltins x
  nolimit : base.NoLimit

/-- the context: a def's body (or a comprehension's block) running. base: fixed through the whole law; s₀, H₀: the entry; outer: the frames whose slots others may change (a def's callers); stack: all frames that run;
   ex: iterators that were made ahead of the entry and are walked here (a comprehension's); fn: the names whose cells were made at the entry (a def: all; a comprehension's block: its own); calm: not within an except suite; pn: pins that every state bears; xe: what is wanted of an exception that leaves the code -/
structure Cx where
  prog : Program
  w : World
  K : PySem.W.Frag
  mg : Str → Option Value
  base : Heap
  A : Around
  N : List Str
  s_0 : Shared
  H_0 : Hp
  env : Env
  outer : List Env
  stack : List Env
  ex : List Addr
  fn : Str → Bool
  calm : Bool
  pn : List (Addr × Obj)
  xe : Value → Shared → Prop
/-- the callers' frames -/
def frs (l : List Env) : List Addr := l.filterMap (·.frame)
abbrev Cx.fs (X : Cx) : List Addr := frs X.outer

def Vis (sc : Scope) (x : Str) : Prop := sc.names.lookup x = some .local ∨ sc.names.lookup x = some .cell ∨ sc.names.lookup x = some .free
def Loc (sc : Scope) (x : Str) : Prop := sc.names.lookup x = some .local ∨ sc.names.lookup x = some .cell
def Look (env : Env) (h : Heap) (m : Str → Option Value) (x : Str) (u : Value) : Prop :=
  (env.kindOf x = some .local ∧ m x = some u) ∨ ((env.kindOf x = some .cell ∨ env.kindOf x = some .free) ∧ ∃ c, env.cells.lookup x = some c ∧ h.IsCell c (some u))

structure Cx.Ok (X : Cx) : Prop where
  mod : Mod X.K X.mg X.base
  kind : X.env.scope.kind = .function
  glob : X.env.globals = mainGlobals
  blt : X.env.builtins = builtinsNs
  above : X.s_0.heap.objs.size ≤ X.env.locals
  inj : ∀ x y c, X.env.cells.lookup x = some c → X.env.cells.lookup y = some c → x = y
  has : ∀ x, (X.env.kindOf x = some .cell ∨ X.env.kindOf x = some .free) → ∃ c, X.env.cells.lookup x = some c
  cab : ∀ x c, X.fn x = true → X.env.cells.lookup x = some c → X.s_0.heap.objs.size ≤ c
  hd : X.calm = true → X.A.handled = none
  frames : X.A.frames = some X.stack
  stk : X.stack = X.outer ∨ (X.stack = X.env :: X.outer ∧ X.env.frame = some X.env.locals)
  exf : ∀ b ∈ X.ex, b ≠ X.env.locals ∧ ∀ x c, X.env.cells.lookup x = some c → c ≠ b
  bs : ∀ b o, X.base.get? b = some o → X.s_0.heap.get? b = some o ∧ X.H_0 b = none
  bsz : X.base.objs.size ≤ X.s_0.heap.objs.size
  noex : ∀ b o, X.base.get? b = some o → b ∉ X.ex
  exfs : ∀ b ∈ X.ex, b ∉ X.fs
  funs : X.s_0.heap.FunFrames X.base X.outer
  frf : ∀ b ∈ X.fs, X.H_0 b = none

structure Inv (X : Cx) (pins : List (Addr × Obj)) (σ : List (Option V)) (H : Hp) (s : Shared) : Prop where
  ok : X.Ok
  os : s.os = X.s_0.os
  bare : AllBare s.gens
  base : Un X.fs X.ex X.H_0 H X.s_0.heap s.heap
  loc : ∃ m, s.heap.Ns X.env.locals m ∧ ∀ (i : Nat) (x : Str) (v : V), X.N[i]? = some x → σ[i]? = some (some v) → Vis X.env.scope x → ∃ u, RelV v u ∧ Look X.env s.heap m x u
  cell : ∀ x c, X.env.cells.lookup x = some c → ∃ v, s.heap.IsCell c v
  free : H X.env.locals = none
  freeC : ∀ x c, X.env.cells.lookup x = some c → H c = none
  pin : ∀ p ∈ X.pn ++ pins, s.heap.get? p.1 = some p.2 ∧ H p.1 = none ∧ p.1 ≠ X.env.locals ∧ p.1 ∉ X.fs ∧ ∀ v, p.2.data ≠ .cell v
  hok : HOk X.prog X.w H s.heap
  len : σ.length = X.N.length

section
variable {X : Cx} {pins : List (Addr × Obj)} {σ : List (Option V)} {H H' : Hp} {s : Shared} {h' : Heap}

theorem Cx.Ok.nofr (ok : X.Ok) {b : Addr} {o : Obj} (e : X.base.get? b = some o) : b ∉ X.fs := fun hb => by
  have := (ok.funs.mem hb).1
  rw [e] at this; cases this
theorem Inv.bs (I : Inv X pins σ H s) : ∀ b o, X.base.get? b = some o → s.heap.get? b = some o ∧ H b = none := fun b o e =>
  ⟨I.base.keep b o (I.ok.bs b o e).1 (I.ok.bs b o e).2 (I.ok.nofr e) (I.ok.noex b o e), I.base.free b o (I.ok.bs b o e).1 (I.ok.bs b o e).2 (I.ok.noex b o e)⟩
theorem Inv.bk (I : Inv X pins σ H s) : ∀ b o, X.base.get? b = some o → s.heap.get? b = some o := fun b o e => (I.bs b o e).1
theorem Inv.mod (I : Inv X pins σ H s) : Mod X.K X.mg X.base := I.ok.mod
theorem Inv.kIn (I : Inv X pins σ H s) : X.K.In s.heap := I.ok.mod.kin.keeps I.bk
theorem Inv.nolimit (I : Inv X pins σ H s) : s.heap.NoLimit := I.ok.mod.nolimit.keeps I.bk
/-- the frame over the base: for OpenK's rules (K.In X.base is I.mod.kin) -/
theorem Inv.fr (I : Inv X pins σ H s) : ∃ m, Fr X.base X.env.locals s.heap m :=
  let ⟨m, hn, _⟩ := I.loc
  ⟨m, hn, I.bk, Nat.le_trans I.ok.bsz I.ok.above⟩
theorem Inv.lt (I : Inv X pins σ H s) : X.env.locals < s.heap.objs.size := let ⟨_, hn, _⟩ := I.loc; hn.lt
theorem Inv.sz (I : Inv X pins σ H s) : X.s_0.heap.objs.size ≤ s.heap.objs.size := Nat.le_trans I.ok.above (Nat.le_of_lt I.lt)
theorem Inv.nofs (I : Inv X pins σ H s) {a : Addr} (h : s.heap.objs.size ≤ a) : a ∉ X.fs := fun hb => by
  obtain ⟨_, o, ho, _⟩ := I.ok.funs.mem hb
  exact absurd (Nat.lt_of_lt_of_le (Heap.lt_size ho) (Nat.le_trans I.sz h)) (Nat.lt_irrefl _)
theorem Inv.cne (I : Inv X pins σ H s) : ∀ x c, X.env.cells.lookup x = some c → c ≠ X.env.locals := fun x c e z => by
  obtain ⟨v, o, ho, hd⟩ := I.cell x c e
  obtain ⟨m, ⟨o', es, ep, ho', hd', _⟩, _⟩ := I.loc
  rw [z, ho'] at ho; cases ho; rw [hd'] at hd; cases hd
theorem Inv.funs (I : Inv X pins σ H s) : s.heap.FunFrames X.base X.outer := by
  have all : ∀ (l : List Env), (∀ b ∈ frs l, b ∈ X.fs) → X.s_0.heap.FunFrames X.base l → s.heap.FunFrames X.base l := by
    intro l
    induction l with
    | nil => intro _ _; trivial
    | cons env r ih =>
      intro hs hl
      obtain ⟨hk, ⟨L, o, hf, hn, ho, hd⟩, hr⟩ := hl
      have hL : L ∈ X.fs := hs L (by unfold frs; rw [List.filterMap_cons, hf]; exact List.mem_cons_self)
      obtain ⟨sl, e⟩ := I.base.slot L o ho (I.ok.frf L hL) hL fun z => I.ok.exfs L z hL
      exact ⟨hk, ⟨L, _, hf, hn, e, hd⟩, ih (fun b hb => hs b (by unfold frs; rw [List.filterMap_cons, hf]; exact List.mem_cons_of_mem _ hb)) hr⟩
  exact all X.outer (fun _ hb => hb) I.ok.funs

/-- the frames that run, for a call -/
theorem Inv.stack (I : Inv X pins σ H s) : s.heap.FunFrames X.base X.stack := by
  rcases I.ok.stk with e | ⟨e, hf⟩
  · rw [e]; exact I.funs
  · rw [e]
    obtain ⟨m, hn, _⟩ := I.loc
    refine .cons (by rw [I.ok.kind]; decide) hf hn ?_ I.funs
    exact Heap.get?_none_of_le (Nat.le_trans I.ok.bsz I.ok.above)
theorem Inv.stkSub (I : Inv X pins σ H s) : ∀ b ∈ frs X.stack, b ∈ X.env.locals :: X.fs := fun b hb => by
  rcases I.ok.stk with e | ⟨e, hf⟩
  · rw [e] at hb; exact List.mem_cons_of_mem _ hb
  · rw [e] at hb
    unfold frs at hb
    rw [List.filterMap_cons, hf] at hb
    exact hb
theorem Inv.stkFree (I : Inv X pins σ H s) : ∀ b ∈ frs X.stack, H b = none := fun b hb => by
  rcases List.mem_cons.mp (I.stkSub b hb) with e | hb
  · rw [e]; exact I.free
  · obtain ⟨_, o, ho, _⟩ := I.ok.funs.mem hb
    exact I.base.free b o ho (I.ok.frf b hb) fun z => I.ok.exfs b z hb

/-- THE STEP: the untracked objects but the frame and the records at ch are kept (the callers' frames up to slots), the frame's map is kept, the new abstract heap is held -/
theorem Inv.step {g' : Array GenState} {t' : Nat} {d' : Drawn} {ch : List Addr} (I : Inv X pins σ H s)
    (hch : ∀ b ∈ ch, (b ∈ X.ex ∨ X.s_0.heap.objs.size ≤ b) ∧ b ≠ X.env.locals ∧ (∀ x c, X.env.cells.lookup x = some c → c ≠ b) ∧ ∀ p ∈ X.pn ++ pins, p.1 ≠ b)
    (keep : ∀ b o, b ≠ X.env.locals → b ∉ X.fs → b ∉ ch → s.heap.get? b = some o → H b = none → h'.get? b = some o)
    (slot : ∀ b o, b ≠ X.env.locals → b ∈ X.fs → b ∉ ch → s.heap.get? b = some o → H b = none → ∃ sl, h'.get? b = some { o with slots := sl }) (free : ∀ b o, b ∉ ch → s.heap.get? b = some o → H b = none → H' b = none)
    (there : ∀ b o, b ∉ ch → s.heap.get? b = some o → ∃ o', h'.get? b = some o')
    (tups : ∀ b xs, H b = some (.tup xs) → H' b = some (.tup xs)) (frzs : ∀ b o u, H b = some (.frz o u) → H' b = some (.frz o u)) (tbls : ∀ b ps, H b = some (.tbl ps) → ∃ more, H' b = some (.tbl (ps ++ more)))
    (ns : ∀ m, s.heap.Ns X.env.locals m → h'.Ns X.env.locals m) (hok : HOk X.prog X.w H' h') (hg : AllBare g') :
    Inv X pins σ H' { s with heap := h', gens := g', drawn := d', toks := t' } := by
  have neL : ∀ b o, X.s_0.heap.get? b = some o → b ≠ X.env.locals := fun b o e => Nat.ne_of_lt (Nat.lt_of_lt_of_le (Heap.lt_size e) I.ok.above)
  have neC : ∀ b o, X.s_0.heap.get? b = some o → b ∉ X.ex → b ∉ ch := fun b o e hx hb => by
    rcases (hch b hb).1 with z | z
    · exact hx z
    · exact absurd (Nat.lt_of_lt_of_le (Heap.lt_size e) z) (Nat.lt_irrefl _)
  have cellK : ∀ x c, X.env.cells.lookup x = some c → ∀ v, s.heap.IsCell c v → h'.IsCell c v := fun x c e v ⟨o, ho, hd⟩ => by
    have nch : c ∉ ch := fun z => (hch c z).2.2.1 x c e rfl
    by_cases hc : c ∈ X.fs
    · obtain ⟨sl, q⟩ := slot c o (I.cne x c e) hc nch ho (I.freeC x c e)
      exact ⟨_, q, hd⟩
    · exact ⟨o, keep c o (I.cne x c e) hc nch ho (I.freeC x c e), hd⟩
  refine ⟨I.ok, I.os, hg, ⟨fun b o e n hb hx => ?_, fun b o e n hb hx => ?_, fun b o e n hx => ?_, fun b o e hx => ?_, fun b xs e => tups b xs (I.base.tups b xs e), fun b o xs e => frzs b o xs (I.base.frzs b o xs e), fun b ps e => ?_⟩, ?_, fun x c e => ?_, ?_, fun x c e => ?_, fun p hp => ?_, hok, I.len⟩
  · exact keep b o (neL b o e) hb (neC b o e hx) (I.base.keep b o e n hb hx) (I.base.free b o e n hx)
  · obtain ⟨sl, e1⟩ := I.base.slot b o e n hb hx
    obtain ⟨sl', e2⟩ := slot b _ (neL b o e) hb (neC b o e hx) e1 (I.base.free b o e n hx)
    exact ⟨sl', e2⟩
  · obtain ⟨o', e1⟩ := I.base.there b o e hx
    exact free b o' (neC b o e hx) e1 (I.base.free b o e n hx)
  · obtain ⟨o', e1⟩ := I.base.there b o e hx
    exact there b o' (neC b o e hx) e1
  · obtain ⟨m1, e1⟩ := I.base.tbls b ps e
    obtain ⟨m2, e2⟩ := tbls b _ e1
    exact ⟨m1 ++ m2, by rw [e2, Array.append_assoc]⟩
  · obtain ⟨m, hn, hl⟩ := I.loc
    refine ⟨m, ns m hn, fun i x v e1 e2 e3 => ?_⟩
    obtain ⟨u, r, l⟩ := hl i x v e1 e2 e3
    refine ⟨u, r, ?_⟩
    rcases l with l | ⟨k, c, e, z⟩
    · exact .inl l
    · exact .inr ⟨k, c, e, cellK x c e _ z⟩
  · obtain ⟨v, z⟩ := I.cell x c e
    exact ⟨v, cellK x c e v z⟩
  · obtain ⟨m, ⟨o, _, _, ho, _⟩, _⟩ := I.loc
    exact free _ o (fun z => (hch _ z).2.1 rfl) ho I.free
  · obtain ⟨v, o, ho, hd⟩ := I.cell x c e
    exact free c o (fun z => (hch c z).2.2.1 x c e rfl) ho (I.freeC x c e)
  · obtain ⟨e, n, ne, nf, d⟩ := I.pin p hp
    have nch : p.1 ∉ ch := fun z => (hch p.1 z).2.2.2 p hp rfl
    exact ⟨keep p.1 p.2 ne nf nch e n, free p.1 p.2 nch e n, ne, nf, d⟩
/-- .. where the frame's own object is kept too -/
theorem Inv.un {t' : Nat} (I : Inv X pins σ H s) (u : Un X.fs [] H H' s.heap h') (hok : HOk X.prog X.w H' h') : Inv X pins σ H' { s with heap := h', toks := t' } := by
  obtain ⟨m, ⟨o, es, ep, ho, r⟩, _⟩ := id I.loc
  obtain ⟨sl, hL⟩ := u.any ho I.free (by simp)
  exact I.step (g' := s.gens) (d' := s.drawn) (ch := []) (fun _ z => nomatch z) (fun b o _ hb _ e n => u.keep b o e n hb (by simp)) (fun b o _ hb _ e n => u.slot b o e n hb (by simp)) (fun b o _ e n => u.free b o e n (by simp)) (fun b o _ e => u.there b o e (by simp)) u.tups u.frzs u.tbls (fun m' hm => by
    obtain ⟨o', es', ep', ho', r'⟩ := hm
    rw [ho] at ho'; cases ho'
    exact ⟨_, es', ep', hL, r'⟩) hok I.bare
/-- behind a call (or a comprehension's block): the slots of this frame may have changed too, the records at ch may have turned -/
theorem Inv.call {g' : Array GenState} {t' : Nat} {d' : Drawn} {ch : List Addr} (I : Inv X pins σ H s) (u : Un (frs X.stack) ch H H' s.heap h') (hok : HOk X.prog X.w H' h') (hg : AllBare g')
    (hch : ∀ b ∈ ch, (b ∈ X.ex ∨ X.s_0.heap.objs.size ≤ b) ∧ b ≠ X.env.locals ∧ (∀ x c, X.env.cells.lookup x = some c → c ≠ b) ∧ ∀ p ∈ X.pn ++ pins, p.1 ≠ b) :
    Inv X pins σ H' { s with heap := h', gens := g', drawn := d', toks := t' } := by
  obtain ⟨m, ⟨o, es, ep, ho, r⟩, _⟩ := id I.loc
  obtain ⟨sl, hL⟩ := u.any ho I.free fun z => (hch _ z).2.1 rfl
  exact I.step (ch := ch) hch (fun b o hL hb hc e n => u.keep b o e n (fun z => (List.mem_cons.mp (I.stkSub b z)).elim hL hb) hc) (fun b o _ _ hc e n => u.any e n hc) (fun b o hc e n => u.free b o e n hc) (fun b o hc e => u.there b o e hc) u.tups u.frzs u.tbls (fun m' hm => by
    obtain ⟨o', es', ep', ho', r'⟩ := hm
    rw [ho] at ho'; cases ho'
    exact ⟨_, es', ep', hL, r'⟩) hok hg
/-- an untracked record of ours (an iterator) has turned -/
theorem Inv.turned {t' : Nat} {it : Addr} (I : Inv X pins σ H s) (k : ∀ b o, b ≠ it → s.heap.get? b = some o → h'.get? b = some o) (hn : H it = none) (hL : it ≠ X.env.locals)
    (h1 : it ∈ X.ex ∨ X.s_0.heap.objs.size ≤ it) (h2 : ∀ x c, X.env.cells.lookup x = some c → c ≠ it) (h3 : ∀ p ∈ X.pn ++ pins, p.1 ≠ it) : Inv X pins σ H { s with heap := h', toks := t' } := by
  have nit : ∀ b u, H b = some u → b ≠ it := fun b u e z => by rw [z, hn] at e; cases e
  refine I.step (g' := s.gens) (d' := s.drawn) (ch := [it]) (fun b hb => ?_) (fun b o _ _ hc e _ => k b o (fun z => hc (by simp [z])) e) (fun b o _ _ hc e _ => ⟨o.slots, k b o (fun z => hc (by simp [z])) e⟩) (fun _ _ _ _ n => n)
    (fun b o hc e => ⟨o, k b o (fun z => hc (by simp [z])) e⟩) (fun _ _ e => e) (fun _ _ _ e => e) (fun b ps e => ⟨#[], by rw [e]; simp⟩) (fun m hm => ?_) (fun b u e => ?_) I.bare
  · have e : b = it := by simpa using hb
    subst e
    exact ⟨h1, hL, h2, h3⟩
  · obtain ⟨o, es, ep, ho, r⟩ := hm
    exact ⟨o, es, ep, k _ o (Ne.symm hL) ho, r⟩
  · refine (I.hok b u e).stay (fun c v hc q => k c v ?_ q) (fun _ q => q) fun _ _ q => q
    rcases hc with z | z
    · rw [z]; exact nit b u e
    · exact nit c _ z
theorem Inv.tok (I : Inv X pins σ H s) (t : Nat) : Inv X pins σ H { s with toks := t } := I.un (h' := s.heap) (t' := t) Un.refl I.hok
/-- all objects kept -/
theorem Inv.kept {t' : Nat} (I : Inv X pins σ H s) (k : ∀ b u, s.heap.get? b = some u → h'.get? b = some u) : Inv X pins σ H { s with heap := h', toks := t' } := I.un (Un.kept k) (I.hok.kept k)
/-- a new object laid and tracked -/
theorem Inv.laid {a : Addr} {o : HO} {t' : Nat} (I : Inv X pins σ H s) (k : ∀ b u, s.heap.get? b = some u → h'.get? b = some u) (hp : s.heap.objs.size ≤ a) (new : ObjOk X.prog X.w (upd H a o) h' a o) :
    Inv X pins σ (upd H a o) { s with heap := h', toks := t' } := I.un (Un.laid k hp (I.hok.fresh hp)) (I.hok.laid k hp new)
/-- an object written -/
theorem Inv.write {x e : Addr} {o : HO} {t' : Nat} (I : Inv X pins σ H s) (mu : Mut (H x)) (he : e = x ∨ H e = some (.own x)) (k : ∀ b u, b ≠ e → s.heap.get? b = some u → h'.get? b = some u) (heo : ∃ u, h'.get? e = some u)
    (new : ObjOk X.prog X.w (upd H x o) h' x o) : Inv X pins σ (upd H x o) { s with heap := h', toks := t' } := I.un (Un.write mu he k heo) (I.hok.write mu he k heo new)
/-- forgetting slots, pins -/
theorem Inv.weak {σ' : List (Option V)} (I : Inv X pins σ H s) (hl : σ'.length = σ.length) (w : ∀ (i : Nat) v, σ'[i]? = some (some v) → σ[i]? = some (some v)) : Inv X pins σ' H s :=
  ⟨I.ok, I.os, I.bare, I.base, let ⟨m, hn, hl'⟩ := I.loc; ⟨m, hn, fun i x v e1 e2 e3 => hl' i x v e1 (w i v e2) e3⟩, I.cell, I.free, I.freeC, I.pin, I.hok, hl.trans I.len⟩
theorem Inv.pins_of {pins' : List (Addr × Obj)} (I : Inv X pins σ H s) (h : ∀ p ∈ pins', s.heap.get? p.1 = some p.2 ∧ H p.1 = none ∧ p.1 ≠ X.env.locals ∧ p.1 ∉ X.fs ∧ ∀ v, p.2.data ≠ .cell v) : Inv X pins' σ H s :=
  ⟨I.ok, I.os, I.bare, I.base, I.loc, I.cell, I.free, I.freeC, fun p hp => (List.mem_append.mp hp).elim (fun z => I.pin p (List.mem_append_left _ z)) (h p), I.hok, I.len⟩

theorem nodup_ix {N : List Str} (hN : N.Nodup) {i j : Nat} {x : Str} (a : N[i]? = some x) (b : N[j]? = some x) : i = j := by
  obtain ⟨h1, e1⟩ := List.getElem?_eq_some_iff.mp a
  obtain ⟨h2, e2⟩ := List.getElem?_eq_some_iff.mp b
  exact (List.getElem_inj hN).mp (e1.trans e2.symm)

/-- a name is stored; what changed -/
theorem store_ok2 {M : Model} {A : Around} {E : Value → Shared → Prop} {i : Nat} {x : Str} {v : V} {u : Value} {Q : Unit → Shared → Prop} (I : Inv X pins σ H s) (hN : X.N.Nodup) (hi : X.N[i]? = some x) (hx : Loc X.env.scope x) (r : RelV v u)
    (h : ∀ s', Inv X pins (σ.set i (some v)) H s' → (∃ a, Heap.SameBut a s.heap s'.heap ∧ (a = X.env.locals ∨ X.env.cells.lookup x = some a)) → Q () s') (hf : X.fn x = true ∨ X.env.scope.names.lookup x = some .local := by first | exact .inl rfl | exact .inr rfl | assumption) : wpAny M A (storeName X.env x u) Q E s := by
  obtain ⟨m, hn, hl⟩ := id I.loc
  have hcls : (X.env.scope.kind == .class || (X.env.scope.kind == .module && X.env.locals != X.env.globals)) = false := by rw [I.ok.kind]; rfl
  have hiσ : i < σ.length := by rw [I.len]; exact (List.getElem?_eq_some_iff.mp hi).1
  have cne := I.cne
  have tracked : ∀ {a : Addr} {h' : Heap}, (∃ o, s.heap.get? a = some o ∧ H a = none) → Heap.SameBut a s.heap h' → HOk X.prog X.w H h' := fun {a h'} ha hs b ob e => by
    obtain ⟨_, _, hfree⟩ := ha
    refine (I.hok b ob e).stay (fun c w' hc q => (hs.2 c ?_).trans q) (fun _ q => q) fun _ _ q => q
    rintro rfl
    rcases hc with rfl | hc
    · rw [hfree] at e; cases e
    · rw [hfree] at hc; cases hc
  rcases hx with hk | hk
  · refine wpAny_storeName_local hk hn (fun h' hn' hs => ?_) hcls
    obtain ⟨oL, _, _, hoL, _⟩ := id hn
    refine h _ ⟨I.ok, I.os, I.bare, ⟨fun b o e n hb hx => ?_, fun b o e n hb hx => ?_, I.base.free, fun b o e hx => ?_, I.base.tups, I.base.frzs, I.base.tbls⟩, ⟨_, hn', fun j y v' e1 e2 e3 => ?_⟩, fun y c e => ?_, I.free, I.freeC, fun p hp => ?_, tracked ⟨oL, hoL, I.free⟩ hs, by simpa using I.len⟩ ⟨_, hs, .inl rfl⟩
    · exact (hs.2 b (Nat.ne_of_lt (Nat.lt_of_lt_of_le (Heap.lt_size e) I.ok.above))).trans (I.base.keep b o e n hb hx)
    · obtain ⟨sl, e1⟩ := I.base.slot b o e n hb hx
      exact ⟨sl, (hs.2 b (Nat.ne_of_lt (Nat.lt_of_lt_of_le (Heap.lt_size e) I.ok.above))).trans e1⟩
    · obtain ⟨o', e1⟩ := I.base.there b o e hx
      exact ⟨o', (hs.2 b (Nat.ne_of_lt (Nat.lt_of_lt_of_le (Heap.lt_size e) I.ok.above))).trans e1⟩
    · by_cases hj : j = i
      · subst hj
        rw [hi] at e1; cases e1
        rw [List.getElem?_set_self hiσ] at e2
        cases e2
        exact ⟨u, r, .inl ⟨hk, by simp⟩⟩
      · rw [List.getElem?_set_ne (Ne.symm hj)] at e2
        obtain ⟨u', r', q⟩ := hl j y v' e1 e2 e3
        refine ⟨u', r', ?_⟩
        rcases q with ⟨k, e⟩ | ⟨k, c, e, z⟩
        · refine .inl ⟨k, ?_⟩
          have : y ≠ x := fun e => hj (nodup_ix hN e1 (e ▸ hi))
          simp [this, e]
        · exact .inr ⟨k, c, e, z.sameBut hs (cne y c e)⟩
    · obtain ⟨w', z⟩ := I.cell y c e
      exact ⟨w', z.sameBut hs (cne y c e)⟩
    · obtain ⟨e, n, ne, nf, d⟩ := I.pin p hp
      exact ⟨(hs.2 p.1 ne).trans e, n, ne, nf, d⟩
  · have hfn : X.fn x = true := by
      rcases hf with z | z
      · exact z
      · rw [z] at hk; cases hk
    obtain ⟨c, hc⟩ := I.ok.has x (.inl hk)
    obtain ⟨w', z⟩ := I.cell x c hc
    refine wpAny_storeName_cell I.ok.kind hk hc z (fun h' hc' hs => ?_)
    obtain ⟨oc, hoc, hocd⟩ := id z
    refine h { s with heap := h' } ⟨I.ok, I.os, I.bare, ⟨fun b o e n hb hx => ?_, fun b o e n hb hx => ?_, I.base.free, fun b o e hx => ?_, I.base.tups, I.base.frzs, I.base.tbls⟩, ⟨m, hn.sameBut hs (Ne.symm (cne x c hc)), fun j y v' e1 e2 e3 => ?_⟩, fun y c' e => ?_, I.free, I.freeC, fun p hp => ?_, tracked ⟨oc, hoc, I.freeC x c hc⟩ hs, by simpa using I.len⟩ ⟨c, hs, .inr hc⟩
    · exact (hs.2 b (Nat.ne_of_lt (Nat.lt_of_lt_of_le (Heap.lt_size e) (I.ok.cab x c hfn hc)))).trans (I.base.keep b o e n hb hx)
    · obtain ⟨sl, e1⟩ := I.base.slot b o e n hb hx
      exact ⟨sl, (hs.2 b (Nat.ne_of_lt (Nat.lt_of_lt_of_le (Heap.lt_size e) (I.ok.cab x c hfn hc)))).trans e1⟩
    · obtain ⟨o', e1⟩ := I.base.there b o e hx
      exact ⟨o', (hs.2 b (Nat.ne_of_lt (Nat.lt_of_lt_of_le (Heap.lt_size e) (I.ok.cab x c hfn hc)))).trans e1⟩
    · by_cases hj : j = i
      · subst hj
        rw [hi] at e1; cases e1
        rw [List.getElem?_set_self hiσ] at e2
        cases e2
        exact ⟨u, r, .inr ⟨.inl hk, c, hc, hc'⟩⟩
      · rw [List.getElem?_set_ne (Ne.symm hj)] at e2
        obtain ⟨u', r', q⟩ := hl j y v' e1 e2 e3
        refine ⟨u', r', ?_⟩
        rcases q with q | ⟨k, c', e, z'⟩
        · exact .inl q
        · refine .inr ⟨k, c', e, z'.sameBut hs ?_⟩
          rintro rfl
          exact hj (nodup_ix hN e1 (I.ok.inj _ _ _ e hc ▸ hi))
    · by_cases hcc : c' = c
      · subst hcc; exact ⟨_, hc'⟩
      · obtain ⟨w2, z2⟩ := I.cell y c' e
        exact ⟨w2, z2.sameBut hs hcc⟩
    · obtain ⟨e, n, ne, nf, d⟩ := I.pin p hp
      refine ⟨(hs.2 p.1 ?_).trans e, n, ne, nf, d⟩
      intro q
      rw [q, hoc] at e
      have q' : oc = p.2 := Option.some.inj e
      exact d w' (by rw [← q']; exact hocd)
theorem store_ok {M : Model} {A : Around} {E : Value → Shared → Prop} {i : Nat} {x : Str} {v : V} {u : Value} {Q : Unit → Shared → Prop} (I : Inv X pins σ H s) (hN : X.N.Nodup) (hi : X.N[i]? = some x) (hx : Loc X.env.scope x) (r : RelV v u)
    (h : ∀ s', Inv X pins (σ.set i (some v)) H s' → Q () s') (hf : X.fn x = true ∨ X.env.scope.names.lookup x = some .local := by first | exact .inl rfl | exact .inr rfl | assumption) : wpAny M A (storeName X.env x u) Q E s :=
  store_ok2 I hN hi hx r (fun s' I' _ => h s' I') hf
/-- behind a call or a block, the state as it is -/
theorem Inv.call' {s' : Shared} {ch : List Addr} (I : Inv X pins σ H s) (ho : s'.os = s.os) (u : Un (frs X.stack) ch H H' s.heap s'.heap) (hok : HOk X.prog X.w H' s'.heap) (hg : AllBare s'.gens)
    (hch : ∀ b ∈ ch, (b ∈ X.ex ∨ X.s_0.heap.objs.size ≤ b) ∧ b ≠ X.env.locals ∧ (∀ x c, X.env.cells.lookup x = some c → c ≠ b) ∧ ∀ p ∈ X.pn ++ pins, p.1 ≠ b) : Inv X pins σ H' s' := by
  obtain ⟨h', g', d', t', o'⟩ := s'
  have e : o' = s.os := ho
  subst e
  exact I.call (g' := g') (t' := t') (d' := d') u hok hg hch
end

/-! ### the judgements -/
/-- an exception: its class, its own dict's address (where it has one), the abstract heap behind it -/
abbrev XK := Value → Option Addr → Hp → Prop
abbrev St := List (Option V)
abbrev VK := V → Hp → Prop
/-- an expression's reading; a test's; an argument list's -/
abbrev TE := St → Hp → VK → Prop
abbrev TT := St → Hp → (Bool → Hp → Prop) → Prop
abbrev TA := St → Hp → (List V → Hp → Prop) → Prop
/-- what is wanted behind a statement -/
structure Ends where
  nx : St → Hp → Prop
  rt : VK
  bk : St → Hp → Prop := fun _ _ => False
  ct : St → Hp → Prop := fun _ _ => False
abbrev TS := Ends → St → Hp → Prop

def EP (X : Cx) (pins : List (Addr × Obj)) (σ : St) (Q : VK) (u : Value) (s' : Shared) : Prop := ∃ v H', Inv X pins σ H' s' ∧ RelV v u ∧ Q v H'
def TP (X : Cx) (pins : List (Addr × Obj)) (σ : St) (Q : Bool → Hp → Prop) (b : Bool) (s' : Shared) : Prop := ∃ H', Inv X pins σ H' s' ∧ Q b H'
def AP (X : Cx) (pins : List (Addr × Obj)) (σ : St) (Q : List V → Hp → Prop) (us : List Value) (s' : Shared) : Prop := ∃ vs H', Inv X pins σ H' s' ∧ Vals vs us ∧ Q vs H'
def SP (X : Cx) (pins : List (Addr × Obj)) (D : Ends) (f : Flow) (s' : Shared) : Prop :=
  match f with
  | .next => ∃ σ' H', Inv X pins σ' H' s' ∧ D.nx σ' H'
  | .brk => ∃ σ' H', Inv X pins σ' H' s' ∧ D.bk σ' H'
  | .cont => ∃ σ' H', Inv X pins σ' H' s' ∧ D.ct σ' H'
  | .ret u => ∃ v σ' H', Inv X pins σ' H' s' ∧ RelV v u ∧ D.rt v H'

def PE (X : Cx) (e : Expr) (t : TE) : Prop :=
  ∀ (pins : List (Addr × Obj)) (s : Shared) (σ : St) (H : Hp) (Q : VK), Inv X pins σ H s → t σ H Q → wpAny (model X.prog X.w) X.A (eval e X.env) (EP X pins σ Q) X.xe s
def PT (X : Cx) (e : Expr) (t : TT) : Prop :=
  ∀ (pins : List (Addr × Obj)) (s : Shared) (σ : St) (H : Hp) (Q : Bool → Hp → Prop), Inv X pins σ H s → t σ H Q → wpAny (model X.prog X.w) X.A (isTrue e X.env (eval e X.env)) (TP X pins σ Q) X.xe s
/-- a test whatever its 'whole' is (and, or) -/
def PW (X : Cx) (e : Expr) (t : TT) : Prop :=
  ∀ (whole : Sem Value) (pins : List (Addr × Obj)) (s : Shared) (σ : St) (H : Hp) (Q : Bool → Hp → Prop), Inv X pins σ H s → t σ H Q → wpAny (model X.prog X.w) X.A (isTrue e X.env whole) (TP X pins σ Q) X.xe s
theorem PW.pt {X : Cx} {e : Expr} {t : TT} (h : PW X e t) : PT X e t := h _
/-- an argument list (no star), from the left -/
def PA (X : Cx) (es : List Expr) (t : TA) : Prop :=
  ∀ (pos : Pos) (pins : List (Addr × Obj)) (s : Shared) (σ : St) (H : Hp) (Q : List V → Hp → Prop), Inv X pins σ H s → t σ H Q → wpAny (model X.prog X.w) X.A (spliced (backTo pos (starEach es X.env))) (AP X pins σ Q) X.xe s
def PS (X : Cx) (st : Stmt) (t : TS) : Prop :=
  ∀ (pins : List (Addr × Obj)) (s : Shared) (σ : St) (H : Hp) (D : Ends), Inv X pins σ H s → t D σ H → wpAny (model X.prog X.w) X.A (exec st X.env) (SP X pins D) X.xe s
def PSs (X : Cx) (st : List Stmt) (t : TS) : Prop :=
  ∀ (pins : List (Addr × Obj)) (s : Shared) (σ : St) (H : Hp) (D : Ends), Inv X pins σ H s → t D σ H → wpAny (model X.prog X.w) X.A (execs st X.env) (SP X pins D) X.xe s
/-- weaken the end -/
theorem thn {α : Type} {t : Sem α} {Q Q' : α → Shared → Prop} {M : Model} {A : Around} {E : Value → Shared → Prop} {s : Shared} (h : wpAny M A t Q E s) (hQ : ∀ a s, Q a s → Q' a s) : wpAny M A t Q' E s := wpAny_mono h hQ fun _ _ x => x
end L2

namespace L2
open PySem PySem.Spec PyProof.Rows
section
variable {X : Cx}

/-- two expressions in a row -/
theorem bin {a b : Expr} {ta tb : TE} (ha : PE X a ta) (hb : PE X b tb) {pins : List (Addr × Obj)} {s : Shared} {σ : St} {H : Hp} {R : V → V → Hp → Prop} (I : Inv X pins σ H s) (h : ta σ H fun x H1 => tb σ H1 fun y H2 => R x y H2)
    {α : Type} {Q : α → Shared → Prop} {f : Value → Value → Sem α}
    (hf : ∀ v u s2 x y H2, Inv X pins σ H2 s2 → RelV x v → RelV y u → R x y H2 → wpAny (model X.prog X.w) X.A (f v u) Q X.xe s2) :
    wpAny (model X.prog X.w) X.A (eval a X.env) (fun v s₁ => wpAny (model X.prog X.w) X.A (eval b X.env) (fun u s₂ => wpAny (model X.prog X.w) X.A (f v u) Q X.xe s₂) X.xe s₁) X.xe s := by
  refine thn (ha pins s σ H _ I h) fun v s1 ⟨x, H1, I1, r1, q1⟩ => ?_
  refine thn (hb pins s1 σ H1 _ I1 q1) fun u s2 ⟨y, H2, I2, r2, q2⟩ => ?_
  exact hf v u s2 x y H2 I2 r1 r2 q2

/-! ### names and constants -/
def tVar (i : Nat) : TE := fun σ H Q => ∃ v, σ[i]? = some (some v) ∧ Q v H
def tC (v : V) : TE := fun _ H Q => Q v H
theorem pe_var {i : Nat} {x : Str} {pos : Pos} (hN : X.N[i]? = some x) (hv : Vis X.env.scope x) (hd : (x == ("__debug__" : Str)) = false := by decide) (hcd : (x == ("__classdict__" : Str)) = false := by decide) : PE X (.Name x pos) (tVar i) := by
  intro pins s σ H Q I h
  obtain ⟨v, e, h⟩ := h
  obtain ⟨m, hn, hl⟩ := I.loc
  obtain ⟨u, r, l⟩ := hl i x v hN e hv
  have fin : EP X pins σ Q u s := ⟨v, H, I, r, h⟩
  rcases l with ⟨hk, hm⟩ | ⟨hk, c, hc, hcell⟩
  · exact wpAny_Name (wpAny_loadName_local I.ok.kind hk hn hm fin) hd
  · rcases hk with hk | hk
    · exact wpAny_Name (wpAny_loadName_cell I.ok.kind hk hc hcell fin) hd
    · exact wpAny_Name (wpAny_loadName_free I.ok.kind hk hc hcell fin hcd) hd
theorem pe_int {i j pos} : PE X (.Constant (.int i) j pos) (tC (.int i)) := fun _ _ _ H _ I h => wpAny_Constant_int ⟨.int i, H, I.tok _, ⟨_, rfl⟩, h⟩
theorem pe_bl {b j pos} : PE X (.Constant (.bool b) j pos) (tC (.bl b)) := fun _ _ _ H _ I h => Constant_bool ⟨.bl b, H, I, rfl, h⟩
theorem pe_non {j pos} : PE X (.Constant .none j pos) (tC .non) := fun _ _ _ H _ I h => Constant_none ⟨.non, H, I, rfl, h⟩
theorem pe_str {x j pos} : PE X (.Constant (.str x) j pos) (tC (.str x)) := fun _ _ _ H _ I h => Calls.Constant_str ⟨.str x, H, I.tok _, ⟨_, rfl⟩, h⟩

/-- a global name of the def -/
def Gl (X : Cx) (x : Str) : Prop := X.env.kindOf x = some .globalImplicit
theorem ld_glob {E : Value → Shared → Prop} {pins : List (Addr × Obj)} {s : Shared} {σ : St} {H : Hp} {x : Str} {u : Value} {pos : Pos} {Q : Value → Shared → Prop} (I : Inv X pins σ H s) (hg : Gl X x) (hm : X.mg x = some u) (h : Q u s)
    (hd : (x == ("__debug__" : Str)) = false := by decide) : wpAny (model X.prog X.w) X.A (eval (.Name x pos) X.env) Q E s :=
  Calls.Name_function_global I.ok.kind hg (Calls.loadGlobal_global (by rw [I.ok.glob]; exact I.mod.glob.keeps I.bk) hm h) hd
theorem ld_blt {E : Value → Shared → Prop} {pins : List (Addr × Obj)} {s : Shared} {σ : St} {H : Hp} {x : Str} {u : Value} {pos : Pos} {Q : Value → Shared → Prop} (I : Inv X pins σ H s) (hg : Gl X x) (hm : X.mg x = none) (hv : bootBuiltins x = some u) (h : Q u s)
    (hn : x ≠ "__name__" := by decide) (hd : (x == ("__debug__" : Str)) = false := by decide) : wpAny (model X.prog X.w) X.A (eval (.Name x pos) X.env) Q E s := by
  obtain ⟨mb, h1, h2⟩ := I.mod.blt
  exact Calls.Name_function_global I.ok.kind hg (Calls.loadGlobal_builtin (by rw [I.ok.glob]; exact I.mod.glob.keeps I.bk) hm (by rw [I.ok.blt]; exact h1.keeps I.bk) ((h2 x hn).trans hv) h) hd
/-- a module's constant, a class, a function, as a value -/
theorem pe_glob {x : Str} {v : V} {u : Value} {pos : Pos} (hg : Gl X x) (hm : X.mg x = some u) (r : RelV v u) (hd : (x == ("__debug__" : Str)) = false := by decide) : PE X (.Name x pos) (tC v) :=
  fun _ _ _ H _ I h => ld_glob I hg hm ⟨v, H, I, r, h⟩ hd
theorem pe_bltn {x : Str} {v : V} {u : Value} {pos : Pos} (hg : Gl X x) (hm : X.mg x = none) (hv : bootBuiltins x = some u) (r : RelV v u) (hn : x ≠ "__name__" := by decide) (hd : (x == ("__debug__" : Str)) = false := by decide) : PE X (.Name x pos) (tC v) :=
  fun _ _ _ H _ I h => ld_blt I hg hm hv ⟨v, H, I, r, h⟩ hn hd

/-! ### arithmetic -/
/-- two ints -/
def t2I (ta tb : TE) (k : Int → Int → Hp → Prop) : St → Hp → Prop := fun σ H => ta σ H fun x H1 => tb σ H1 fun y H2 => ∃ i j, x = .int i ∧ y = .int j ∧ k i j H2
def tAdd (ta tb : TE) : TE := fun σ H Q => t2I ta tb (fun i j H2 => Q (.int (i + j)) H2) σ H
def tSub (ta tb : TE) : TE := fun σ H Q => t2I ta tb (fun i j H2 => Q (.int (i - j)) H2) σ H
/-- the left factor below 2^64 -/
def tMul (ta tb : TE) : TE := fun σ H Q => t2I ta tb (fun i j H2 => (-(2 ^ 64) < i ∧ i < 2 ^ 64) ∧ Q (.int (i * j)) H2) σ H
variable {a b : Expr} {ta tb : TE} {pos : Pos}
theorem pe_add (ha : PE X a ta) (hb : PE X b tb) : PE X (.BinOp a .Add b pos) (tAdd ta tb) := by
  intro pins s σ H Q I h
  refine wpAny_BinOp (bin ha hb I h fun v u s2 x y H2 I2 rx ry q => ?_)
  obtain ⟨i, j, rfl, rfl, q⟩ := q
  obtain ⟨t, rfl⟩ := rx
  obtain ⟨t', rfl⟩ := ry
  exact add_int ⟨.int _, H2, I2.tok _, ⟨_, rfl⟩, q⟩
theorem pe_sub (ha : PE X a ta) (hb : PE X b tb) : PE X (.BinOp a .Sub b pos) (tSub ta tb) := by
  intro pins s σ H Q I h
  refine wpAny_BinOp (bin ha hb I h fun v u s2 x y H2 I2 rx ry q => ?_)
  obtain ⟨i, j, rfl, rfl, q⟩ := q
  obtain ⟨t, rfl⟩ := rx
  obtain ⟨t', rfl⟩ := ry
  exact sub_int ⟨.int _, H2, I2.tok _, ⟨_, rfl⟩, q⟩
theorem pe_mul (ha : PE X a ta) (hb : PE X b tb) : PE X (.BinOp a .Mult b pos) (tMul ta tb) := by
  intro pins s σ H Q I h
  refine wpAny_BinOp (bin ha hb I h fun v u s2 x y H2 I2 rx ry q => ?_)
  obtain ⟨i, j, rfl, rfl, ⟨q1, q2⟩, q⟩ := q
  obtain ⟨t, rfl⟩ := rx
  obtain ⟨t', rfl⟩ := ry
  exact mul_int ⟨.int _, H2, I2.tok _, ⟨_, rfl⟩, q⟩ (.of_left (intBits_le_64 q1 q2))

/-! ### comparisons -/
def PC (X : Cx) (op : CmpOp) (a b : Expr) (t : TE) : Prop :=
  ∀ (pins : List (Addr × Obj)) (s : Shared) (σ : St) (H : Hp) (Q : VK), Inv X pins σ H s → t σ H Q →
    wpAny (model X.prog X.w) X.A (eval a X.env) (fun v s₁ => wpAny (model X.prog X.w) X.A (eval b X.env) (fun u s₂ => wpAny (model X.prog X.w) X.A (compareOp op v u) (EP X pins σ Q) X.xe s₂) X.xe s₁) X.xe s
theorem nobehind (b : Expr) {op : CmpOp} (h : op ≠ .In) (h2 : op ≠ .NotIn) : behindInMarks op b = false := by
  have e1 : (op == CmpOp.In) = false := by cases op <;> first | rfl | exact absurd rfl h
  have e2 : (op == CmpOp.NotIn) = false := by cases op <;> first | rfl | exact absurd rfl h2
  cases b <;> simp [behindInMarks, e1, e2]
def tCmp (p : Int → Int → Bool) (ta tb : TE) : TE := fun σ H Q => t2I ta tb (fun i j H2 => Q (.bl (p i j)) H2) σ H
abbrev tLt : TE → TE → TE := tCmp fun i j => decide (i < j)
abbrev tLe : TE → TE → TE := tCmp fun i j => decide (i ≤ j)
abbrev tGt : TE → TE → TE := tCmp fun i j => decide (j < i)
abbrev tGe : TE → TE → TE := tCmp fun i j => decide (j ≤ i)
abbrev tEqI : TE → TE → TE := tCmp fun i j => decide (i = j)
abbrev tNeI : TE → TE → TE := tCmp fun i j => !decide (i = j)
/-- a comparison of two ints, by its rule -/
theorem pc_int {op : CmpOp} {p : Int → Int → Bool} (ha : PE X a ta) (hb : PE X b tb)
    (rule : ∀ (i j : Int) (t u : Tok) (Q : Value → Shared → Prop) (s : Shared), Q (.bool (p i j)) s → wpAny (model X.prog X.w) X.A (compareOp op (.int i t) (.int j u)) Q X.xe s) : PC X op a b (tCmp p ta tb) := by
  intro pins s σ H Q I h
  refine bin ha hb I h fun v u s2 x y H2 I2 rx ry q => ?_
  obtain ⟨i, j, rfl, rfl, q⟩ := q
  obtain ⟨t, rfl⟩ := rx
  obtain ⟨t', rfl⟩ := ry
  exact rule i j t t' _ s2 ⟨.bl _, H2, I2, rfl, q⟩
theorem pc_lt (ha : PE X a ta) (hb : PE X b tb) : PC X .Lt a b (tLt ta tb) := pc_int ha hb fun _ _ _ _ _ _ h => lt_int h
theorem pc_le (ha : PE X a ta) (hb : PE X b tb) : PC X .LtE a b (tLe ta tb) := pc_int ha hb fun _ _ _ _ _ _ h => le_int h
theorem pc_gt (ha : PE X a ta) (hb : PE X b tb) : PC X .Gt a b (tGt ta tb) := pc_int ha hb fun _ _ _ _ _ _ h => gt_int h
theorem pc_ge (ha : PE X a ta) (hb : PE X b tb) : PC X .GtE a b (tGe ta tb) := pc_int ha hb fun _ _ _ _ _ _ h => ge_int h
theorem pc_eqI (ha : PE X a ta) (hb : PE X b tb) : PC X .Eq a b (tEqI ta tb) := pc_int ha hb fun _ _ _ _ _ _ h => eq_int (by rw [Bool.beq_eq_decide_eq]; exact h)
theorem pc_neI (ha : PE X a ta) (hb : PE X b tb) : PC X .NotEq a b (tNeI ta tb) := pc_int ha hb fun _ _ _ _ _ _ h => ne_int (by rw [bne, Bool.beq_eq_decide_eq]; exact h)
/-- is None -/
def tIsN (ta : TE) : TE := fun σ H Q => ta σ H fun x H1 => Q (.bl (decide (x = .non))) H1
def tNotN (ta : TE) : TE := fun σ H Q => ta σ H fun x H1 => Q (.bl (!decide (x = .non))) H1
theorem RelV.none_iff {x : V} {v : Value} (r : RelV x v) : (v == Value.none) = decide (x = .non) := by
  cases x with
  | non => cases r; rfl
  | bl _ => cases r; rfl
  | int _ => obtain ⟨t, rfl⟩ := r; rfl
  | str _ => obtain ⟨t, rfl⟩ := r; rfl
  | byt _ => obtain ⟨t, rfl⟩ := r; rfl
  | flt _ => obtain ⟨t, rfl⟩ := r; rfl
  | ref _ => cases r; rfl
  | ty _ => cases r; rfl
theorem pc_isN {j pos'} (ha : PE X a ta) : PC X .Is a (.Constant .none j pos') (tIsN ta) := by
  intro pins s σ H Q I h
  refine thn (ha pins s σ H _ I h) fun v s1 ⟨x, H1, I1, r1, q1⟩ => ?_
  exact Constant_none (is_none_gen ⟨.bl _, H1, I1, by rw [r1.none_iff]; rfl, q1⟩)
theorem pc_notN {j pos'} (ha : PE X a ta) : PC X .IsNot a (.Constant .none j pos') (tNotN ta) := by
  intro pins s σ H Q I h
  refine thn (ha pins s σ H _ I h) fun v s1 ⟨x, H1, I1, r1, q1⟩ => ?_
  exact Constant_none (isnot_none_gen ⟨.bl _, H1, I1, by rw [r1.none_iff]; rfl, q1⟩)
/-- a comparison as a value, as a test -/
def tB (t : TE) : TT := fun σ H Q => t σ H fun x H1 => ∃ c, x = .bl c ∧ Q c H1
theorem pe_cmp {op : CmpOp} {t : TE} (h : PC X op a b t) (h1 : behindInMarks op b = false := by first | exact nobehind _ (by decide) (by decide) | rfl) : PE X (.Compare a [op] [b] pos) t := fun pins s σ H Q I hw => wpAny_Compare1 (h pins s σ H Q I hw) h1
theorem pt_cmp {op : CmpOp} {t : TE} (h : PC X op a b t) (h1 : behindInMarks op b = false := by first | exact nobehind _ (by decide) (by decide) | rfl) : PT X (.Compare a [op] [b] pos) (tB t) := by
  intro pins s σ H Q I hw
  refine wpAny_isTrue_Compare1 (thn (h pins s σ H _ I hw) fun v s1 h1 => thn h1 fun u s2 h2 => thn h2 fun c s3 ⟨x, H1, I1, r1, q1⟩ => ?_) h1
  obtain ⟨d, rfl, q⟩ := q1
  cases r1
  exact wpAny_truthy_bool ⟨H1, I1, q⟩
/-- an expression whose value is a bool, as a test -/
theorem pt_val {e : Expr} {t : TE} (h : PE X e t) (he : ∀ whole, isTrue e X.env whole = (do let v ← whole; standAt e.pos; holding [v] (truthy v)) := by intro _; rfl) : PT X e (tB t) := by
  intro pins s σ H Q I hw
  refine isTrue_plain (thn (h pins s σ H _ I hw) fun v s1 ⟨x, H1, I1, r1, q1⟩ => ?_) (he _)
  obtain ⟨d, rfl, q⟩ := q1
  cases r1
  exact wpAny_truthy_bool ⟨H1, I1, q⟩

/-! ### and, or, not -/
variable {tA tB' : TT} {rest : List Expr}
def tAnd (t u : TT) : TT := fun σ H Q => t σ H fun c H1 => if c = true then u σ H1 Q else Q false H1
def tOr (t u : TT) : TT := fun σ H Q => t σ H fun c H1 => if c = true then Q true H1 else u σ H1 Q
def tNot (t : TT) : TT := fun σ H Q => t σ H fun c H1 => Q (!c) H1
theorem pw_and1 (ha : PT X a tA) : PW X (.BoolOp .And [a] pos) tA := by
  intro wh pins s σ H Q I h
  refine isTrue_and (thn (ha pins s σ H Q I h) fun c s1 e => ?_)
  cases c with
  | true => exact isTrue_and_nil e
  | false => exact e
theorem pw_or1 (ha : PT X a tA) : PW X (.BoolOp .Or [a] pos) tA := by
  intro wh pins s σ H Q I h
  refine isTrue_or (thn (ha pins s σ H Q I h) fun c s1 e => ?_)
  cases c with
  | false => exact isTrue_or_nil e
  | true => exact e
theorem pw_and (ha : PT X a tA) (hb : PW X (.BoolOp .And (b :: rest) pos) tB') : PW X (.BoolOp .And (a :: b :: rest) pos) (tAnd tA tB') := by
  intro wh pins s σ H Q I h
  refine isTrue_and (thn (ha pins s σ H _ I h) fun c s1 ⟨H1, I1, q1⟩ => ?_)
  cases c with
  | true => exact hb wh pins s1 σ H1 Q I1 q1
  | false => exact ⟨H1, I1, q1⟩
theorem pw_or (ha : PT X a tA) (hb : PW X (.BoolOp .Or (b :: rest) pos) tB') : PW X (.BoolOp .Or (a :: b :: rest) pos) (tOr tA tB') := by
  intro wh pins s σ H Q I h
  refine isTrue_or (thn (ha pins s σ H _ I h) fun c s1 ⟨H1, I1, q1⟩ => ?_)
  cases c with
  | true => exact ⟨H1, I1, q1⟩
  | false => exact hb wh pins s1 σ H1 Q I1 q1
theorem pt_not (ha : PT X a tA) : PT X (.UnaryOp .Not a pos) (tNot tA) := by
  intro pins s σ H Q I h
  exact isTrue_not (ha pins s σ H (fun c H1 => Q (!c) H1) I h)
/-- .. as values (bools) -/
def tAndV (ta tb : TE) : TE := fun σ H Q => ta σ H fun x H1 => ∃ c, x = .bl c ∧ if c = true then tb σ H1 Q else Q (.bl false) H1
def tOrV (ta tb : TE) : TE := fun σ H Q => ta σ H fun x H1 => ∃ c, x = .bl c ∧ if c = true then Q (.bl true) H1 else tb σ H1 Q
def tNotV (ta : TE) : TE := fun σ H Q => ta σ H fun x H1 => ∃ c, x = .bl c ∧ Q (.bl (!c)) H1
theorem pe_one {op} {t : TE} (h : PE X a t) : PE X (.BoolOp op [a] pos) t := fun pins s σ H Q I hw => BoolOp_one (h pins s σ H Q I hw)
theorem pe_and (ha : PE X a ta) (hb : PE X (.BoolOp .And (b :: rest) pos) tb) : PE X (.BoolOp .And (a :: b :: rest) pos) (tAndV ta tb) := by
  intro pins s σ H Q I h
  refine BoolOp_and (thn (ha pins s σ H _ I h) fun v s1 ⟨x, H1, I1, r1, q1⟩ => ?_)
  obtain ⟨c, rfl, q1⟩ := q1
  cases r1
  refine wpAny_truthy_bool ?_
  cases c with
  | true => exact hb pins s1 σ H1 Q I1 q1
  | false => exact ⟨.bl false, H1, I1, rfl, q1⟩
theorem pe_or (ha : PE X a ta) (hb : PE X (.BoolOp .Or (b :: rest) pos) tb) : PE X (.BoolOp .Or (a :: b :: rest) pos) (tOrV ta tb) := by
  intro pins s σ H Q I h
  refine BoolOp_or (thn (ha pins s σ H _ I h) fun v s1 ⟨x, H1, I1, r1, q1⟩ => ?_)
  obtain ⟨c, rfl, q1⟩ := q1
  cases r1
  refine wpAny_truthy_bool ?_
  cases c with
  | false => exact hb pins s1 σ H1 Q I1 q1
  | true => exact ⟨.bl true, H1, I1, rfl, q1⟩
theorem pe_not (ha : PE X a ta) : PE X (.UnaryOp .Not a pos) (tNotV ta) := by
  intro pins s σ H Q I h
  refine UnaryOp_ (thn (ha pins s σ H _ I h) fun v s1 ⟨x, H1, I1, r1, q1⟩ => ?_)
  obtain ⟨c, rfl, q1⟩ := q1
  cases r1
  exact not_of (wpAny_truthy_bool ⟨.bl (!c), H1, I1, rfl, q1⟩)
/-- a if t else b -/
def tIf (t : TT) (ta tb : TE) : TE := fun σ H Q => t σ H fun c H1 => if c = true then ta σ H1 Q else tb σ H1 Q
theorem pe_ifExp {c : Expr} (hc : PT X c tA) (ha : PE X a ta) (hb : PE X b tb) : PE X (.IfExp c a b pos) (tIf tA ta tb) := by
  intro pins s σ H Q I h
  refine wpAny_IfExp (thn (hc pins s σ H _ I h) fun d s1 ⟨H1, I1, q1⟩ => ?_)
  cases d with
  | true => exact ha pins s1 σ H1 Q I1 q1
  | false => exact hb pins s1 σ H1 Q I1 q1
end
end L2

namespace L2
open PySem PySem.Spec PyProof.Rows

/-! ### a list, a tuple that is read: tracked, frozen, or an object of the module -/
def SqL (K : PySem.W.Frag) (H : Hp) (a : Addr) (xs : List V) : Prop :=
  Rd H a (.lst xs) ∨
    ∃ (o : Obj) (its : Array Value) (n : Nat), K.lookup a = some o ∧ o.cls = .type "list" ∧ o.dict = none ∧ o.data = .seq its n ∧ its.size ≤ sizeLine ∧ Vals xs its.toList
def SqT (K : PySem.W.Frag) (H : Hp) (a : Addr) (xs : List V) : Prop :=
  Rd H a (.tup xs) ∨
    ∃ (o : Obj) (its : Array Value) (n : Nat), K.lookup a = some o ∧ o.cls = .type "tuple" ∧ o.data = .seq its n ∧ its.size ≤ sizeLine ∧ Vals xs its.toList
def absV : Value → Option V
  | .none => some .non
  | .bool b => some (.bl b)
  | .int i _ => some (.int i)
  | .str x _ => some (.str x)
  | .bytes b _ => some (.byt b)
  | .float b _ => some (.flt b)
  | .ref a => some (.ref a)
  | .type n => some (.ty n)
  | _ => none
theorem RelV.abs {x : V} {u : Value} (r : RelV x u) : absV u = some x := by
  cases x with
  | non => cases r; rfl
  | bl _ => cases r; rfl
  | int _ => obtain ⟨t, rfl⟩ := r; rfl
  | str _ => obtain ⟨t, rfl⟩ := r; rfl
  | byt _ => obtain ⟨t, rfl⟩ := r; rfl
  | flt _ => obtain ⟨t, rfl⟩ := r; rfl
  | ref _ => cases r; rfl
  | ty _ => cases r; rfl
theorem RelV.inj {x y : V} {u : Value} (r : RelV x u) (q : RelV y u) : x = y := Option.some.inj (r.abs.symm.trans q.abs)
theorem Vals.inj : ∀ {xs ys : List V} {us : List Value}, Vals xs us → Vals ys us → xs = ys
  | _, _, _, .nil, .nil => rfl
  | _, _, _, .cons r t, .cons r' t' => by rw [r.inj r', Vals.inj t t']
section
variable {X : Cx} {pins : List (Addr × Obj)} {σ : St} {H : Hp} {s : Shared} {a : Addr} {xs ys : List V}
theorem SqL.of {K : PySem.W.Frag} (h : H a = some (.lst xs)) : SqL K H a xs := .inl (.inl h)
theorem SqT.of {K : PySem.W.Frag} (h : H a = some (.tup xs)) : SqT K H a xs := .inl (.inl h)
theorem Inv.list (I : Inv X pins σ H s) (h : SqL X.K H a xs) : ∃ its : List Value, Vals xs its ∧ PlainL s.heap a its.toArray ∧ xs.length ≤ sizeLine := by
  rcases h with h | ⟨o, its, n, hk, hc, hd, hs, hz, r⟩
  · obtain ⟨z, its, n, r, e⟩ := h.ok I.hok
    exact ⟨its, r, ⟨_, n, e, rfl, rfl, rfl⟩, z⟩
  · refine ⟨its.toList, r, ⟨o, n, I.kIn a o hk, hc, hd, by simpa using hs⟩, ?_⟩
    have e := r.length
    simp only [Array.length_toList] at e
    omega
theorem Inv.tuple (I : Inv X pins σ H s) (h : SqT X.K H a xs) : ∃ its : List Value, Vals xs its ∧ IsTup s.heap a its.toArray ∧ xs.length ≤ sizeLine := by
  rcases h with h | ⟨o, its, n, hk, hc, hs, hz, r⟩
  · obtain ⟨z, its, r, p⟩ := h.ok I.hok
    exact ⟨its, r, p, z⟩
  · refine ⟨its.toList, r, ⟨o, I.kIn a o hk, hc, n, by simpa using hs⟩, ?_⟩
    have e := r.length
    simp only [Array.length_toList] at e
    omega
theorem Inv.list_inj (I : Inv X pins σ H s) (h : SqL X.K H a xs) (h' : SqL X.K H a ys) : xs = ys := by
  obtain ⟨its, r, ⟨o, n, e, _, _, d⟩, _⟩ := I.list h
  obtain ⟨its', r', ⟨o', n', e', _, _, d'⟩, _⟩ := I.list h'
  rw [e] at e'; cases e'
  rw [d] at d'
  injection d' with d1 _
  have : its = its' := by simpa using congrArg Array.toList d1
  subst this
  exact r.inj r'
theorem Inv.tuple_inj (I : Inv X pins σ H s) (h : SqT X.K H a xs) (h' : SqT X.K H a ys) : xs = ys := by
  obtain ⟨its, r, ⟨o, e, _, n, d⟩, _⟩ := I.tuple h
  obtain ⟨its', r', ⟨o', e', _, n', d'⟩, _⟩ := I.tuple h'
  rw [e] at e'; cases e'
  rw [d] at d'
  injection d' with d1 _
  have : its = its' := by simpa using congrArg Array.toList d1
  subst this
  exact r.inj r'
end

/-! ### another wish about exceptions -/
abbrev Cx.wish (X : Cx) (E : Value → Shared → Prop) : Cx := { X with xe := E }
/-- no exception leaves -/
abbrev Cx.nox (X : Cx) : Cx := X.wish fun _ _ => False
theorem Cx.Ok.wish {X : Cx} (ok : X.Ok) (E : Value → Shared → Prop) : (X.wish E).Ok :=
  ⟨ok.mod, ok.kind, ok.glob, ok.blt, ok.above, ok.inj, ok.has, ok.cab, ok.hd, ok.frames, ok.stk, ok.exf, ok.bs, ok.bsz, ok.noex, ok.exfs, ok.funs, ok.frf⟩
theorem Cx.Ok.unwish {X : Cx} {E : Value → Shared → Prop} (ok : (X.wish E).Ok) : X.Ok :=
  ⟨ok.mod, ok.kind, ok.glob, ok.blt, ok.above, ok.inj, ok.has, ok.cab, ok.hd, ok.frames, ok.stk, ok.exf, ok.bs, ok.bsz, ok.noex, ok.exfs, ok.funs, ok.frf⟩
section
variable {X : Cx} {pins : List (Addr × Obj)} {σ : St} {H : Hp} {s : Shared} {E : Value → Shared → Prop}
theorem Inv.wish (I : Inv X pins σ H s) (E : Value → Shared → Prop) : Inv (X.wish E) pins σ H s := ⟨I.ok.wish E, I.os, I.bare, I.base, I.loc, I.cell, I.free, I.freeC, I.pin, I.hok, I.len⟩
theorem Inv.unwish (I : Inv (X.wish E) pins σ H s) : Inv X pins σ H s := ⟨I.ok.unwish, I.os, I.bare, I.base, I.loc, I.cell, I.free, I.freeC, I.pin, I.hok, I.len⟩
theorem SP.unwish {D : Ends} {f : Flow} {s' : Shared} (h : SP (X.wish E) pins D f s') : SP X pins D f s' := by
  cases f with
  | next => obtain ⟨σ', H', I, q⟩ := h; exact ⟨σ', H', I.unwish, q⟩
  | brk => obtain ⟨σ', H', I, q⟩ := h; exact ⟨σ', H', I.unwish, q⟩
  | cont => obtain ⟨σ', H', I, q⟩ := h; exact ⟨σ', H', I.unwish, q⟩
  | ret u => obtain ⟨v, σ', H', I, r, q⟩ := h; exact ⟨v, σ', H', I.unwish, r, q⟩
theorem PE.nox {e : Expr} {t : TE} (h : PE X.nox e t) : PE X e t := fun pins s σ H Q I hw =>
  wpAny_mono (h pins s σ H Q (I.wish _) hw) (fun _ _ ⟨v, H', I', r, q⟩ => ⟨v, H', I'.unwish, r, q⟩) fun _ _ z => False.elim z
theorem PT.nox {e : Expr} {t : TT} (h : PT X.nox e t) : PT X e t := fun pins s σ H Q I hw =>
  wpAny_mono (h pins s σ H Q (I.wish _) hw) (fun _ _ ⟨H', I', q⟩ => ⟨H', I'.unwish, q⟩) fun _ _ z => False.elim z
theorem PSs.nox {st : List Stmt} {t : TS} (h : PSs X.nox st t) : PSs X st t := fun pins s σ H D I hw =>
  wpAny_mono (h pins s σ H D (I.wish _) hw) (fun _ _ q => q.unwish) fun _ _ z => False.elim z
end

/-! ### blocks and small statements -/
section
variable {X : Cx} {st : Stmt} {rest : List Stmt} {t u : TS} {e : Expr} {te : TE} {pos : Pos}
def tNext : TS := fun D σ H => D.nx σ H
def tSeq (t u : TS) : TS := fun D σ H => t { D with nx := u D } σ H
theorem pss_nil : PSs X [] tNext := fun _ _ σ H _ I h => wpAny_execs_nil ⟨σ, H, I, h⟩
theorem pss_cons (h1 : PS X st t) (h2 : PSs X rest u) : PSs X (st :: rest) (tSeq t u) := by
  intro pins s σ H D I h
  refine wpAny_execs_cons (thn (h1 pins s σ H { D with nx := u D } I h) fun f s1 q => ?_)
  cases f with
  | next =>
    obtain ⟨σ', H', I', q⟩ := q
    exact h2 pins s1 σ' H' D I' q
  | ret v => exact q
  | brk => exact q
  | cont => exact q
theorem pss_one (h1 : PS X st t) : PSs X [st] t := by
  intro pins s σ H D I h
  refine wpAny_execs_cons (thn (h1 pins s σ H D I h) fun f s1 q => ?_)
  cases f with
  | next => exact wpAny_execs_nil q
  | ret v => exact q
  | brk => exact q
  | cont => exact q
def tBreak : TS := fun D σ H => D.bk σ H
def tCont : TS := fun D σ H => D.ct σ H
theorem ps_pass : PS X (.Pass pos) tNext := fun _ _ σ H _ I h => wpAny_Pass ⟨σ, H, I, h⟩
theorem ps_break : PS X (.Break pos) tBreak := fun _ _ σ H _ I h => wpAny_Break ⟨σ, H, I, h⟩
theorem ps_continue : PS X (.Continue pos) tCont := fun _ _ σ H _ I h => wpAny_Continue ⟨σ, H, I, h⟩
/-- in a def's body nothing is shown -/
theorem Inv.quiet {pins : List (Addr × Obj)} {σ : St} {H : Hp} {s : Shared} (I : Inv X pins σ H s) : interactive X.env = false := by simp [interactive, I.ok.kind]
/-- a docstring -/
theorem ps_doc {x j pos pos'} : PS X (.Expr (.Constant (.str x) j pos) pos') tNext := fun _ s σ H _ I h => wpAny_Expr (Calls.Constant_str (show SP X _ _ .next { s with toks := s.toks + 1 } from ⟨σ, H, I.tok _, h⟩)) I.quiet
/-- an expression whose value is dropped -/
def tDrop (te : TE) : TS := fun D σ H => te σ H fun _ H1 => D.nx σ H1
theorem ps_expr (he : PE X e te) (hs : swapsWith e none pos.line X.env = pure false := by rfl) : PS X (.Expr e pos) (tDrop te) := by
  intro pins s σ H D I h
  exact wpAny_Expr_any (thn (he pins s σ H _ I h) fun v s1 ⟨x, H1, I1, r1, q1⟩ => ⟨σ, H1, I1, q1⟩) I.quiet hs
def tRet (te : TE) : TS := fun D σ H => te σ H D.rt
theorem ps_ret (he : PE X e te) : PS X (.Return (some e) pos) (tRet te) := by
  intro pins s σ H D I h
  exact wpAny_Return_some (thn (he pins s σ H _ I h) fun v s1 ⟨x, H1, I1, r1, q1⟩ => ⟨x, σ, H1, I1, r1, q1⟩)
def tRetN : TS := fun D _ H => D.rt .non H
theorem ps_retN : PS X (.Return none pos) tRetN := fun _ _ σ H _ I h => wpAny_Return_none ⟨.non, σ, H, I, rfl, h⟩
def tIfS (c : TT) (t u : TS) : TS := fun D σ H => c σ H fun b H1 => if b = true then t D σ H1 else u D σ H1
theorem ps_if {c : Expr} {a b : List Stmt} {tc : TT} (hc : PT X c tc) (ha : PSs X a t) (hb : PSs X b u) : PS X (.If c a b pos) (tIfS tc t u) := by
  intro pins s σ H D I h
  refine wpAny_If (thn (hc pins s σ H _ I h) fun d s1 ⟨H1, I1, q1⟩ => ?_)
  cases d with
  | true => exact ha pins s1 σ H1 D I1 q1
  | false => exact hb pins s1 σ H1 D I1 q1
/-- code that the proof never comes to -/
def tNever : TS := fun _ _ _ => False
theorem ps_never : PS X st tNever := fun _ _ _ _ _ _ h => h.elim
theorem pss_never {sts : List Stmt} : PSs X sts tNever := fun _ _ _ _ _ _ h => h.elim
end

/-! ### targets -/
abbrev TG := V → St → Hp → (St → Hp → Prop) → Prop
abbrev TGs := List V → St → Hp → (St → Hp → Prop) → Prop
def PG (X : Cx) (target : Expr) (t : TG) : Prop :=
  ∀ (pins : List (Addr × Obj)) (s : Shared) (σ : St) (H : Hp) (v : V) (u : Value) (Q : St → Hp → Prop), Inv X pins σ H s → RelV v u → t v σ H Q →
    wpAny (model X.prog X.w) X.A (assign target X.env u) (fun _ s' => ∃ σ' H', Inv X pins σ' H' s' ∧ Q σ' H') X.xe s
/-- several targets, one after another -/
def PGs (X : Cx) (ts : List Expr) (t : TGs) : Prop :=
  ∀ (pins : List (Addr × Obj)) (s : Shared) (σ : St) (H : Hp) (vs : List V) (us : List Value) (Q : St → Hp → Prop), Inv X pins σ H s → Vals vs us → t vs σ H Q →
    wpAny (model X.prog X.w) X.A (assignInOrder ((assignEach ts X.env).map (·.2)) us) (fun _ s' => ∃ σ' H', Inv X pins σ' H' s' ∧ Q σ' H') X.xe s
/-- o[i] = v, by values -/
abbrev TSet := V → V → V → Hp → (Hp → Prop) → Prop
def PSet (X : Cx) (t : TSet) : Prop :=
  ∀ (pins : List (Addr × Obj)) (s : Shared) (σ : St) (H : Hp) (o i v : V) (ov iv u : Value) (Q : Hp → Prop), Inv X pins σ H s → RelV o ov → RelV i iv → RelV v u → t o i v H Q →
    wpAny (model X.prog X.w) X.A (setItem ov iv u) (fun _ s' => ∃ H', Inv X pins σ H' s' ∧ Q H') X.xe s
/-- a op= b, by values -/
abbrev TIp := V → V → Hp → VK → Prop
def PIp (X : Cx) (op : Operator) (t : TIp) : Prop :=
  ∀ (pins : List (Addr × Obj)) (s : Shared) (σ : St) (H : Hp) (x y : V) (v u : Value) (Q : VK), Inv X pins σ H s → RelV x v → RelV y u → t x y H Q →
    wpAny (model X.prog X.w) X.A (inplaceOp op v u) (EP X pins σ Q) X.xe s
section
variable {X : Cx} {pos : Pos}
def gName (i : Nat) : TG := fun v σ H Q => Q (σ.set i (some v)) H
theorem pg_name {i : Nat} {x : Str} (hN : X.N.Nodup) (hi : X.N[i]? = some x) (hx : Loc X.env.scope x) (hf : X.fn x = true ∨ X.env.scope.names.lookup x = some .local := by first | exact .inl rfl | exact .inr rfl | assumption) : PG X (.Name x pos) (gName i) := by
  intro pins s σ H v u Q I r h
  exact wpAny_assign_Name (store_ok I hN hi hx r (fun s' I' => ⟨_, H, I', h⟩) hf)
def gNil : TGs := fun vs σ H Q => vs = [] ∧ Q σ H
def gCons (t : TG) (u : TGs) : TGs := fun vs σ H Q => ∃ v r, vs = v :: r ∧ t v σ H fun σ' H' => u r σ' H' Q
theorem pgs_nil : PGs X [] gNil := by
  intro pins s σ H vs us Q I r h
  obtain ⟨e, h⟩ := h
  subst e
  cases r
  exact assignInOrder_nil ⟨σ, H, I, h⟩
theorem pgs_cons {e : Expr} {es : List Expr} {t : TG} {u : TGs} (h1 : PG X e t) (h2 : PGs X es u)
    (hs : (assignEach (e :: es) X.env).map (·.2) = assign e X.env :: (assignEach es X.env).map (·.2) := by rfl) : PGs X (e :: es) (gCons t u) := by
  intro pins s σ H vs us Q I r h
  obtain ⟨v, vr, e1, h⟩ := h
  subst e1
  cases r with
  | cons r rr =>
    rw [hs]
    refine assignInOrder_cons (thn (h1 pins s σ H _ _ _ I r h) fun _ s1 ⟨σ1, H1, I1, q1⟩ => ?_)
    exact h2 pins s1 σ1 H1 _ _ Q I1 rr q1
/-- (a, b, ..) = a tuple of that length -/
def gTup (K : PySem.W.Frag) (n : Nat) (t : TGs) : TG := fun v σ H Q => ∃ a xs, v = .ref a ∧ SqT K H a xs ∧ xs.length = n ∧ t xs σ H Q
theorem pg_tup {es : List Expr} {k : Nat} {t : TGs} {n : Nat} (hc : X.calm = true) (h : PGs X es t)
    (hn : (assignEach es X.env).length = n := by rfl) (hst : (assignEach es X.env).findIdx? (·.1) = none := by rfl) : PG X (.Tuple es k pos) (gTup X.K n t) := by
  intro pins s σ H v u Q I r hw
  obtain ⟨a, xs, e1, hq, hl, hw⟩ := hw
  subst e1
  cases r
  obtain ⟨its, rv, ht, hz⟩ := I.tuple hq
  refine assign_Tuple_tuple (I.ok.hd hc) ht (by simp [hn, ← hl, rv.length]) hst fun h' hx => ?_
  have I1 : Inv X pins σ H { s with heap := h' } := I.kept (t' := s.toks) fun b o e => hx b o (Nat.ne_of_lt (Heap.lt_size e)) e
  exact h pins _ σ H xs _ Q I1 (by simpa using rv) hw
/-- o[i] = .. -/
def gSub (to ti : TE) (t : TSet) : TG := fun v σ H Q => to σ H fun o H1 => ti σ H1 fun i H2 => t o i v H2 fun H3 => Q σ H3
theorem pg_sub {o i : Expr} {to ti : TE} {t : TSet} (ho : PE X o to) (hi : PE X i ti) (hs : PSet X t)
    (ha : ∀ v, assign (.Subscript o i pos) X.env v = (do
      let ov ← holding [v] (eval o X.env)
      let iv ← holding [v, ov] (eval i X.env)
      standAt pos
      holding [v, ov, iv] (setItem ov iv v)
      release [v, ov, iv] []) := by intro _; rfl) : PG X (.Subscript o i pos) (gSub to ti t) := by
  intro pins s σ H v u Q I r h
  rw [ha]
  refine wpAny_bind (wpAny_holding (thn (ho pins s σ H _ I h) fun ov s1 ⟨x, H1, I1, r1, q1⟩ => ?_))
  refine wpAny_bind (wpAny_holding (thn (hi pins s1 σ H1 _ I1 q1) fun iv s2 ⟨y, H2, I2, r2, q2⟩ => ?_))
  refine wpAny_bind (wpAny_standAt (wpAny_bind (wpAny_holding (thn (hs pins s2 σ H2 x y v ov iv u _ I2 r1 r2 r q2) fun _ s3 ⟨H3, I3, q3⟩ => ?_))))
  exact wpAny_release ⟨σ, H3, I3, q3⟩
/-- target = value -/
def tAsg (te : TE) (g : TG) : TS := fun D σ H => te σ H fun x H1 => g x σ H1 D.nx
theorem ps_asg {tg e : Expr} {te : TE} {g : TG} (he : PE X e te) (hg : PG X tg g) (hs : swapsWithSole [tg] e pos.line X.env = pure false := by rfl) (hw : swappedStores [tg] e X.env = pure none := by rfl)
    (h1 : (assignEach [tg] X.env).map (·.2) = [assign tg X.env] := by rfl) : PS X (.Assign [tg] e pos) (tAsg te g) := by
  intro pins s σ H D I h
  refine wpAny_Assign_stores (thn (he pins s σ H _ I h) fun v s1 ⟨x, H1, I1, r1, q1⟩ => ?_) hs hw
  rw [h1]
  exact thn (hg pins s1 σ H1 x v _ I1 r1 q1) fun _ s2 q => q
/-- name = value -/
theorem ps_set {i : Nat} {x : Str} {e : Expr} {te : TE} {pos' : Pos} (hN : X.N.Nodup) (hi : X.N[i]? = some x) (hx : Loc X.env.scope x) (he : PE X e te) (hs : swapsWith e (some (.Name x pos')) pos.line X.env = pure false := by rfl) (hf : X.fn x = true ∨ X.env.scope.names.lookup x = some .local := by first | exact .inl rfl | exact .inr rfl | assumption) :
    PS X (.Assign [.Name x pos'] e pos) (tAsg te (gName i)) := by
  intro pins s σ H D I h
  refine wpAny_Assign_Name (thn (he pins s σ H _ I h) fun v s1 ⟨y, H1, I1, r1, q1⟩ => ?_) hs
  exact store_ok I1 hN hi hx r1 (fun s2 I2 => ⟨_, H1, I2, q1⟩) hf
/-- a, b = x, y with plain local names: stored from the right; the pair itself is not tracked (the opening rows as in PyProof/Rows/TupAssign.lean:23) -/
def tPar (i j : Nat) (ta : TA) : TS := fun D σ H => ta σ H fun vs H1 => ∃ v w, vs = [v, w] ∧ D.nx ((σ.set i (some v)).set j (some w)) H1
theorem ps_par {i j : Nat} {x y : Str} {a b : Expr} {ta : TA} {px py pt : Pos} {kt k2 pt2} (hc : X.calm = true) (hN : X.N.Nodup) (hi : X.N[i]? = some x) (hj : X.N[j]? = some y) (hij : i ≠ j)
    (hx : X.env.scope.names.lookup x = some .local) (hy : X.env.scope.names.lookup y = some .local) (ha : PA X [a, b] ta)
    (hw : swappedStores [.Tuple [.Name x px, .Name y py] kt pt] (.Tuple [a, b] k2 pt2) X.env = pure (some [x, y]))
    (hs : swapsWithSole [.Tuple [.Name x px, .Name y py] kt pt] (.Tuple [a, b] k2 pt2) pos.line X.env = pure false := by rfl) :
    PS X (.Assign [.Tuple [.Name x px, .Name y py] kt pt] (.Tuple [a, b] k2 pt2) pos) (tPar i j ta) := by
  intro pins s σ H D I h
  rw [exec_Assign_arm]
  refine wpAny_bind (wpAny_standAt ?_)
  rw [hs]
  refine wpAny_bind (wpAny_pure ?_)
  rw [if_neg (by decide)]
  refine wpAny_bind (Tuple_ (thn (ha _ pins s σ H _ I h) fun us s1 ⟨vs, H1, I1, r1, q1⟩ => ?_))
  obtain ⟨v, w, e1, q1⟩ := q1
  subst e1
  obtain ⟨u1, u2, rfl, rv, rw'⟩ : ∃ u1 u2, us = [u1, u2] ∧ RelV v u1 ∧ RelV w u2 := by
    cases r1 with
    | cons p q =>
      cases q with
      | cons p' q' =>
        cases q'
        exact ⟨_, _, rfl, p, p'⟩
  refine wpAny_newObj_type ?_ (by show 2 ≤ sizeLine; decide)
  have I2 : Inv X pins σ H1 { s1 with heap := s1.heap.push { cls := .type "tuple", data := .seq [u1, u2].toArray } } := I1.kept (t' := s1.toks) fun b o e => Heap.get?_push_of_some _ e
  rw [hw]
  refine wpAny_bind (wpAny_pure ?_)
  show wpAny (model X.prog X.w) X.A (do rule "assign.swapped-stores"; let items ← unpackItems (.ref s1.heap.objs.size) 2 none; assignInOrder [fun v => bindName X.env y v, fun v => bindName X.env x v] items.reverse; pure Flow.next) _ _ _
  refine wpAny_bind (wpAny_rule (wpAny_bind (unpackItems_tuple (items := #[u1, u2]) (I.ok.hd hc) (IsTup.new s1.heap _) fun h' hx' => ?_)))
  have I3 := I2.kept (h' := h') (t' := s1.toks) fun b o e => hx' b o (Nat.ne_of_lt (Heap.lt_size e)) e
  show wpAny _ _ (assignInOrder [fun v => bindName X.env y v, fun v => bindName X.env x v] [u2, u1] >>= fun _ => pure Flow.next) _ _ _
  refine wpAny_bind (assignInOrder_cons (wpAny_bindName (store_ok I3 hN hj (.inl hy) rw' (fun s2 I4 => ?_) (.inr hy))))
  refine assignInOrder_cons (wpAny_bindName (store_ok I4 hN hi (.inl hx) rv (fun s3 I5 => assignInOrder_nil (wpAny_pure ?_)) (.inr hx)))
  rw [List.set_comm _ _ (Ne.symm hij)] at I5
  exact ⟨_, H1, I5, q1⟩
/-- name op= e -/
def tAug (i : Nat) (te : TE) (ti : TIp) : TS := fun D σ H => ∃ x, σ[i]? = some (some x) ∧ te σ H fun y H1 => ti x y H1 fun z H2 => D.nx (σ.set i (some z)) H2
theorem ps_aug {i : Nat} {x : Str} {e : Expr} {te : TE} {op : Operator} {ti : TIp} {pos' : Pos} (hN : X.N.Nodup) (hi : X.N[i]? = some x) (hx : Loc X.env.scope x) (he : PE X e te) (ho : PIp X op ti) (hf : X.fn x = true ∨ X.env.scope.names.lookup x = some .local := by first | exact .inl rfl | exact .inr rfl | assumption) :
    PS X (.AugAssign (.Name x pos') op e pos) (tAug i te ti) := by
  intro pins s σ H D I h
  obtain ⟨v, e1, h⟩ := h
  obtain ⟨m, hn, hl⟩ := I.loc
  have vis : Vis X.env.scope x := by rcases hx with k | k; exact .inl k; exact .inr (.inl k)
  obtain ⟨u, r, l⟩ := hl i x v hi e1 vis
  refine wpAny_AugAssign_Name ?_
  have go : wpAny (model X.prog X.w) X.A (eval e X.env) (fun w s₂ => wpAny (model X.prog X.w) X.A (inplaceOp op u w) (fun r s₃ => wpAny (model X.prog X.w) X.A (storeName X.env x r) (fun _ => SP X pins D .next) X.xe s₃) X.xe s₂) X.xe s := by
    refine thn (he pins s σ H _ I h) fun w s1 ⟨y, H1, I1, r1, q1⟩ => ?_
    refine thn (ho pins s1 σ H1 v y u w _ I1 r r1 q1) fun z s2 ⟨zv, H2, I2, r2, q2⟩ => ?_
    exact store_ok I2 hN hi hx r2 (fun s3 I3 => ⟨_, H2, I3, q2⟩) hf
  rcases l with ⟨hk, hm⟩ | ⟨hk, c, hc, hcell⟩
  · exact wpAny_loadName_local I.ok.kind hk hn hm go
  · rcases hk with hk | hk
    · exact wpAny_loadName_cell I.ok.kind hk hc hcell go
    · rcases hx with k | k
      · have : X.env.scope.names.lookup x = some .free := hk
        rw [k] at this; cases this
      · have : X.env.scope.names.lookup x = some .free := hk
        rw [k] at this; cases this
/-- o[i] op= e -/
def tAugS (to ti te : TE) (tget : V → V → Hp → VK → Prop) (tip : TIp) (tset : TSet) : TS := fun D σ H => to σ H fun o H1 => ti σ H1 fun i H2 => tget o i H2 fun x H3 => te σ H3 fun y H4 => tip x y H4 fun z H5 => tset o i z H5 fun H6 => D.nx σ H6
/-- o[i], by values -/
def PGet (X : Cx) (t : V → V → Hp → VK → Prop) : Prop :=
  ∀ (pins : List (Addr × Obj)) (s : Shared) (σ : St) (H : Hp) (o i : V) (ov iv : Value) (Q : VK), Inv X pins σ H s → RelV o ov → RelV i iv → t o i H Q →
    wpAny (model X.prog X.w) X.A (getItem ov iv) (EP X pins σ Q) X.xe s
theorem ps_augS {o i e : Expr} {to ti te : TE} {tget : V → V → Hp → VK → Prop} {tip : TIp} {tset : TSet} {op : Operator} {tpos : Pos} (ho : PE X o to) (hi : PE X i ti) (hg : PGet X tget) (he : PE X e te) (hp : PIp X op tip) (hs : PSet X tset)
    (ha : ∀ ov iv new, augStore i ov iv new = (do holding [new, ov, iv] (setItem ov iv new); release [new, ov, iv] []; pure .next) := by intros; rfl) : PS X (.AugAssign (.Subscript o i tpos) op e pos) (tAugS to ti te tget tip tset) := by
  intro pins s σ H D I h
  refine wpAny_AugAssign_SubscriptAny (thn (ho pins s σ H _ I h) fun ov s1 ⟨x1, H1, I1, r1, q1⟩ => ?_) ha
  refine thn (hi pins s1 σ H1 _ I1 q1) fun iv s2 ⟨x2, H2, I2, r2, q2⟩ => ?_
  refine thn (hg pins s2 σ H2 x1 x2 ov iv _ I2 r1 r2 q2) fun old s3 ⟨x3, H3, I3, r3, q3⟩ => ?_
  refine thn (he pins s3 σ H3 _ I3 q3) fun v s4 ⟨x4, H4, I4, r4, q4⟩ => ?_
  refine thn (hp pins s4 σ H4 x3 x4 old v _ I4 r3 r4 q4) fun new s5 ⟨x5, H5, I5, r5, q5⟩ => ?_
  exact thn (hs pins s5 σ H5 x1 x2 x5 ov iv new _ I5 r1 r2 r5 q5) fun _ s6 ⟨H6, I6, q6⟩ => ⟨σ, H6, I6, q6⟩
/-- ints -/
def ipI (f : Int → Int → Int) : TIp := fun x y H Q => ∃ i j, x = .int i ∧ y = .int j ∧ Q (.int (f i j)) H
theorem ip_add : PIp X .Add (ipI fun i j => i + j) := by
  intro pins s σ H x y v u Q I r1 r2 h
  obtain ⟨i, j, e1, e2, q⟩ := h
  subst e1; subst e2
  obtain ⟨t, rfl⟩ := r1
  obtain ⟨t', rfl⟩ := r2
  exact iadd_int ⟨.int _, H, I.tok _, ⟨_, rfl⟩, q⟩
theorem ip_sub : PIp X .Sub (ipI fun i j => i - j) := by
  intro pins s σ H x y v u Q I r1 r2 h
  obtain ⟨i, j, e1, e2, q⟩ := h
  subst e1; subst e2
  obtain ⟨t, rfl⟩ := r1
  obtain ⟨t', rfl⟩ := r2
  exact isub_int ⟨.int _, H, I.tok _, ⟨_, rfl⟩, q⟩
end

/-! ### while -/
section
variable {X : Cx} {pos : Pos}
/-- the invariant W with its measure -/
def tWhile (c : TT) (tb : TS) : TS := fun D σ H => ∃ W : Nat → St → Hp → Prop, (∃ m, W m σ H) ∧ ∀ m σ H, W m σ H →
  c σ H fun b H1 => if b = true then ∃ N : St → Hp → Prop, (∀ σ' H', N σ' H' → ∃ m', m' < m ∧ W m' σ' H') ∧ tb { D with nx := N, ct := N, bk := D.nx } σ H1 else D.nx σ H1
theorem ps_while {c : Expr} {body : List Stmt} {tc : TT} {tb : TS} (hp : PassesOwn (model X.prog X.w) X.A X.env X.xe) (hc : PT X c tc) (hb : PSs X body tb) : PS X (.While c body [] pos) (tWhile tc tb) := by
  intro pins s σ H D I h
  obtain ⟨W, ⟨m0, w0⟩, turn⟩ := h
  refine wpAny_While (codeAny_whileLoop (fun n s' => ∃ σ' H', Inv X pins σ' H' s' ∧ W n σ' H') ?_ m0 ⟨σ, H, I, w0⟩)
  rintro n s1 ⟨σ1, H1, I1, w1⟩
  refine wpAny_passesOwn hp (thn (hc pins s1 σ1 H1 _ I1 (turn n σ1 H1 w1)) fun b s2 ⟨H2, I2, q2⟩ => ?_)
  cases b with
  | true =>
    obtain ⟨N, hN, q2⟩ := q2
    rw [if_pos rfl]
    refine wpAny_passesOwn hp (thn (hb pins s2 σ1 H2 _ I2 q2) fun f s3 q3 => ?_)
    cases f with
    | next =>
      obtain ⟨σ3, H3, I3, n3⟩ := q3
      obtain ⟨m', hm, w3⟩ := hN σ3 H3 n3
      exact ⟨m', hm, σ3, H3, I3, w3⟩
    | cont =>
      obtain ⟨σ3, H3, I3, n3⟩ := q3
      obtain ⟨m', hm, w3⟩ := hN σ3 H3 n3
      exact ⟨m', hm, σ3, H3, I3, w3⟩
    | brk => exact q3
    | ret v => exact q3
  | false =>
    rw [if_neg Bool.false_ne_true]
    exact wpAny_execs_nil ⟨σ1, H2, I2, q2⟩
end

/-! ### what a loop or a comprehension walks -/
/-- at turn i: it yields x (the heap may grow), or it stops -/
structure It where
  go : Nat → Hp → Prop
  yld : Nat → Hp → V → Hp → Prop
  stop : Nat → Hp → Prop
/-- the iterator's own objects may turn: they are not the frame's, not pinned, younger than the entry (or a comprehension's own) -/
def FpOk (X : Cx) (pins : List (Addr × Obj)) (H : Hp) (b : Addr) : Prop :=
  H b = none ∧ b ≠ X.env.locals ∧ b ∉ X.fs ∧ (b ∈ X.ex ∨ X.s_0.heap.objs.size ≤ b) ∧ (∀ x c, X.env.cells.lookup x = some c → c ≠ b) ∧ ∀ p ∈ X.pn ++ pins, p.1 ≠ b
theorem Inv.fpOk {X : Cx} {pins : List (Addr × Obj)} {σ : St} {H H' : Hp} {s : Shared} {b : Addr} (I : Inv X pins σ H s) (hb : s.heap.objs.size ≤ b) (hn : H' b = none) : FpOk X pins H' b := by
  refine ⟨hn, Nat.ne_of_gt (Nat.lt_of_lt_of_le I.lt hb), I.nofs hb, .inr (Nat.le_trans I.sz hb), fun x c e z => ?_, fun p hp z => ?_⟩
  · obtain ⟨v, q⟩ := I.cell x c e
    exact absurd (Nat.lt_of_lt_of_le q.lt (by rw [z]; exact hb)) (Nat.lt_irrefl _)
  · exact absurd (Nat.lt_of_lt_of_le (Heap.lt_size (I.pin p hp).1) (by rw [z]; exact hb)) (Nat.lt_irrefl _)
structure Turn (P : Program) (w : World) (K : PySem.W.Frag) (tg : Expr) (J : It) (fp : List Addr) (it : Addr) (tn : Nat → Heap → Prop) : Prop where
  mem : it ∈ fp
  obj : ∀ i h, tn i h → ∀ b ∈ fp, ∃ o, h.get? b = some o ∧ ∀ v, o.data ≠ .cell v
  keep : ∀ i h h', tn i h → (∀ b ∈ fp, ∀ o, h.get? b = some o → h'.get? b = some o) → tn i h'
  item : ∀ (X : Cx), X.prog = P → X.w = w → X.K = K → X.calm = true → ∀ (i : Nat) (pins : List (Addr × Obj)) (s : Shared) (σ : St) (H : Hp) (E : Value → Shared → Prop), Inv X pins σ H s → (∀ b ∈ fp, FpOk X pins H b) → tn i s.heap → J.go i H →
    wpAny (model P w) X.A (pyNext (.ref it)) (fun r s1 => ∃ u, r = some u ∧
      wpAny (model P w) X.A (letOwnedTupleGo tg (.ref it) u) (fun _ s2 => ∃ x H', Inv X pins σ H' s2 ∧ RelV x u ∧ J.yld i H x H' ∧ tn (i + 1) s2.heap ∧ ∀ b ∈ fp, H' b = none) E s1) E s
  done : ∀ (X : Cx), X.prog = P → X.w = w → X.K = K → X.calm = true → ∀ (i : Nat) (pins : List (Addr × Obj)) (s : Shared) (σ : St) (H : Hp) (E : Value → Shared → Prop), Inv X pins σ H s → (∀ b ∈ fp, FpOk X pins H b) → tn i s.heap → J.stop i H →
    wpAny (model P w) X.A (pyNext (.ref it)) (fun r s1 => r = none ∧ Inv X pins σ H s1) E s
  self : ∀ (A : Around) (i : Nat) (s : Shared) (Q : Value → Shared → Prop) (E : Value → Shared → Prop), tn i s.heap → Q (.ref it) s → wpAny (model P w) A (pyIter (.ref it)) Q E s
abbrev TI := St → Hp → (It → Hp → Prop) → Prop
/-- an iterator has come -/
def PIE (X : Cx) (pins : List (Addr × Obj)) (σ : St) (tg : Expr) (R : It → Hp → Prop) (itv : Value) (s2 : Shared) : Prop :=
  ∃ (it : Addr) (fp : List Addr) (tn : Nat → Heap → Prop) (J : It) (H' : Hp), itv = .ref it ∧ Inv X pins σ H' s2 ∧ Turn X.prog X.w X.K tg J fp it tn ∧ tn 0 s2.heap ∧ (∀ b ∈ fp, FpOk X pins H' b) ∧ R J H'
def PI (X : Cx) (tg iter : Expr) (wi : TI) : Prop :=
  ∀ (pins : List (Addr × Obj)) (s : Shared) (σ : St) (H : Hp) (R : It → Hp → Prop), Inv X pins σ H s → wi σ H R →
    wpAny (model X.prog X.w) X.A (eval iter X.env) (fun v s1 => wpAny (model X.prog X.w) X.A (pyIter v) (PIE X pins σ tg R) X.xe s1) X.xe s

/-- the step ahead of the store is nothing for an iterator that keeps no tuple -/
theorem go_of {M : Model} {A : Around} {E : Value → Shared → Prop} {s : Shared} {tg : Expr} {it : Addr} {u : Value} {o : Obj} {n : String} {vs : Array Value} {Q : Unit → Shared → Prop} (ho : s.heap.get? it = some o) (hc : o.cls = .type n) (hd : o.data = .fields vs)
    (hn : ["enumerate", "zip", "dict_itemiterator", "dict_reverseitemiterator", "odict_iterator", "itertools.zip_longest", "itertools.pairwise"].contains n = false) (hQ : Q () s) : wpAny M A (letOwnedTupleGo tg (.ref it) u) Q E s := by
  unfold letOwnedTupleGo
  cases tg <;> first
    | exact wpAny_pure hQ
    | (cases u <;> first
        | exact wpAny_pure hQ
        | (refine wpAny_bind (wpAny_load ho ?_)
           rw [hc, hd]
           show wpAny M A (if (["enumerate", "zip", "dict_itemiterator", "dict_reverseitemiterator", "odict_iterator", "itertools.zip_longest", "itertools.pairwise"].contains n && vs[0]? == some (rawInt _)) = true then _ else _) Q E s
           rw [if_neg (by intro h; rw [hn, Bool.false_and] at h; cases h)]
           exact wpAny_pure hQ))

/-- the list at a, as it stands at each turn (a loop may append to it) -/
def Itl (K : PySem.W.Frag) (a : Addr) : It :=
  ⟨fun i H => ∃ xs x, SqL K H a xs ∧ xs[i]? = some x, fun i H x H' => H' = H ∧ ∀ xs, SqL K H a xs → xs[i]? = some x, fun i H => ∃ xs, SqL K H a xs ∧ xs.length ≤ i⟩
def Itt (K : PySem.W.Frag) (a : Addr) : It :=
  ⟨fun i H => ∃ xs x, SqT K H a xs ∧ xs[i]? = some x, fun i H x H' => H' = H ∧ ∀ xs, SqT K H a xs → xs[i]? = some x, fun i H => ∃ xs, SqT K H a xs ∧ xs.length ≤ i⟩
/-- lo, lo + 1, .. (n of them) -/
def Itr (lo : Int) (n : Nat) : It := ⟨fun i _ => i < n, fun i H x H' => H' = H ∧ x = .int (lo + i), fun i _ => n ≤ i⟩
theorem turn_list {P : Program} {w : World} {K : PySem.W.Frag} {tg : Expr} (a it : Addr) : Turn P w K tg (Itl K a) [it] it (fun i h => h.IsListIter it a i) where
  mem := by simp
  obj := fun i h st b hb => by
    have e : b = it := by simpa using hb
    subst e
    obtain ⟨o, e, c, d⟩ := st
    exact ⟨o, e, fun v z => by rw [d] at z; cases z⟩
  keep := fun i h h' st k => st.at fun o e => k it (by simp) o e
  item := by
    intro X hP hw hK hc i pins s σ H E I hf st hg
    subst hP hw hK
    obtain ⟨xs, x, hq, hx⟩ := hg
    obtain ⟨its, rv, p, hz⟩ := I.list hq
    obtain ⟨u, hu, ru⟩ := rv.get hx
    obtain ⟨f0, f1, f2, f3, f4, f5⟩ := hf it (by simp)
    refine wpAny_pyNext_list_item st p.isList (x := u) (by simpa using hu) fun h' st' sb => ?_
    have I1 : Inv X pins σ H { s with heap := h' } := I.turned (t' := s.toks) (fun b o hb e => (sb.2 b hb).trans e) f0 f1 f3 f4 f5
    obtain ⟨o, e, c, d⟩ := id st'
    exact ⟨u, rfl, go_of (s := { s with heap := h' }) e c d (by decide) ⟨x, H, I1, ru, ⟨rfl, fun ys hy => by rw [I.list_inj hy hq]; exact hx⟩, st', fun b hb => (hf b hb).1⟩⟩
  done := by
    intro X hP hw hK hc i pins s σ H E I hf st hg
    subst hP hw hK
    obtain ⟨xs, hq, hx⟩ := hg
    obtain ⟨its, rv, p, hz⟩ := I.list hq
    obtain ⟨f0, f1, f2, f3, f4, f5⟩ := hf it (by simp)
    have hl := rv.length
    exact wpAny_pyNext_list_end (I.ok.hd hc) st p.isList (by simp; omega) fun h' eb => ⟨rfl, I.turned (t' := s.toks) (fun b o hb e => eb b o hb e) f0 f1 f3 f4 f5⟩
  self := fun _ _ _ _ _ st h => wpAny_pyIter_listiter st h
theorem turn_tuple {P : Program} {w : World} {K : PySem.W.Frag} {tg : Expr} (a it : Addr) : Turn P w K tg (Itt K a) [it] it (fun i h => h.IsTupleIter it a i) where
  mem := by simp
  obj := fun i h st b hb => by
    have e : b = it := by simpa using hb
    subst e
    obtain ⟨o, e, c, d⟩ := st
    exact ⟨o, e, fun v z => by rw [d] at z; cases z⟩
  keep := fun i h h' st k => st.at fun o e => k it (by simp) o e
  item := by
    intro X hP hw hK hc i pins s σ H E I hf st hg
    subst hP hw hK
    obtain ⟨xs, x, hq, hx⟩ := hg
    obtain ⟨its, rv, p, hz⟩ := I.tuple hq
    obtain ⟨u, hu, ru⟩ := rv.get hx
    obtain ⟨f0, f1, f2, f3, f4, f5⟩ := hf it (by simp)
    refine wpAny_pyNext_tuple_item st (show s.heap.IsTuple a its.toArray from p) (x := u) (by simpa using hu) fun h' st' sb => ?_
    have I1 : Inv X pins σ H { s with heap := h' } := I.turned (t' := s.toks) (fun b o hb e => (sb.2 b hb).trans e) f0 f1 f3 f4 f5
    obtain ⟨o, e, c, d⟩ := id st'
    exact ⟨u, rfl, go_of (s := { s with heap := h' }) e c d (by decide) ⟨x, H, I1, ru, ⟨rfl, fun ys hy => by rw [I.tuple_inj hy hq]; exact hx⟩, st', fun b hb => (hf b hb).1⟩⟩
  done := by
    intro X hP hw hK hc i pins s σ H E I hf st hg
    subst hP hw hK
    obtain ⟨xs, hq, hx⟩ := hg
    obtain ⟨its, rv, p, hz⟩ := I.tuple hq
    obtain ⟨f0, f1, f2, f3, f4, f5⟩ := hf it (by simp)
    have hl := rv.length
    exact wpAny_pyNext_tuple_end (I.ok.hd hc) st (show s.heap.IsTuple a its.toArray from p) (by simp; omega) fun h' eb => ⟨rfl, I.turned (t' := s.toks) (fun b o hb e => eb b o hb e) f0 f1 f3 f4 f5⟩
  self := fun _ _ _ _ _ st h => wpAny_pyIter_tupleiter st h
theorem turn_range {P : Program} {w : World} {K : PySem.W.Frag} {tg : Expr} (it : Addr) (lo : Int) (n : Nat) : Turn P w K tg (Itr lo n) [it] it (fun i h => IsRangeIter h it (lo + (i : Nat) * 1) ((n : Int) - (i : Nat)) 1) where
  mem := by simp
  obj := fun i h st b hb => by
    have e : b = it := by simpa using hb
    subst e
    exact ⟨_, st, fun v z => by
      have z' : Data.fields _ = Data.cell v := z
      cases z'⟩
  keep := fun i h h' st k => k it (by simp) _ st
  item := by
    intro X hP hw hK hc i pins s σ H E I hf st hg
    subst hP hw hK
    obtain ⟨f0, f1, f2, f3, f4, f5⟩ := hf it (by simp)
    have W := Walks.range (prog := X.prog) (w := X.w) (I.ok.hd hc) it lo 1 n
    refine W.item i s _ _ hg st fun v h' tk hv st' kk => ?_
    obtain ⟨t, rfl⟩ := hv
    have I1 : Inv X pins σ H { s with heap := h', toks := tk } := I.turned (fun b o hb e => kk b o (by simpa using hb) e) f0 f1 f3 f4 f5
    refine ⟨_, rfl, go_of (s := { s with heap := h', toks := tk }) (n := "range_iterator") st' rfl rfl (by decide) ⟨.int (lo + i), H, I1, ⟨t, ?_⟩, ⟨rfl, rfl⟩, st', fun b hb => (hf b hb).1⟩⟩
    rw [Int.mul_one]
  done := by
    intro X hP hw hK hc i pins s σ H E I hf st hg
    subst hP hw hK
    obtain ⟨f0, f1, f2, f3, f4, f5⟩ := hf it (by simp)
    exact wpAny_pyNext_range_end (I.ok.hd hc) st (by have : n ≤ i := hg; omega) fun h' eb => ⟨rfl, I.turned (t' := s.toks) (fun b o hb e => eb b o hb e) f0 f1 f3 f4 f5⟩
  self := fun _ _ _ _ _ st h => wpAny_pyIter_rangeiter st h
end L2

namespace L2
open PySem PySem.Spec PyProof.Rows
section
variable {X : Cx} {tg : Expr}
def iList (K : PySem.W.Frag) (tl : TE) : TI := fun σ H R => tl σ H fun x H1 => ∃ a, x = .ref a ∧ (∃ xs, SqL K H1 a xs) ∧ R (Itl K a) H1
def iTup (K : PySem.W.Frag) (tl : TE) : TI := fun σ H R => tl σ H fun x H1 => ∃ a, x = .ref a ∧ (∃ xs, SqT K H1 a xs) ∧ R (Itt K a) H1
theorem pi_list {l : Expr} {tl : TE} (hl : PE X l tl) : PI X tg l (iList X.K tl) := by
  intro pins s σ H R I h
  refine thn (hl pins s σ H _ I h) fun v s1 ⟨x, H1, I1, r1, q1⟩ => ?_
  obtain ⟨a, e, ⟨xs, hq⟩, q⟩ := q1
  subst e
  cases r1
  obtain ⟨its, rv, p, hz⟩ := I1.list hq
  refine wpAny_pyIter_list p.isList ?_
  refine ⟨s1.heap.objs.size, [s1.heap.objs.size], _, _, H1, rfl, I1.kept (t' := s1.toks) fun b o e => Heap.get?_push_of_some _ e, turn_list a _, ⟨_, Heap.get?_push_size _ rfl, rfl, rfl⟩, fun b hb => ?_, q⟩
  have e : b = s1.heap.objs.size := by simpa using hb
  subst e
  exact I1.fpOk (Nat.le_refl _) (I1.hok.fresh (Nat.le_refl _))
theorem pi_tup {l : Expr} {tl : TE} (hl : PE X l tl) : PI X tg l (iTup X.K tl) := by
  intro pins s σ H R I h
  refine thn (hl pins s σ H _ I h) fun v s1 ⟨x, H1, I1, r1, q1⟩ => ?_
  obtain ⟨a, e, ⟨xs, hq⟩, q⟩ := q1
  subst e
  cases r1
  obtain ⟨its, rv, p, hz⟩ := I1.tuple hq
  refine wpAny_pyIter_tuple (show s1.heap.IsTuple a its.toArray from p) ?_
  refine ⟨s1.heap.objs.size, [s1.heap.objs.size], _, _, H1, rfl, I1.kept (t' := s1.toks) fun b o e => Heap.get?_push_of_some _ e, turn_tuple a _, ⟨_, Heap.get?_push_size _ rfl, rfl, rfl⟩, fun b hb => ?_, q⟩
  have e : b = s1.heap.objs.size := by simpa using hb
  subst e
  exact I1.fpOk (Nat.le_refl _) (I1.hok.fresh (Nat.le_refl _))
/-- a range object just made, walked -/
theorem range_it {pins : List (Addr × Obj)} {σ : St} {H : Hp} {s : Shared} {R : It → Hp → Prop} {E : Value → Shared → Prop} {lo hi : Int} {t u v : Tok} {tk : Nat} (I : Inv X pins σ H s) (h1 : -(2 ^ 62) ≤ lo) (h2 : lo < 2 ^ 62) (h3 : -(2 ^ 62) ≤ hi) (h4 : hi < 2 ^ 62)
    (q : R (Itr lo (hi - lo).toNat) H) : wpAny (model X.prog X.w) X.A (pyIter (.ref s.heap.objs.size)) (PIE X pins σ tg R) E { s with heap := s.heap.push { cls := .type "range", data := .fields #[.int lo t, .int hi u, .int 1 v] }, toks := tk } := by
  refine wpAny_pyIter_range (IsRange.new ..) (small_one h1 h2 h3 h4) ?_
  have I1 : Inv X pins σ H { s with heap := s.heap.push { cls := .type "range", data := .fields #[.int lo t, .int hi u, .int 1 v] }, toks := tk } := I.kept fun b o e => Heap.get?_push_of_some _ e
  refine ⟨(s.heap.push { cls := .type "range", data := .fields #[.int lo t, .int hi u, .int 1 v] }).objs.size, [(s.heap.push { cls := .type "range", data := .fields #[.int lo t, .int hi u, .int 1 v] }).objs.size], _, _, H, rfl,
    I1.kept (t' := tk) fun b o e => Heap.get?_push_of_some _ e, turn_range _ lo (hi - lo).toNat, ?_, fun b hb => ?_, q⟩
  · have e1 : lo + ((0 : Nat) : Int) * 1 = lo := by simp
    have e2 : (((hi - lo).toNat : Nat) : Int) - ((0 : Nat) : Int) = Builtin.Range.rangeSize lo hi 1 := by rw [rangeSize_one]; split <;> omega
    show IsRangeIter _ _ (lo + ((0 : Nat) : Int) * 1) ((((hi - lo).toNat : Nat) : Int) - ((0 : Nat) : Int)) 1
    rw [e1, e2]
    exact Heap.get?_push_size _ rfl
  · have e : b = (s.heap.push { cls := .type "range", data := .fields #[.int lo t, .int hi u, .int 1 v] }).objs.size := by simpa using hb
    subst e
    exact I1.fpOk (Nat.le_refl _) (I1.hok.fresh (Nat.le_refl _))
def iRng1 (ta : TA) : TI := fun σ H R => ta σ H fun vs H1 => ∃ j : Int, vs = [.int j] ∧ -(2 ^ 62) ≤ j ∧ j < 2 ^ 62 ∧ R (Itr 0 j.toNat) H1
def iRng2 (ta : TA) : TI := fun σ H R => ta σ H fun vs H1 => ∃ i j : Int, vs = [.int i, .int j] ∧ (-(2 ^ 62) ≤ i ∧ i < 2 ^ 62 ∧ -(2 ^ 62) ≤ j ∧ j < 2 ^ 62) ∧ R (Itr i (j - i).toNat) H1
theorem pi_range1 {a : Expr} {ta : TA} {p pos : Pos} (hg : Gl X "range") (hm : X.mg "range" = none) (ha : PA X [a] ta) (hs : starEach [a] X.env = [(false, eval a X.env)] := by rfl) : PI X tg (.Call (.Name "range" p) [a] [] pos) (iRng1 ta) := by
  intro pins s σ H R I h
  refine Call_ (ld_blt I hg hm boot_range (PyProof.Rows.callWith_type1 (thn (ha pos pins s σ H _ I h) fun us s1 ⟨vs, H1, I1, r1, q1⟩ => ?_) hs rfl))
  obtain ⟨j, e, q1, q2, q⟩ := q1
  subst e
  cases r1 with
  | cons r rr =>
    cases rr
    obtain ⟨t, rfl⟩ := r
    exact call_range_1 (range_it I1 (by omega) (by omega) q1 q2 (by simpa using q))
theorem pi_range2 {a b : Expr} {ta : TA} {p pos : Pos} (hg : Gl X "range") (hm : X.mg "range" = none) (ha : PA X [a, b] ta) (hs : starEach [a, b] X.env = [(false, eval a X.env), (false, eval b X.env)] := by rfl) (hs2 : starEach [b] X.env = [(false, eval b X.env)] := by rfl) :
    PI X tg (.Call (.Name "range" p) [a, b] [] pos) (iRng2 ta) := by
  intro pins s σ H R I h
  refine Call_ (ld_blt I hg hm boot_range (PyProof.Rows.callWith_type1 (thn (ha pos pins s σ H _ I h) fun us s1 ⟨vs, H1, I1, r1, q1⟩ => ?_) (by rw [hs, hs2]) (by rw [hs2]; rfl)))
  obtain ⟨i, j, e, ⟨q1, q2, q3, q4⟩, q⟩ := q1
  subst e
  cases r1 with
  | cons r rr =>
    cases rr with
    | cons r' rr =>
      cases rr
      obtain ⟨t, rfl⟩ := r
      obtain ⟨t', rfl⟩ := r'
      exact call_range_2 (range_it I1 q1 q2 q3 q4 q)

/-! ### for -/
/-- W: the invariant by the turn and a measure; N: what the body is to reach -/
def tFor (wi : TI) (g : TG) (tb : TS) : TS := fun D σ H => wi σ H fun J H1 => ∃ W : Nat → Nat → St → Hp → Prop, (∃ m, W 0 m σ H1) ∧ ∀ i m σ H, W i m σ H →
  (J.stop i H ∧ D.nx σ H) ∨ (J.go i H ∧ ∃ N : St → Hp → Prop, (∀ σ' H', N σ' H' → ∃ m', m' < m ∧ W (i + 1) m' σ' H') ∧ ∀ x H', J.yld i H x H' → g x σ H' fun σ2 H2 => tb { D with nx := N, ct := N, bk := D.nx } σ2 H2)
/-- the records at fp as they stand -/
def pinsAt (fp : List Addr) (h : Heap) : List (Addr × Obj) := fp.filterMap fun b => (h.get? b).map fun o => (b, o)
theorem mem_pinsAt {fp : List Addr} {h : Heap} {b : Addr} {o : Obj} (hb : b ∈ fp) (e : h.get? b = some o) : (b, o) ∈ pinsAt fp h := List.mem_filterMap.mpr ⟨b, hb, by rw [e]; rfl⟩
theorem of_pinsAt {fp : List Addr} {h : Heap} {p : Addr × Obj} (hp : p ∈ pinsAt fp h) : p.1 ∈ fp ∧ h.get? p.1 = some p.2 := by
  obtain ⟨b, hb, e⟩ := List.mem_filterMap.mp hp
  cases q : h.get? b with
  | none => rw [q] at e; cases e
  | some o =>
    rw [q] at e
    have e' : (b, o) = p := Option.some.inj e
    subst e'
    exact ⟨hb, q⟩
theorem Inv.pinned {pins : List (Addr × Obj)} {σ : St} {H : Hp} {s : Shared} {fp : List Addr} (I : Inv X pins σ H s) (hf : ∀ b ∈ fp, FpOk X pins H b) (ho : ∀ b ∈ fp, ∃ o, s.heap.get? b = some o ∧ ∀ v, o.data ≠ .cell v) : Inv X (pins ++ pinsAt fp s.heap) σ H s :=
  I.pins_of fun p hp => (List.mem_append.mp hp).elim (fun z => I.pin p (List.mem_append_right _ z)) fun z => by
    obtain ⟨hb, e⟩ := of_pinsAt z
    obtain ⟨f0, f1, f2, _⟩ := hf p.1 hb
    obtain ⟨o, e', d⟩ := ho p.1 hb
    rw [e] at e'; cases e'
    exact ⟨e, f0, f1, f2, d⟩
theorem Inv.unpinned {pins pl : List (Addr × Obj)} {σ : St} {H : Hp} {s : Shared} (I : Inv X (pins ++ pl) σ H s) : Inv X pins σ H s := I.pins_of fun p hp => I.pin p (List.mem_append_right _ (List.mem_append_left _ hp))
theorem ps_for {iter : Expr} {body : List Stmt} {wi : TI} {g : TG} {tb : TS} {pos : Pos} (hp : PassesOwn (model X.prog X.w) X.A X.env X.xe) (hc : X.calm = true) (hi : PI X tg iter wi) (hg : PG X tg g) (hb : PSs X body tb)
    (hs : ∀ x, foldedSetIterable iter X.env x = pure x := by intro _; rfl) : PS X (.For tg iter body [] pos) (tFor wi g tb) := by
  intro pins s σ H D I h
  refine wpAny_For (thn (hi pins s σ H _ I h) fun v s1 h1 => thn h1 fun itv s2 h2 => ?_) hs
  obtain ⟨it, fp, tn, J, H2, e, I2, T, st2, f2, W, ⟨m0, w0⟩, turn⟩ := h2
  subst e
  -- what stays true of the iterator's objects through the loop
  have stat : ∀ {H' : Hp}, (∀ b ∈ fp, H' b = none) → ∀ b ∈ fp, FpOk X pins H' b := fun hn b hb => ⟨hn b hb, (f2 b hb).2⟩
  refine codeAny_forLoop_any (fun n s' => ∃ i σ' H', Inv X pins σ' H' s' ∧ tn i s'.heap ∧ (∀ b ∈ fp, H' b = none) ∧ W i n σ' H') ?_ m0 ⟨0, σ, H2, I2, st2, fun b hb => (f2 b hb).1, w0⟩
  rintro n s3 ⟨i, σ3, H3, I3, st3, fr3, w3⟩
  rcases turn i n σ3 H3 w3 with ⟨stop, qn⟩ | ⟨go, N, hN, step⟩
  · refine wpAny_passesOwn hp (thn (T.done X rfl rfl rfl hc i pins s3 σ3 H3 X.xe I3 (stat fr3) st3 stop) fun r s4 ⟨hr, I4⟩ => ?_)
    subst hr
    exact wpAny_execs_nil ⟨σ3, H3, I4, qn⟩
  · refine wpAny_passesOwn hp (thn (T.item X rfl rfl rfl hc i pins s3 σ3 H3 X.xe I3 (stat fr3) st3 go) fun r s4 ⟨u, hr, h4⟩ => ?_)
    subst hr
    refine wpAny_passesOwn hp (thn h4 fun _ s5 ⟨x, H5, I5, r5, y5, st5, fr5⟩ => ?_)
    have I5' := I5.pinned (stat fr5) (T.obj _ _ st5)
    refine wpAny_passesOwn hp (thn (hg _ s5 σ3 H5 x u _ I5' r5 (step x H5 y5)) fun _ s6 ⟨σ6, H6, I6, q6⟩ => ?_)
    refine wpAny_passesOwn hp (thn (hb _ s6 σ6 H6 _ I6 q6) fun f s7 q7 => ?_)
    have again : ∀ {σ7 : St} {H7 : Hp}, Inv X (pins ++ pinsAt fp s5.heap) σ7 H7 s7 → N σ7 H7 → ∃ m, m < n ∧ ∃ i σ' H', Inv X pins σ' H' s7 ∧ tn i s7.heap ∧ (∀ b ∈ fp, H' b = none) ∧ W i m σ' H' := fun {σ7 H7} I7 n7 => by
      obtain ⟨m', hm, w7⟩ := hN σ7 H7 n7
      refine ⟨m', hm, i + 1, σ7, H7, I7.unpinned, T.keep _ _ _ st5 fun b hb o e => (I7.pin (b, o) (List.mem_append_right _ (List.mem_append_right _ (mem_pinsAt hb e)))).1, fun b hb => ?_, w7⟩
      obtain ⟨o, e, d⟩ := T.obj _ _ st5 b hb
      exact (I7.pin (b, o) (List.mem_append_right _ (List.mem_append_right _ (mem_pinsAt hb e)))).2.1
    cases f with
    | next => obtain ⟨σ7, H7, I7, n7⟩ := q7; exact again I7 n7
    | cont => obtain ⟨σ7, H7, I7, n7⟩ := q7; exact again I7 n7
    | brk => obtain ⟨σ7, H7, I7, q7⟩ := q7; exact ⟨σ7, H7, I7.unpinned, q7⟩
    | ret v => obtain ⟨x7, σ7, H7, I7, r7, q7⟩ := q7; exact ⟨x7, σ7, H7, I7.unpinned, r7, q7⟩
end

/-! ### the forms one uses -/
/-- over a list that the body leaves as it is -/
theorem for_list {K : PySem.W.Frag} {a : Addr} {xs : List V} {g : TG} {tb : TS} {D : Ends} {σ : St} {H : Hp} (Pv : Nat → St → Hp → Prop) (h0 : Pv 0 σ H) (hl : ∀ i σ H, i ≤ xs.length → Pv i σ H → SqL K H a xs)
    (hs : ∀ i x σ H, xs[i]? = some x → Pv i σ H → g x σ H fun σ2 H2 => tb { D with nx := Pv (i + 1), ct := Pv (i + 1), bk := D.nx } σ2 H2) (hd : ∀ σ H, Pv xs.length σ H → D.nx σ H) :
    ∃ W : Nat → Nat → St → Hp → Prop, (∃ m, W 0 m σ H) ∧ ∀ i m σ H, W i m σ H →
      ((Itl K a).stop i H ∧ D.nx σ H) ∨ ((Itl K a).go i H ∧ ∃ N : St → Hp → Prop, (∀ σ' H', N σ' H' → ∃ m', m' < m ∧ W (i + 1) m' σ' H') ∧ ∀ x H', (Itl K a).yld i H x H' → g x σ H' fun σ2 H2 => tb { D with nx := N, ct := N, bk := D.nx } σ2 H2) := by
  refine ⟨fun i m σ H => m = xs.length - i ∧ i ≤ xs.length ∧ Pv i σ H, ⟨xs.length, by simp, Nat.zero_le _, h0⟩, ?_⟩
  rintro i m σ H ⟨rfl, hi, p⟩
  have q := hl i σ H hi p
  by_cases hlt : i < xs.length
  · refine .inr ⟨⟨xs, xs[i], q, by simp [hlt]⟩, Pv (i + 1), fun σ' H' p' => ⟨xs.length - (i + 1), by omega, rfl, hlt, p'⟩, fun x H' y => ?_⟩
    obtain ⟨e, y⟩ := y
    subst e
    exact hs i x σ _ (y xs q) p
  · have e : i = xs.length := by omega
    subst e
    exact .inl ⟨⟨xs, q, Nat.le_refl _⟩, hd σ H p⟩
theorem for_tup {K : PySem.W.Frag} {a : Addr} {xs : List V} {g : TG} {tb : TS} {D : Ends} {σ : St} {H : Hp} (Pv : Nat → St → Hp → Prop) (h0 : Pv 0 σ H) (hl : ∀ i σ H, i ≤ xs.length → Pv i σ H → SqT K H a xs)
    (hs : ∀ i x σ H, xs[i]? = some x → Pv i σ H → g x σ H fun σ2 H2 => tb { D with nx := Pv (i + 1), ct := Pv (i + 1), bk := D.nx } σ2 H2) (hd : ∀ σ H, Pv xs.length σ H → D.nx σ H) :
    ∃ W : Nat → Nat → St → Hp → Prop, (∃ m, W 0 m σ H) ∧ ∀ i m σ H, W i m σ H →
      ((Itt K a).stop i H ∧ D.nx σ H) ∨ ((Itt K a).go i H ∧ ∃ N : St → Hp → Prop, (∀ σ' H', N σ' H' → ∃ m', m' < m ∧ W (i + 1) m' σ' H') ∧ ∀ x H', (Itt K a).yld i H x H' → g x σ H' fun σ2 H2 => tb { D with nx := N, ct := N, bk := D.nx } σ2 H2) := by
  refine ⟨fun i m σ H => m = xs.length - i ∧ i ≤ xs.length ∧ Pv i σ H, ⟨xs.length, by simp, Nat.zero_le _, h0⟩, ?_⟩
  rintro i m σ H ⟨rfl, hi, p⟩
  have q := hl i σ H hi p
  by_cases hlt : i < xs.length
  · refine .inr ⟨⟨xs, xs[i], q, by simp [hlt]⟩, Pv (i + 1), fun σ' H' p' => ⟨xs.length - (i + 1), by omega, rfl, hlt, p'⟩, fun x H' y => ?_⟩
    obtain ⟨e, y⟩ := y
    subst e
    exact hs i x σ _ (y xs q) p
  · have e : i = xs.length := by omega
    subst e
    exact .inl ⟨⟨xs, q, Nat.le_refl _⟩, hd σ H p⟩
theorem for_range {lo : Int} {n : Nat} {g : TG} {tb : TS} {D : Ends} {σ : St} {H : Hp} (Pv : Nat → St → Hp → Prop) (h0 : Pv 0 σ H)
    (hs : ∀ i σ H, i < n → Pv i σ H → g (.int (lo + i)) σ H fun σ2 H2 => tb { D with nx := Pv (i + 1), ct := Pv (i + 1), bk := D.nx } σ2 H2) (hd : ∀ σ H, Pv n σ H → D.nx σ H) :
    ∃ W : Nat → Nat → St → Hp → Prop, (∃ m, W 0 m σ H) ∧ ∀ i m σ H, W i m σ H →
      ((Itr lo n).stop i H ∧ D.nx σ H) ∨ ((Itr lo n).go i H ∧ ∃ N : St → Hp → Prop, (∀ σ' H', N σ' H' → ∃ m', m' < m ∧ W (i + 1) m' σ' H') ∧ ∀ x H', (Itr lo n).yld i H x H' → g x σ H' fun σ2 H2 => tb { D with nx := N, ct := N, bk := D.nx } σ2 H2) := by
  refine ⟨fun i m σ H => m = n - i ∧ i ≤ n ∧ Pv i σ H, ⟨n, by simp, Nat.zero_le _, h0⟩, ?_⟩
  rintro i m σ H ⟨rfl, hi, p⟩
  by_cases hlt : i < n
  · refine .inr ⟨hlt, Pv (i + 1), fun σ' H' p' => ⟨n - (i + 1), by omega, rfl, hlt, p'⟩, fun x H' y => ?_⟩
    obtain ⟨e, y⟩ := y
    subst e y
    exact hs i σ _ hlt p
  · have e : i = n := by omega
    subst e
    exact .inl ⟨Nat.le_refl _, hd σ H p⟩
/-- while, by a word and a measure of the state -/
theorem while_by {c : TT} {tb : TS} {D : Ends} {σ : St} {H : Hp} (Pv : St → Hp → Prop) (μ : St → Hp → Nat) (h0 : Pv σ H)
    (hs : ∀ σ H, Pv σ H → c σ H fun b H1 => if b = true then tb { D with nx := fun σ' H' => Pv σ' H' ∧ μ σ' H' < μ σ H, ct := fun σ' H' => Pv σ' H' ∧ μ σ' H' < μ σ H, bk := D.nx } σ H1 else D.nx σ H1)
    (mono : ∀ σ H Q Q', (∀ b H1, Q b H1 → Q' b H1) → c σ H Q → c σ H Q') : tWhile c tb D σ H := by
  refine ⟨fun m σ H => m = μ σ H ∧ Pv σ H, ⟨_, rfl, h0⟩, ?_⟩
  rintro m σ H ⟨rfl, p⟩
  refine mono σ H _ _ (fun b H1 q => ?_) (hs σ H p)
  cases b with
  | true => exact ⟨_, fun σ' H' ⟨p', l⟩ => ⟨_, l, rfl, p'⟩, q⟩
  | false => exact q
end L2

namespace L2
open PySem PySem.Spec PyProof.Rows

abbrev R2 := V → V → Hp → VK → Prop
/-- a two-place operation on values: f is binaryOp op, inplaceOp op or compareOp op -/
def OpR (X : Cx) (f : Value → Value → Sem Value) (r : R2) : Prop :=
  ∀ (pins : List (Addr × Obj)) (s : Shared) (σ : St) (H : Hp) (x y : V) (v u : Value) (Q : VK), Inv X pins σ H s → RelV x v → RelV y u → r x y H Q →
    wpAny (model X.prog X.w) X.A (f v u) (EP X pins σ Q) X.xe s
/-- a one-place operation -/
def UnR (X : Cx) (f : Value → Sem Value) (r : V → Hp → VK → Prop) : Prop :=
  ∀ (pins : List (Addr × Obj)) (s : Shared) (σ : St) (H : Hp) (x : V) (v : Value) (Q : VK), Inv X pins σ H s → RelV x v → r x H Q →
    wpAny (model X.prog X.w) X.A (f v) (EP X pins σ Q) X.xe s
/-- a call of a value that is known (a builtin, a type) with values -/
def CallR (X : Cx) (f : Value) (r : List V → Hp → VK → Prop) : Prop :=
  ∀ (pins : List (Addr × Obj)) (s : Shared) (σ : St) (H : Hp) (xs : List V) (us : List Value) (Q : VK), Inv X pins σ H s → Vals xs us → r xs H Q →
    wpAny (model X.prog X.w) X.A (call f us) (EP X pins σ Q) X.xe s
/-- a value's truth -/
def TruR (X : Cx) (r : V → Hp → (Bool → Hp → Prop) → Prop) : Prop :=
  ∀ (pins : List (Addr × Obj)) (s : Shared) (σ : St) (H : Hp) (x : V) (v : Value) (Q : Bool → Hp → Prop), Inv X pins σ H s → RelV x v → r x H Q →
    wpAny (model X.prog X.w) X.A (truthy v) (TP X pins σ Q) X.xe s

def tOp (r : R2) (ta tb : TE) : TE := fun σ H Q => ta σ H fun x H1 => tb σ H1 fun y H2 => r x y H2 Q
def tUn (r : V → Hp → VK → Prop) (ta : TE) : TE := fun σ H Q => ta σ H fun x H1 => r x H1 Q
/-- ints in, under C, and a value out -/
def rI (C : Int → Int → Prop) (g : Int → Int → V) : R2 := fun x y H Q => ∃ i j, x = .int i ∧ y = .int j ∧ C i j ∧ Q (g i j) H
def rI0 (g : Int → Int → V) : R2 := fun x y H Q => ∃ i j, x = .int i ∧ y = .int j ∧ Q (g i j) H
def rU (g : Int → V) : V → Hp → VK → Prop := fun x H Q => ∃ i, x = .int i ∧ Q (g i) H

section
variable {X : Cx} {a b c : Expr} {ta tb tc : TE} {pos : Pos}

theorem binT (ha : PE X a ta) (hb : PE X b tb) {pins : List (Addr × Obj)} {s : Shared} {σ : St} {H : Hp} {R : V → V → Hp → Prop} (I : Inv X pins σ H s)
    (h : ta σ H fun x H1 => tb σ H1 fun y H2 => R x y H2) {Q : Value → Shared → Prop} {f : Value → Value → Sem Value}
    (hf : ∀ v u s2 x y H2, Inv X pins σ H2 s2 → RelV x v → RelV y u → R x y H2 → wpAny (model X.prog X.w) X.A (f v u) Q X.xe s2) :
    wpAny (model X.prog X.w) X.A (eval a X.env) (fun v s₁ => wpAny (model X.prog X.w) X.A (eval b X.env) (fun u s₂ => wpAny (model X.prog X.w) X.A (f v u) Q X.xe s₂) X.xe s₁) X.xe s := by
  refine thn (ha pins s σ H _ I h) fun v s1 ⟨x, H1, I1, r1, q1⟩ => ?_
  refine thn (hb pins s1 σ H1 _ I1 q1) fun u s2 ⟨y, H2, I2, r2, q2⟩ => ?_
  exact hf v u s2 x y H2 I2 r1 r2 q2

theorem pe_op {op : Operator} {r : R2} (ho : OpR X (binaryOp op) r) (ha : PE X a ta) (hb : PE X b tb) : PE X (.BinOp a op b pos) (tOp r ta tb) := by
  intro pins s σ H Q I h
  exact wpAny_BinOp (binT ha hb I h fun v u s2 x y H2 I2 rx ry q => ho pins s2 σ H2 x y v u Q I2 rx ry q)
theorem pe_un {op : UnaryOp} {r : V → Hp → VK → Prop} (ho : UnR X (unaryOp op) r) (ha : PE X a ta) : PE X (.UnaryOp op a pos) (tUn r ta) := by
  intro pins s σ H Q I h
  exact UnaryOp_ (thn (ha pins s σ H _ I h) fun v s1 ⟨x, H1, I1, r1, q1⟩ => ho pins s1 σ H1 x v Q I1 r1 q1)
/-- a op= e at a name: the name's slot i -/
theorem augR {op : Operator} {r : R2} (ho : OpR X (inplaceOp op) r) {pins : List (Addr × Obj)} {s : Shared} {σ : St} {H : Hp} {x y : V} {v u : Value} {Q : VK} (I : Inv X pins σ H s)
    (rx : RelV x v) (ry : RelV y u) (q : r x y H Q) : wpAny (model X.prog X.w) X.A (inplaceOp op v u) (EP X pins σ Q) X.xe s := ho pins s σ H x y v u Q I rx ry q

/-! ### ints -/
theorem opI {f : Value → Value → Sem Value} {C : Int → Int → Prop} {g : Int → Int → Int}
    (rule : ∀ (i j : Int) (t u : Tok) (s : Shared) (Q : Value → Shared → Prop) (E : Value → Shared → Prop), C i j → Q (.int (g i j) s.toks) { s with toks := s.toks + 1 } → wpAny (model X.prog X.w) X.A (f (.int i t) (.int j u)) Q E s) :
    OpR X f (rI C fun i j => .int (g i j)) := by
  intro pins s σ H x y v u Q I rx ry h
  obtain ⟨i, j, rfl, rfl, hc, q⟩ := h
  obtain ⟨t, rfl⟩ := rx
  obtain ⟨t', rfl⟩ := ry
  exact rule i j t t' s _ _ hc ⟨.int (g i j), H, I.tok _, ⟨_, rfl⟩, q⟩
theorem opI0 {f : Value → Value → Sem Value} {g : Int → Int → Int}
    (rule : ∀ (i j : Int) (t u : Tok) (s : Shared) (Q : Value → Shared → Prop) (E : Value → Shared → Prop), Q (.int (g i j) s.toks) { s with toks := s.toks + 1 } → wpAny (model X.prog X.w) X.A (f (.int i t) (.int j u)) Q E s) :
    OpR X f (rI0 fun i j => .int (g i j)) := by
  intro pins s σ H x y v u Q I rx ry h
  obtain ⟨i, j, rfl, rfl, q⟩ := h
  obtain ⟨t, rfl⟩ := rx
  obtain ⟨t', rfl⟩ := ry
  exact rule i j t t' s _ _ ⟨.int (g i j), H, I.tok _, ⟨_, rfl⟩, q⟩
theorem opB0 {f : Value → Value → Sem Value} {g : Int → Int → Bool}
    (rule : ∀ (i j : Int) (t u : Tok) (s : Shared) (Q : Value → Shared → Prop) (E : Value → Shared → Prop), Q (.bool (g i j)) s → wpAny (model X.prog X.w) X.A (f (.int i t) (.int j u)) Q E s) :
    OpR X f (rI0 fun i j => .bl (g i j)) := by
  intro pins s σ H x y v u Q I rx ry h
  obtain ⟨i, j, rfl, rfl, q⟩ := h
  obtain ⟨t, rfl⟩ := rx
  obtain ⟨t', rfl⟩ := ry
  exact rule i j t t' s _ _ ⟨.bl (g i j), H, I, rfl, q⟩

def CDiv (i j : Int) : Prop := 0 < j ∧ j < 1073741824
def CDivN (i j : Int) : Prop := j ≠ 0 ∧ j.natAbs < 1073741824
def CPow (i j : Int) : Prop := 0 ≤ j ∧ j ≤ 1000000 ∧ i.natAbs < 2 ^ 64
def CMul (i j : Int) : Prop := (-(2 ^ 64) < i ∧ i < 2 ^ 64) ∨ (-(2 ^ 64) < j ∧ j < 2 ^ 64)
theorem CMul.ok {i j : Int} (h : CMul i j) : IntMulOk i j := by
  rcases h with ⟨h1, h2⟩ | ⟨h1, h2⟩
  · exact .of_left (intBits_le_64 h1 h2)
  · exact .of_right (intBits_le_64 h1 h2)
theorem two_pow_nn (k : Nat) : (0 : Int) ≤ 2 ^ k := by
  rw [two_pow_cast]
  exact Int.natCast_nonneg _

theorem op_add : OpR X (binaryOp .Add) (rI0 fun i j => .int (i + j)) := opI0 fun _ _ _ _ _ _ _ q => add_int q
theorem op_sub : OpR X (binaryOp .Sub) (rI0 fun i j => .int (i - j)) := opI0 fun _ _ _ _ _ _ _ q => sub_int q
theorem op_mul : OpR X (binaryOp .Mult) (rI CMul fun i j => .int (i * j)) := opI fun _ _ _ _ _ _ _ hc q => mul_int q hc.ok
/-- // by a positive divisor -/
theorem op_fdiv : OpR X (binaryOp .FloorDiv) (rI CDiv fun i j => .int (i / j)) := opI fun i j _ _ _ _ _ hc q => by
  have h1 : (0 : Int) < j := hc.1
  have h2 : j < 1073741824 := hc.2
  exact floordiv_int (by omega) (by rw [Int.fdiv_eq_ediv_of_nonneg i (by omega)]; exact q) (.inl (PyProof.noPylong_small (by omega)))
theorem op_fdivN : OpR X (binaryOp .FloorDiv) (rI CDivN fun i j => .int (i.fdiv j)) := opI fun _ _ _ _ _ _ _ hc q => floordiv_int hc.1 q (.inl (PyProof.noPylong_small hc.2))
/-- % by a positive divisor of any size -/
theorem op_mod : OpR X (binaryOp .Mod) (rI (fun _ j => 0 < j) fun i j => .int (i % j)) := opI fun i j _ _ _ _ _ hc q => by
  have h1 : (0 : Int) < j := hc
  exact mod_int' (by omega) (by rw [Int.fmod_eq_emod_of_nonneg i (by omega)]; exact q)
theorem op_modN : OpR X (binaryOp .Mod) (rI (fun _ j => j ≠ 0) fun i j => .int (i.fmod j)) := opI fun _ _ _ _ _ _ _ hc q => mod_int' hc q
theorem op_pow : OpR X (binaryOp .Pow) (rI CPow fun i j => .int (i ^ j.toNat)) := opI fun _ _ _ _ _ _ _ hc q => pow_int_small hc.1 hc.2.1 hc.2.2 q
theorem op_shl : OpR X (binaryOp .LShift) (rI CPow fun i j => .int (i * 2 ^ j.toNat)) := opI fun _ _ _ _ _ _ _ hc q => lshift_int_small hc.1 hc.2.1 hc.2.2 q
theorem op_shr : OpR X (binaryOp .RShift) (rI (fun _ j => 0 ≤ j) fun i j => .int (i / 2 ^ j.toNat)) := opI fun i j _ _ _ _ _ hc q =>
  rshift_int hc (by rw [Int.fdiv_eq_ediv_of_nonneg i (two_pow_nn _)]; exact q)
theorem op_and : OpR X (binaryOp .BitAnd) (rI0 fun i j => .int (Builtin.bitAnd i j)) := opI0 fun _ _ _ _ _ _ _ q => and_int q
theorem op_or : OpR X (binaryOp .BitOr) (rI0 fun i j => .int (Builtin.bitOr i j)) := opI0 fun _ _ _ _ _ _ _ q => or_int q
theorem op_xor : OpR X (binaryOp .BitXor) (rI0 fun i j => .int (Builtin.bitXor i j)) := opI0 fun _ _ _ _ _ _ _ q => xor_int q

theorem iop_add : OpR X (inplaceOp .Add) (rI0 fun i j => .int (i + j)) := opI0 fun _ _ _ _ _ _ _ q => iadd_int q
theorem iop_sub : OpR X (inplaceOp .Sub) (rI0 fun i j => .int (i - j)) := opI0 fun _ _ _ _ _ _ _ q => isub_int q
theorem iop_mul : OpR X (inplaceOp .Mult) (rI CMul fun i j => .int (i * j)) := opI fun _ _ _ _ _ _ _ hc q => imul_int q hc.ok
theorem iop_fdiv : OpR X (inplaceOp .FloorDiv) (rI CDiv fun i j => .int (i / j)) := opI fun i j _ _ _ _ _ hc q => by
  have h1 : (0 : Int) < j := hc.1
  have h2 : j < 1073741824 := hc.2
  exact ifloordiv_int (by omega) (by rw [Int.fdiv_eq_ediv_of_nonneg i (by omega)]; exact q) (.inl (PyProof.noPylong_small (by omega)))
theorem iop_mod : OpR X (inplaceOp .Mod) (rI (fun _ j => 0 < j) fun i j => .int (i % j)) := opI fun i j _ _ _ _ _ hc q => by
  have h1 : (0 : Int) < j := hc
  exact imod_int (by omega) (by rw [Int.fmod_eq_emod_of_nonneg i (by omega)]; exact q)
theorem iop_shl : OpR X (inplaceOp .LShift) (rI CPow fun i j => .int (i * 2 ^ j.toNat)) := opI fun _ _ _ _ _ _ _ hc q => ilshift_int_small hc.1 hc.2.1 hc.2.2 q
theorem iop_shr : OpR X (inplaceOp .RShift) (rI (fun _ j => 0 ≤ j) fun i j => .int (i / 2 ^ j.toNat)) := opI fun i j _ _ _ _ _ hc q =>
  irshift_int hc (by rw [Int.fdiv_eq_ediv_of_nonneg i (two_pow_nn _)]; exact q)
theorem iop_and : OpR X (inplaceOp .BitAnd) (rI0 fun i j => .int (Builtin.bitAnd i j)) := opI0 fun _ _ _ _ _ _ _ q => iand_int q
theorem iop_or : OpR X (inplaceOp .BitOr) (rI0 fun i j => .int (Builtin.bitOr i j)) := opI0 fun _ _ _ _ _ _ _ q => ior_int q
theorem iop_xor : OpR X (inplaceOp .BitXor) (rI0 fun i j => .int (Builtin.bitXor i j)) := opI0 fun _ _ _ _ _ _ _ q => ixor_int q

theorem unI {f : Value → Sem Value} {g : Int → Int}
    (rule : ∀ (i : Int) (t : Tok) (s : Shared) (Q : Value → Shared → Prop) (E : Value → Shared → Prop), Q (.int (g i) s.toks) { s with toks := s.toks + 1 } → wpAny (model X.prog X.w) X.A (f (.int i t)) Q E s) :
    UnR X f (rU fun i => .int (g i)) := by
  intro pins s σ H x v Q I rx h
  obtain ⟨i, rfl, q⟩ := h
  obtain ⟨t, rfl⟩ := rx
  exact rule i t s _ _ ⟨.int (g i), H, I.tok _, ⟨_, rfl⟩, q⟩
theorem un_neg : UnR X (unaryOp .USub) (rU fun i => .int (-i)) := unI fun _ _ _ _ _ q => neg_int q
theorem un_inv : UnR X (unaryOp .Invert) (rU fun i => .int (Builtin.bitNot i)) := unI fun _ _ _ _ _ q => invert_int q

/-! ### bools among ints: n += (a < b) -/
theorem op_add_ib : OpR X (binaryOp .Add) (fun x y H Q => ∃ i k, x = .int i ∧ y = .bl k ∧ Q (.int (i + b2i k)) H) := by
  intro pins s σ H x y v u Q I rx ry h
  obtain ⟨i, k, rfl, rfl, q⟩ := h
  obtain ⟨t, rfl⟩ := rx
  cases ry
  exact add_int_bool ⟨.int (i + b2i k), H, I.tok _, ⟨_, rfl⟩, q⟩
end

/-! ### comparisons -/
/-- the scalars that == tells apart as data does -/
def scal : V → V → Bool
  | .non, .non => true | .non, .int _ => true | .int _, .non => true | .non, .bl _ => true | .bl _, .non => true | .non, .str _ => true | .str _, .non => true
  | .int _, .int _ => true | .bl _, .bl _ => true | .str _, .str _ => true | .byt _, .byt _ => true
  | .int _, .str _ => true | .str _, .int _ => true | .bl _, .str _ => true | .str _, .bl _ => true
  | _, _ => false
def rEq : R2 := fun x y H Q => scal x y = true ∧ Q (.bl (decide (x = y))) H
def rNe : R2 := fun x y H Q => scal x y = true ∧ Q (.bl (!decide (x = y))) H

theorem dec_int {i j : Int} : decide (V.int i = V.int j) = (i == j) := by
  rw [Bool.eq_iff_iff]
  simp
theorem dec_bl {i j : Bool} : decide (V.bl i = V.bl j) = (i == j) := by
  rw [Bool.eq_iff_iff]
  simp
theorem dec_str {i j : Str} : decide (V.str i = V.str j) = (i == j) := by
  rw [Bool.eq_iff_iff]
  simp
theorem dec_byt {i j : Array UInt8} : decide (V.byt i = V.byt j) = (i.toList == j.toList) := by
  rw [Bool.eq_iff_iff]
  cases i
  cases j
  simp

section
variable {X : Cx} {a b c : Expr} {ta tb tc : TE} {pos : Pos}
theorem fin_bl {pins : List (Addr × Obj)} {σ : St} {H : Hp} {s : Shared} {Q : VK} {k k' : Bool} (I : Inv X pins σ H s) (q : Q (.bl k) H) (e : k = k') : EP X pins σ Q (.bool k') s := by
  subst e
  exact ⟨.bl k, H, I, rfl, q⟩
theorem op_eq : OpR X (compareOp .Eq) rEq := by
  intro pins s σ H x y v u Q I rx ry h
  obtain ⟨hs, q⟩ := h
  cases x with
  | non =>
    cases rx
    cases y with
    | non => cases ry; exact PySem.EqNone.eq_none_none (fin_bl I q (by simp))
    | bl j => cases ry; exact PySem.EqNone.eq_none_bool (fin_bl I q (by simp))
    | int j => obtain ⟨t', rfl⟩ := ry; exact PySem.EqNone.eq_none_int (fin_bl I q (by simp))
    | str j => obtain ⟨t', rfl⟩ := ry; exact PySem.EqNone.eq_none_str (fin_bl I q (by simp))
    | _ => exact absurd (show false = true from hs) Bool.false_ne_true
  | bl i =>
    cases rx
    cases y with
    | non => cases ry; exact PySem.EqNone.eq_bool_none (fin_bl I q (by simp))
    | bl j => cases ry; exact eq_bool (fin_bl I q dec_bl)
    | str j => obtain ⟨t', rfl⟩ := ry; exact PySem.EqMixed.eq_bool_str (fin_bl I q (by simp))
    | _ => exact absurd (show false = true from hs) Bool.false_ne_true
  | int i =>
    obtain ⟨t, rfl⟩ := rx
    cases y with
    | non => cases ry; exact PySem.EqNone.eq_int_none (fin_bl I q (by simp))
    | int j => obtain ⟨t', rfl⟩ := ry; exact eq_int (fin_bl I q dec_int)
    | str j => obtain ⟨t', rfl⟩ := ry; exact PySem.EqMixed.eq_int_str (fin_bl I q (by simp))
    | _ => exact absurd (show false = true from hs) Bool.false_ne_true
  | str i =>
    obtain ⟨t, rfl⟩ := rx
    cases y with
    | non => cases ry; exact PySem.EqNone.eq_str_none (fin_bl I q (by simp))
    | bl j => cases ry; exact PySem.EqMixed.eq_str_bool (fin_bl I q (by simp))
    | int j => obtain ⟨t', rfl⟩ := ry; exact PySem.EqMixed.eq_str_int (fin_bl I q (by simp))
    | str j => obtain ⟨t', rfl⟩ := ry; exact eq_str (fin_bl I q dec_str)
    | _ => exact absurd (show false = true from hs) Bool.false_ne_true
  | byt i =>
    obtain ⟨t, rfl⟩ := rx
    cases y with
    | byt j => obtain ⟨t', rfl⟩ := ry; exact PySem.W.eq_bytes (fin_bl I q dec_byt)
    | _ => exact absurd (show false = true from hs) Bool.false_ne_true
  | _ => cases y <;> exact absurd (show false = true from hs) Bool.false_ne_true
theorem op_ne : OpR X (compareOp .NotEq) rNe := by
  intro pins s σ H x y v u Q I rx ry h
  obtain ⟨hs, q⟩ := h
  cases x with
  | non =>
    cases rx
    cases y with
    | non => cases ry; exact PySem.EqNone.ne_none_none (fin_bl I q (by simp))
    | bl j => cases ry; exact PySem.EqNone.ne_none_bool (fin_bl I q (by simp))
    | int j => obtain ⟨t', rfl⟩ := ry; exact PySem.EqNone.ne_none_int (fin_bl I q (by simp))
    | str j => obtain ⟨t', rfl⟩ := ry; exact PySem.EqNone.ne_none_str (fin_bl I q (by simp))
    | _ => exact absurd (show false = true from hs) Bool.false_ne_true
  | bl i =>
    cases rx
    cases y with
    | non => cases ry; exact PySem.EqNone.ne_bool_none (fin_bl I q (by simp))
    | bl j => cases ry; exact ne_bool (fin_bl I q (congrArg not dec_bl))
    | str j => obtain ⟨t', rfl⟩ := ry; exact PySem.EqMixed.ne_bool_str (fin_bl I q (by simp))
    | _ => exact absurd (show false = true from hs) Bool.false_ne_true
  | int i =>
    obtain ⟨t, rfl⟩ := rx
    cases y with
    | non => cases ry; exact PySem.EqNone.ne_int_none (fin_bl I q (by simp))
    | int j => obtain ⟨t', rfl⟩ := ry; exact ne_int (fin_bl I q (congrArg not dec_int))
    | str j => obtain ⟨t', rfl⟩ := ry; exact PySem.EqMixed.ne_int_str (fin_bl I q (by simp))
    | _ => exact absurd (show false = true from hs) Bool.false_ne_true
  | str i =>
    obtain ⟨t, rfl⟩ := rx
    cases y with
    | non => cases ry; exact PySem.EqNone.ne_str_none (fin_bl I q (by simp))
    | bl j => cases ry; exact PySem.EqMixed.ne_str_bool (fin_bl I q (by simp))
    | int j => obtain ⟨t', rfl⟩ := ry; exact PySem.EqMixed.ne_str_int (fin_bl I q (by simp))
    | str j => obtain ⟨t', rfl⟩ := ry; exact ne_str (fin_bl I q (congrArg not dec_str))
    | _ => exact absurd (show false = true from hs) Bool.false_ne_true
  | byt i =>
    obtain ⟨t, rfl⟩ := rx
    cases y with
    | byt j => obtain ⟨t', rfl⟩ := ry; exact PySem.W.ne_bytes (fin_bl I q (congrArg not dec_byt))
    | _ => exact absurd (show false = true from hs) Bool.false_ne_true
  | _ => cases y <;> exact absurd (show false = true from hs) Bool.false_ne_true

theorem op_lt : OpR X (compareOp .Lt) (rI0 fun i j => .bl (decide (i < j))) := opB0 fun _ _ _ _ _ _ _ q => lt_int q
theorem op_le : OpR X (compareOp .LtE) (rI0 fun i j => .bl (decide (i ≤ j))) := opB0 fun _ _ _ _ _ _ _ q => le_int q
theorem op_gt : OpR X (compareOp .Gt) (rI0 fun i j => .bl (decide (j < i))) := opB0 fun _ _ _ _ _ _ _ q => gt_int q
theorem op_ge : OpR X (compareOp .GtE) (rI0 fun i j => .bl (decide (j ≤ i))) := opB0 fun _ _ _ _ _ _ _ q => ge_int q
theorem op_lt_str : OpR X (compareOp .Lt) (fun x y H Q => ∃ i j, x = .str i ∧ y = .str j ∧ Q (.bl (decide (i.cps.toList < j.cps.toList))) H) := by
  intro pins s σ H x y v u Q I rx ry h
  obtain ⟨i, j, rfl, rfl, q⟩ := h
  obtain ⟨t, rfl⟩ := rx
  obtain ⟨t', rfl⟩ := ry
  exact lt_str (fin_bl I q rfl)
/-- the one string within the other -/
theorem op_in_str : OpR X (compareOp .In) (fun x y H Q => ∃ i j, x = .str i ∧ y = .str j ∧ Q (.bl (!(Builtin.Str.occurrences j i 0 j.length 1).isEmpty)) H) := by
  intro pins s σ H x y v u Q I rx ry h
  obtain ⟨i, j, rfl, rfl, q⟩ := h
  obtain ⟨t, rfl⟩ := rx
  obtain ⟨t', rfl⟩ := ry
  exact in_str (fin_bl I q rfl)

/-- is None, is not None: the right side a value none -/
theorem op_isN : OpR X (compareOp .Is) (fun x y H Q => y = .non ∧ Q (.bl (decide (x = .non))) H) := by
  intro pins s σ H x y v u Q I rx ry h
  obtain ⟨rfl, q⟩ := h
  cases ry
  refine is_none_gen (fin_bl I q ?_)
  cases x <;> first
    | (cases rx; rfl)
    | (obtain ⟨t, rfl⟩ := rx; rfl)
theorem op_notN : OpR X (compareOp .IsNot) (fun x y H Q => y = .non ∧ Q (.bl (!decide (x = .non))) H) := by
  intro pins s σ H x y v u Q I rx ry h
  obtain ⟨rfl, q⟩ := h
  cases ry
  refine isnot_none_gen (fin_bl I q ?_)
  cases x <;> first
    | (cases rx; rfl)
    | (obtain ⟨t, rfl⟩ := rx; rfl)

theorem op_notin_str : OpR X (compareOp .NotIn) (fun x y H Q => ∃ i j, x = .str i ∧ y = .str j ∧ Q (.bl (!(!(Builtin.Str.occurrences j i 0 j.length 1).isEmpty))) H) := by
  intro pins s σ H x y v u Q I rx ry h
  obtain ⟨i, j, rfl, rfl, q⟩ := h
  obtain ⟨t, rfl⟩ := rx
  obtain ⟨t', rfl⟩ := ry
  exact notIn_str (fin_bl I q rfl)
/-- is, is not of two objects that are tracked lists or instances -/
def isObj : HO → Bool
  | .lst _ => true
  | .ins _ _ _ => true
  | _ => false
theorem obj_there {pins : List (Addr × Obj)} {s : Shared} {σ : St} {H : Hp} {a : Addr} {o : HO} (I : Inv X pins σ H s) (h : H a = some o) (p : isObj o = true) : ∃ ob, s.heap.get? a = some ob ∧ ob.cls ≠ .type "tuple" := by
  cases o with
  | lst xs =>
    obtain ⟨_, its, n, _, e⟩ : xs.length ≤ sizeLine ∧ ∃ (its : List Value) (n : Nat), Vals xs its ∧ s.heap.get? a = some { cls := .type "list", data := .seq its.toArray n } := I.hok a _ h
    exact ⟨_, e, (by show Value.type "list" ≠ .type "tuple"; decide +kernel)⟩
  | ins C dx fs =>
    have x := I.hok a _ h
    obtain ⟨_, _, _, e, _⟩ := x
    exact ⟨_, e, (by show Value.ref C ≠ .type "tuple"; exact fun z => by cases z)⟩
  | _ => exact absurd (show false = true from p) Bool.false_ne_true
theorem op_is_ref : OpR X (compareOp .Is) (fun x y H Q => ∃ a b oa ob, x = .ref a ∧ y = .ref b ∧ H a = some oa ∧ isObj oa = true ∧ H b = some ob ∧ isObj ob = true ∧ Q (.bl (decide (a = b))) H) := by
  intro pins s σ H x y v u Q I rx ry h
  obtain ⟨a, b, oa, ob, rfl, rfl, ha, pa, hb, pb, q⟩ := h
  cases rx
  cases ry
  obtain ⟨o1, e1, n1⟩ := obj_there I ha pa
  obtain ⟨o2, e2, _⟩ := obj_there I hb pb
  by_cases z : a = b
  · subst z
    exact wpAny_is_ref_self (fin_bl I q (by simp))
  · exact wpAny_is_ref_other z e1 e2 n1 (fin_bl I q (by simp [z]))
theorem op_isnot_ref : OpR X (compareOp .IsNot) (fun x y H Q => ∃ a b oa ob, x = .ref a ∧ y = .ref b ∧ H a = some oa ∧ isObj oa = true ∧ H b = some ob ∧ isObj ob = true ∧ Q (.bl (!decide (a = b))) H) := by
  intro pins s σ H x y v u Q I rx ry h
  obtain ⟨a, b, oa, ob, rfl, rfl, ha, pa, hb, pb, q⟩ := h
  cases rx
  cases ry
  obtain ⟨o1, e1, n1⟩ := obj_there I ha pa
  obtain ⟨o2, e2, _⟩ := obj_there I hb pb
  by_cases z : a = b
  · subst z
    exact wpAny_isNot_ref_self (fin_bl I q (by simp))
  · exact wpAny_isNot_ref_other z e1 e2 n1 (fin_bl I q (by simp [z]))

/-- two rules for one operation: by cases -/
theorem OpR.or {f : Value → Value → Sem Value} {r r' : R2} (h : OpR X f r) (h' : OpR X f r') : OpR X f (fun x y H Q => r x y H Q ∨ r' x y H Q) := by
  intro pins s σ H x y v u Q I rx ry q
  rcases q with q | q
  · exact h pins s σ H x y v u Q I rx ry q
  · exact h' pins s σ H x y v u Q I rx ry q

theorem nomark (b : Expr) {op : CmpOp} (h : op ≠ .In := by decide) (h2 : op ≠ .NotIn := by decide) : behindInMarks op b = false := by
  have e1 : (op == CmpOp.In) = false := by cases op <;> first | rfl | exact absurd rfl h
  have e2 : (op == CmpOp.NotIn) = false := by cases op <;> first | rfl | exact absurd rfl h2
  cases b <;> simp [behindInMarks, e1, e2]
/-- a comparison as a value; hm: nomark b, or (for in, not in) by with_unfolding_all rfl -/
theorem pe_cmpR {op : CmpOp} {r : R2} (ho : OpR X (compareOp op) r) (ha : PE X a ta) (hb : PE X b tb) (hm : behindInMarks op b = false) : PE X (.Compare a [op] [b] pos) (tOp r ta tb) := by
  intro pins s σ H Q I h
  exact wpAny_Compare1 (binT ha hb I h fun v u s2 x y H2 I2 rx ry q => ho pins s2 σ H2 x y v u Q I2 rx ry q) hm
/-- a reading of a value as a test -/
def tTest (t : TE) : TT := fun σ H Q => t σ H fun x H' => ∃ k, x = .bl k ∧ Q k H'
theorem pt_cmpR {op : CmpOp} {r : R2} (ho : OpR X (compareOp op) r) (ha : PE X a ta) (hb : PE X b tb) (hm : behindInMarks op b = false) : PT X (.Compare a [op] [b] pos) (tTest (tOp r ta tb)) := by
  intro pins s σ H Q I h
  refine wpAny_isTrue_Compare1 (thn (ha pins s σ H _ I h) fun v s1 ⟨x, H1, I1, r1, q1⟩ => thn (hb pins s1 σ H1 _ I1 q1) fun u s2 ⟨y, H2, I2, r2, q2⟩ =>
    thn (ho pins s2 σ H2 x y v u _ I2 r1 r2 q2) fun c s3 ⟨z, H3, I3, r3, k, e, q3⟩ => ?_) hm
  subst e
  cases r3
  exact wpAny_truthy_bool ⟨H3, I3, q3⟩
/-- a op1 b op2 c -/
def tChain (r r' : R2) (ta tb tc : TE) : TE := fun σ H Q => ta σ H fun x H1 => tb σ H1 fun y H2 => r x y H2 fun z H3 => ∃ k, z = .bl k ∧
  (if k = true then tc σ H3 fun w' H4 => r' y w' H4 Q else Q (.bl false) H3)
theorem pe_chain {op op' : CmpOp} {r r' : R2} (ho : OpR X (compareOp op) r) (ho' : OpR X (compareOp op') r') (ha : PE X a ta) (hb : PE X b tb) (hc : PE X c tc)
    (hm : lastMarks [op, op'] [b, c] = false := by with_unfolding_all rfl) : PE X (.Compare a [op, op'] [b, c] pos) (tChain r r' ta tb tc) := by
  intro pins s σ H Q I h
  refine Compare_chain (thn (ha pins s σ H _ I h) fun v s1 ⟨x, H1, I1, r1, q1⟩ => chain_link (thn (hb pins s1 σ H1 _ I1 q1) fun u s2 ⟨y, H2, I2, r2, q2⟩ =>
    thn (ho pins s2 σ H2 x y v u _ I2 r1 r2 q2) fun d s3 ⟨z, H3, I3, r3, k, e, q3⟩ => ?_)) hm
  subst e
  cases r3
  refine wpAny_truthy_bool ?_
  cases k with
  | false => exact ite_ff ⟨.bl false, H3, I3, rfl, q3⟩
  | true => exact ite_tt (chain_last (thn (hc pins s3 σ H3 _ I3 q3) fun w' s4 ⟨z', H4, I4, r4, q4⟩ => ho' pins s4 σ H4 y z' u w' Q I4 r2 r4 q4))
theorem pt_chain {op op' : CmpOp} {r r' : R2} (ho : OpR X (compareOp op) r) (ho' : OpR X (compareOp op') r') (ha : PE X a ta) (hb : PE X b tb) (hc : PE X c tc)
    (hm : lastMarks [op, op'] [b, c] = false := by with_unfolding_all rfl) : PT X (.Compare a [op, op'] [b, c] pos) (tTest (tChain r r' ta tb tc)) := by
  intro pins s σ H Q I h
  refine isTrue_chain (thn (ha pins s σ H _ I h) fun v s1 ⟨x, H1, I1, r1, q1⟩ => test_link (thn (hb pins s1 σ H1 _ I1 q1) fun u s2 ⟨y, H2, I2, r2, q2⟩ =>
    thn (ho pins s2 σ H2 x y v u _ I2 r1 r2 q2) fun d s3 ⟨z, H3, I3, r3, k, e, q3⟩ => ?_)) hm
  subst e
  cases r3
  refine wpAny_truthy_bool ?_
  cases k with
  | false =>
    obtain ⟨k', e', q'⟩ := q3
    cases e'
    exact ite_ff ⟨H3, I3, q'⟩
  | true =>
    refine ite_tt (test_last (thn (hc pins s3 σ H3 _ I3 q3) fun w' s4 ⟨z', H4, I4, r4, q4⟩ => thn (ho' pins s4 σ H4 y z' u w' _ I4 r2 r4 q4) fun d' s5 ⟨z2, H5, I5, r5, k2, e2, q5⟩ => ?_))
    subst e2
    cases r5
    exact wpAny_truthy_bool ⟨H5, I5, q5⟩

/-! ### truth -/
/-- a value's truth by the abstract heap -/
def TruV (K : PySem.W.Frag) (x : V) (H : Hp) (k : Bool) : Prop :=
  match x with
  | .non => k = false
  | .bl b => k = b
  | .int i => k = (i != 0)
  | .str y => y.length ≤ sizeLine ∧ k = ((y.length : Int) != 0)
  | .byt y => y.size ≤ sizeLine ∧ k = ((y.size : Int) != 0)
  | .ref p => (∃ xs, SqL K H p xs ∧ k = !xs.isEmpty) ∨ (∃ xs, SqT K H p xs ∧ k = !xs.isEmpty) ∨ ∃ kvs, H p = some (.dK kvs) ∧ k = !kvs.isEmpty
  | _ => False
theorem isEmpty_kv {κ : Type} {kvs : List (κ × V)} {vs : List (κ × Value)} (r : KV kvs vs) : (!vs.isEmpty) = !kvs.isEmpty := by
  cases r <;> rfl
theorem isEmpty_of {xs : List V} {its : List Value} (r : Vals xs its) : (!its.toArray.isEmpty) = !xs.isEmpty := by
  cases r <;> simp
theorem line63 : (sizeLine : Nat) < 2 ^ 63 := by rw [sizeLine_eq]; decide
theorem tru_ok : TruR X (fun x H Q => ∃ k, TruV X.K x H k ∧ Q k H) := by
  intro pins s σ H x v Q I rx h
  obtain ⟨k, e, q⟩ := h
  have hl := line63
  have hs : sizeLine = 16777216 := sizeLine_eq
  cases x with
  | non =>
    cases rx
    have e' : k = false := e
    subst e'
    exact truthy_none ⟨H, I, q⟩
  | bl b =>
    cases rx
    have e' : k = b := e
    subst e'
    exact wpAny_truthy_bool ⟨H, I, q⟩
  | int i =>
    obtain ⟨t, rfl⟩ := rx
    have e' : k = (i != 0) := e
    subst e'
    exact PySem.P.truthy_int ⟨H, I, q⟩
  | str y =>
    obtain ⟨t, rfl⟩ := rx
    obtain ⟨hy, e'⟩ : y.length ≤ sizeLine ∧ k = ((y.length : Int) != 0) := e
    subst e'
    exact PySem.P.truthy_str (by omega) ⟨H, I.tok _, q⟩
  | byt y =>
    obtain ⟨t, rfl⟩ := rx
    obtain ⟨hy, e'⟩ : y.size ≤ sizeLine ∧ k = ((y.size : Int) != 0) := e
    subst e'
    exact PySem.W.truthy_bytes (by omega) ⟨H, I.tok _, q⟩
  | ref p =>
    cases rx
    have e' : (∃ xs, SqL X.K H p xs ∧ k = !xs.isEmpty) ∨ (∃ xs, SqT X.K H p xs ∧ k = !xs.isEmpty) ∨ ∃ kvs, H p = some (.dK kvs) ∧ k = !kvs.isEmpty := e
    rcases e' with ⟨xs, hx, e'⟩ | ⟨xs, hx, e'⟩ | ⟨kvs, hx, e'⟩
    · subst e'
      obtain ⟨its, r, pl, hz⟩ := I.list hx
      have hlen := r.length
      exact wpAny_truthy_list pl.isList (by simp only [List.size_toArray]; omega) ⟨H, I.tok _, by rw [isEmpty_of r]; exact q⟩
    · subst e'
      obtain ⟨its, r, pl, hz⟩ := I.tuple hx
      have hlen := r.length
      exact truthy_tuple pl (by simp only [List.size_toArray]; omega) ⟨H, I.tok _, by rw [isEmpty_of r]; exact q⟩
    · subst e'
      obtain ⟨hz, hS, vs, r, m⟩ : kvs.length ≤ sizeLine ∧ (p == sysModules) = false ∧ ∃ vs, KV kvs vs ∧ s.heap.DictOf (mixKind X.prog X.w) p vs := I.hok p _ hx
      have hlen : kvs.length = vs.length := Paired.length r
      exact wpAny_truthy_dict hS m (by omega) ⟨H, I.tok _, by rw [isEmpty_kv r]; exact q⟩
  | _ => exact (show False from e).elim
/-- any expression whose test is its value's truth (a name, a call, a subscript, a field ..: he by fun _ => rfl) -/
theorem pt_truth (ha : PE X a ta) (he : ∀ whole, isTrue a X.env whole = (do let v ← whole; standAt a.pos; holding [v] (truthy v))) :
    PT X a (fun σ H Q => ta σ H fun x H' => ∃ k, TruV X.K x H' k ∧ Q k H') := by
  intro pins s σ H Q I h
  exact isTrue_plain (thn (ha pins s σ H _ I h) fun v s1 ⟨x, H1, I1, r1, q1⟩ => tru_ok pins s1 σ H1 x v Q I1 r1 q1) (he _)

/-! ### strs and bytes -/
theorem pe_byt {x : List UInt8} {k : Nat} : PE X (.Constant (.bytes x) k pos) (fun _ H Q => Q (.byt x.toArray) H) := fun _ _ _ H _ I h => PySem.W.Constant_bytes ⟨.byt x.toArray, H, I.tok _, ⟨_, rfl⟩, h⟩
theorem op_add_str : OpR X (binaryOp .Add) (fun x y H Q => ∃ i j, x = .str i ∧ y = .str j ∧ i.length + j.length ≤ sizeLine ∧ Q (.str (i ++ j)) H) := by
  intro pins s σ H x y v u Q I rx ry h
  obtain ⟨i, j, rfl, rfl, hz, q⟩ := h
  obtain ⟨t, rfl⟩ := rx
  obtain ⟨t', rfl⟩ := ry
  exact add_str (fun t' tk => ⟨.str (i ++ j), H, I.tok _, ⟨_, rfl⟩, q⟩) hz
theorem iop_add_str : OpR X (inplaceOp .Add) (fun x y H Q => ∃ i j, x = .str i ∧ y = .str j ∧ i.length + j.length ≤ sizeLine ∧ Q (.str (i ++ j)) H) := by
  intro pins s σ H x y v u Q I rx ry h
  obtain ⟨i, j, rfl, rfl, hz, q⟩ := h
  obtain ⟨t, rfl⟩ := rx
  obtain ⟨t', rfl⟩ := ry
  exact iadd_str (fun t' tk => ⟨.str (i ++ j), H, I.tok _, ⟨_, rfl⟩, q⟩) hz
theorem op_add_byt : OpR X (binaryOp .Add) (fun x y H Q => ∃ i j, x = .byt i ∧ y = .byt j ∧ i.size + j.size ≤ 16777216 ∧ Q (.byt (i ++ j)) H) := by
  intro pins s σ H x y v u Q I rx ry h
  obtain ⟨i, j, rfl, rfl, hz, q⟩ := h
  obtain ⟨t, rfl⟩ := rx
  obtain ⟨t', rfl⟩ := ry
  exact PySem.W.KBy.add_bytes hz (fun t' tk => ⟨.byt (i ++ j), H, I.tok _, ⟨_, rfl⟩, q⟩)

def PlainIxT (b : Expr) : Prop := ∀ o i, subscripted b false o i = operate [o, i] (getItem o i)
/-- s[i], 0 ≤ i < len -/
theorem pe_item_str (ha : PE X a ta) (hb : PE X b tb) (hs : PlainIxT b) :
    PE X (.Subscript a b pos) (tOp (fun x y H Q => ∃ z i c, x = .str z ∧ y = .int i ∧ 0 ≤ i ∧ i < 2 ^ 63 ∧ i < z.length ∧ z.cps[i.toNat]? = some c ∧ Q (.str ⟨#[c]⟩) H) ta tb) := by
  intro pins s σ H Q I h
  refine Subscript_ (binT ha hb I h fun v u s2 x y H2 I2 rx ry q => ?_)
  obtain ⟨z, i, c, rfl, rfl, h0, h63, h1, hc, q⟩ := q
  obtain ⟨t, rfl⟩ := rx
  obtain ⟨t', rfl⟩ := ry
  have e : seqIndex? i z.length = some i.toNat := PySem.StrLaws.seqIndex_nonneg h0 h1
  exact tail_any (typeIs_str s2 z t) slot_str_getitem.lookup (getItem_str (c := c) (by
    have e1 : decide (i < -(2 ^ 63 : Int)) = false := decide_eq_false (by omega)
    have e2 : decide (i ≥ 2 ^ 63) = false := decide_eq_false (by omega)
    rw [e1, e2] <;> rfl) (by rw [e]; exact hc) ⟨.str ⟨#[c]⟩, H2, I2.tok _, ⟨_, rfl⟩, q⟩) (hs _ _)
/-- b[i], 0 ≤ i < len -/
theorem pe_item_byt (ha : PE X a ta) (hb : PE X b tb) (hs : PlainIxT b) :
    PE X (.Subscript a b pos) (tOp (fun x y H Q => ∃ (z : List UInt8) (i : Int), x = .byt z.toArray ∧ y = .int i ∧ z.length ≤ sizeLine ∧ 0 ≤ i ∧ i < z.length ∧ Q (.int ((z.getD i.toNat 0).toNat : Nat)) H) ta tb) := by
  intro pins s σ H Q I h
  refine Subscript_ (binT ha hb I h fun v u s2 x y H2 I2 rx ry q => ?_)
  obtain ⟨z, i, rfl, rfl, hz, h0, h1, q⟩ := q
  obtain ⟨t, rfl⟩ := rx
  obtain ⟨t', rfl⟩ := ry
  have hl : sizeLine = 16777216 := sizeLine_eq
  exact tail_any (PySem.W.typeIs_bytes s2 z.toArray t) PySem.W.FB.slot_bytes_getitem.lookup (PySem.W.getItem_bytes (by omega) h0 h1 ⟨.int ((z.getD i.toNat 0).toNat : Nat), H2, I2.tok _, ⟨_, rfl⟩, q⟩) (hs _ _)

/-! ### scalar builtins, by CallR -/
theorem vals1 {x : V} {us : List Value} (r : Vals [x] us) : ∃ u, us = [u] ∧ RelV x u := by
  cases r with
  | cons r1 r2 => cases r2; exact ⟨_, rfl, r1⟩
theorem vals2 {x y : V} {us : List Value} (r : Vals [x, y] us) : ∃ u w', us = [u, w'] ∧ RelV x u ∧ RelV y w' := by
  cases r with
  | cons r1 r2 =>
    cases r2 with
    | cons r3 r4 => cases r4; exact ⟨_, _, rfl, r1, r3⟩
theorem call_abs : CallR X (.builtin "abs") (fun xs H Q => ∃ i, xs = [.int i] ∧ Q (.int (if i < 0 then -i else i)) H) := by
  intro pins s σ H xs us Q I r h
  obtain ⟨i, rfl, q⟩ := h
  obtain ⟨u, rfl, t, rfl⟩ := vals1 r
  exact call_abs_int fun u tk => ⟨.int (if i < 0 then -i else i), H, I.tok _, ⟨_, rfl⟩, q⟩
theorem call_max2 (hc : X.calm = true) : CallR X (.builtin "max") (fun xs H Q => ∃ i j, xs = [.int i, .int j] ∧ Q (.int (if j > i then j else i)) H) := by
  intro pins s σ H xs us Q I r h
  obtain ⟨i, j, rfl, q⟩ := h
  obtain ⟨u, w', rfl, ⟨t, rfl⟩, ⟨t', rfl⟩⟩ := vals2 r
  refine max_two_ints (I.ok.hd hc) fun h' tk k => ⟨_, H, I.kept k, ?_, q⟩
  by_cases hj : j > i
  · rw [if_pos hj, if_pos hj]; exact ⟨_, rfl⟩
  · rw [if_neg hj, if_neg hj]; exact ⟨_, rfl⟩
theorem call_min2 (hc : X.calm = true) : CallR X (.builtin "min") (fun xs H Q => ∃ i j, xs = [.int i, .int j] ∧ Q (.int (if j < i then j else i)) H) := by
  intro pins s σ H xs us Q I r h
  obtain ⟨i, j, rfl, q⟩ := h
  obtain ⟨u, w', rfl, ⟨t, rfl⟩, ⟨t', rfl⟩⟩ := vals2 r
  refine min_two_ints (I.ok.hd hc) fun h' tk k => ⟨_, H, I.kept k, ?_, q⟩
  by_cases hj : j < i
  · rw [if_pos hj, if_pos hj]; exact ⟨_, rfl⟩
  · rw [if_neg hj, if_neg hj]; exact ⟨_, rfl⟩
theorem call_int1 : CallR X (.type "int") (fun xs H Q => (∃ i, xs = [.int i] ∧ Q (.int i) H) ∨ ∃ k, xs = [.bl k] ∧ Q (.int (if k then 1 else 0)) H) := by
  intro pins s σ H xs us Q I r h
  rcases h with ⟨i, rfl, q⟩ | ⟨k, rfl, q⟩
  · obtain ⟨u, rfl, t, rfl⟩ := vals1 r
    exact call_int_int ⟨.int i, H, I, ⟨_, rfl⟩, q⟩
  · obtain ⟨u, rfl, r1⟩ := vals1 r
    cases r1
    exact call_int_bool ⟨.int (if k then 1 else 0), H, I.tok _, ⟨_, rfl⟩, q⟩
theorem call_bool1 : CallR X (.type "bool") (fun xs H Q => (∃ i, xs = [.int i] ∧ Q (.bl (i != 0)) H) ∨ ∃ k, xs = [.bl k] ∧ Q (.bl k) H) := by
  intro pins s σ H xs us Q I r h
  rcases h with ⟨i, rfl, q⟩ | ⟨k, rfl, q⟩
  · obtain ⟨u, rfl, t, rfl⟩ := vals1 r
    exact call_bool_int ⟨.bl (i != 0), H, I, rfl, q⟩
  · obtain ⟨u, rfl, r1⟩ := vals1 r
    cases r1
    exact call_bool_bool ⟨.bl k, H, I, rfl, q⟩
theorem call_str_int : CallR X (.type "str") (fun xs H Q => ∃ i, xs = [.int i] ∧ i.natAbs.log2 < 1920 ∧ Q (.str (toString i)) H) := by
  intro pins s σ H xs us Q I r h
  obtain ⟨i, rfl, hz, q⟩ := h
  obtain ⟨u, rfl, t, rfl⟩ := vals1 r
  exact PySem.P.str_of_int hz ⟨.str _, H, I.tok _, ⟨_, rfl⟩, q⟩
theorem call_ord : CallR X (.builtin "ord") (fun xs H Q => ∃ x, xs = [.str x] ∧ x.length = 1 ∧ Q (.int (x.cps.getD 0 0 : Nat)) H) := by
  intro pins s σ H xs us Q I r h
  obtain ⟨x, rfl, hz, q⟩ := h
  obtain ⟨u, rfl, t, rfl⟩ := vals1 r
  exact ord_of_one hz ⟨.int _, H, I.tok _, ⟨_, rfl⟩, q⟩
theorem call_chr : CallR X (.builtin "chr") (fun xs H Q => ∃ i, xs = [.int i] ∧ 0 ≤ i ∧ i ≤ 1114111 ∧ Q (.str ⟨#[i.toNat]⟩) H) := by
  intro pins s σ H xs us Q I r h
  obtain ⟨i, rfl, h0, h1, q⟩ := h
  obtain ⟨u, rfl, t, rfl⟩ := vals1 r
  exact chr_of_range h0 h1 ⟨.str _, H, I.tok _, ⟨_, rfl⟩, q⟩
/-- len of a str, a bytes, a list, a tuple -/
def LenV (K : PySem.W.Frag) (x : V) (H : Hp) (n : Nat) : Prop :=
  match x with
  | .str y => y.length ≤ sizeLine ∧ n = y.length
  | .byt y => y.size ≤ sizeLine ∧ n = y.size
  | .ref p => (∃ xs, SqL K H p xs ∧ n = xs.length) ∨ ∃ xs, SqT K H p xs ∧ n = xs.length
  | _ => False
theorem call_len : CallR X (.builtin "len") (fun xs H Q => ∃ x n, xs = [x] ∧ LenV X.K x H n ∧ Q (.int n) H) := by
  intro pins s σ H xs us Q I r h
  obtain ⟨x, n, rfl, e, q⟩ := h
  obtain ⟨u, rfl, rx⟩ := vals1 r
  have hl := line63
  have hs : sizeLine = 16777216 := sizeLine_eq
  cases x with
  | str y =>
    obtain ⟨t, rfl⟩ := rx
    obtain ⟨hy, e'⟩ : y.length ≤ sizeLine ∧ n = y.length := e
    subst e'
    exact len_str (by omega) ⟨.int _, H, I.tok _, ⟨_, rfl⟩, q⟩
  | byt y =>
    obtain ⟨t, rfl⟩ := rx
    obtain ⟨hy, e'⟩ : y.size ≤ sizeLine ∧ n = y.size := e
    subst e'
    exact PySem.W.len_bytes (by omega) ⟨.int _, H, I.tok _, ⟨_, rfl⟩, q⟩
  | ref p =>
    cases rx
    have e' : (∃ xs, SqL X.K H p xs ∧ n = xs.length) ∨ ∃ xs, SqT X.K H p xs ∧ n = xs.length := e
    rcases e' with ⟨xs, hx, e'⟩ | ⟨xs, hx, e'⟩
    · subst e'
      obtain ⟨its, r', pl, hz⟩ := I.list hx
      have hlen := r'.length
      exact Calls.call_len_list pl.isList (by simp only [List.size_toArray]; omega) ⟨.int xs.length, H, I.tok _, ⟨_, by simp only [List.size_toArray]; rw [hlen]⟩, q⟩
    · subst e'
      obtain ⟨its, r', pl, hz⟩ := I.tuple hx
      have hlen := r'.length
      exact len_tuple pl (by simp only [List.size_toArray]; omega) ⟨.int xs.length, H, I.tok _, ⟨_, by simp only [List.size_toArray]; rw [hlen]⟩, q⟩
  | _ => exact (show False from e).elim
/-- divmod: a new tuple -/
theorem call_divmod : CallR X (.builtin "divmod") (fun xs H Q => ∃ i j, xs = [.int i, .int j] ∧ CDiv i j ∧ ∀ p, H p = none → Q (.ref p) (upd H p (.tup [.int (i / j), .int (i % j)]))) := by
  intro pins s σ H xs us Q I r h
  obtain ⟨i, j, rfl, ⟨h1, h2⟩, q⟩ := h
  obtain ⟨u, w', rfl, ⟨t, rfl⟩, ⟨t', rfl⟩⟩ := vals2 r
  refine divmod_int (by omega) ?_ (.inl (PyProof.noPylong_small (by omega)))
  rw [Int.fdiv_eq_ediv_of_nonneg i (by omega), Int.fmod_eq_emod_of_nonneg i (by omega)]
  have hn : H s.heap.objs.size = none := I.hok.fresh (Nat.le_refl _)
  refine ⟨.ref s.heap.objs.size, _, ?_, rfl, q _ hn⟩
  refine I.laid (fun b o e => Heap.get?_push_of_some _ e) (Nat.le_refl _) ⟨by simp only [List.length_cons, List.length_nil]; rw [sizeLine_eq]; decide, [.int (i / j) s.toks, .int (i % j) (s.toks + 1)], .cons ⟨_, rfl⟩ (.cons ⟨_, rfl⟩ .nil), ?_⟩
  exact ⟨_, Heap.get?_push_size s.heap rfl, rfl, 0, rfl⟩
end
end L2

namespace L2
open PySem PySem.Spec PyProof.Rows

/-! ### an instance, its attributes a map -/
structure ObjM (h : Heap) (x dx C : Addr) (mA : Str → Option Value) : Prop where
  obj : h.get? x = some (PySem.W.instObj C dx)
  ns : h.Ns1 dx mA
  ne : dx ≠ x

theorem lookIn_ns {h : Heap} {dx : Addr} {mA : Str → Option Value} (n : h.Ns1 dx mA) : ∃ od, h.get? dx = some od ∧ ∀ name, PySem.W.lookIn name od = some (mA name) := by
  obtain ⟨o, es, ep, ho, hd, hk, _, hm⟩ := n
  refine ⟨o, ho, fun name => ?_⟩
  have e := hm name
  unfold nsFind findBy at e
  rw [← Array.find?_toList] at e
  unfold PySem.W.lookIn
  rw [hd]
  dsimp only
  split
  · rename_i y q
    rw [q] at e
    exact congrArg some e
  · rename_i q
    rw [q] at e
    have a : es.toList.any (·.refKey) = false := by
      rw [List.any_eq_false]
      intro y hy
      obtain ⟨z, t, hkey⟩ := hk y (Array.mem_toList_iff.mp hy)
      simp [DictEntry.refKey, hkey]
    have a' : ¬ es.toList.any (·.refKey) = true := by rw [a]; exact Bool.false_ne_true
    rw [if_neg a']
    exact congrArg some e

theorem ObjM.look {h : Heap} {x dx C : Addr} {mA : Str → Option Value} (I : ObjM h x dx C mA) : ∃ od, PySem.W.InstAt h x (PySem.W.instObj C dx) C (some od) ∧ ∀ name, PySem.W.lookIn name od = some (mA name) :=
  let ⟨od, ho, hl⟩ := lookIn_ns I.ns
  ⟨od, ⟨I.obj, rfl, rfl, ho⟩, hl⟩

section
variable {prog : Program} {w : World} {A : Around} {E : Value → Shared → Prop} {s : Shared} {K : PySem.W.Frag} {x dx C f : Addr} {mA : Str → Option Value} {name : Str} {v : Value}

theorem get_map {expr : Bool} {Q : Value → Shared → Prop} (X : K.In s.heap) (I : ObjM s.heap x dx C mA) (hg : PySem.W.plainGet K C name = true) (hh : PySem.W.hasDictIn K C = true)
    (ha : PySem.W.findIn K (.ref C) name = some none) (hv : mA name = some v) (hv' : PySem.W.handedIn v = true) (h : Q v { s with toks := s.toks + 1 }) :
    wpAny (model prog w) A (getAttr (.ref x) name expr) Q E s := by
  obtain ⟨od, J, hl⟩ := I.look
  exact PySem.W.get_value X J (PySem.W.plainGet_of hg).1 (PySem.W.findObj_own hh ha rfl (by rw [hl, hv])) hv' h

theorem get_const {expr : Bool} {a : Value} {Q : Value → Shared → Prop} (X : K.In s.heap) (I : ObjM s.heap x dx C mA) (hg : PySem.W.plainGet K C name = true) (hh : PySem.W.hasDictIn K C = true)
    (ha : PySem.W.findIn K (.ref C) name = some (some a)) (hn : PySem.W.specialIn K a "__get__" = some none) (hc : PySem.W.copiedNames.contains name = false) (hv : mA name = none) (hv' : PySem.W.handedIn a = true)
    (h : Q a { s with toks := s.toks + 1 }) : wpAny (model prog w) A (getAttr (.ref x) name expr) Q E s := by
  obtain ⟨od, J, hl⟩ := I.look
  exact PySem.W.get_value X J (PySem.W.plainGet_of hg).1 (PySem.W.findObj_cls hh ha hn hv' hc (by rw [hl, hv])) hv' h

theorem get_meth {pl : Sem Bool} {Q : Value × List Value → Shared → Prop} (X : K.In s.heap) (I : ObjM s.heap x dx C mA) (hg : PySem.W.plainGet K C name = true)
    (hf : PySem.W.findIn K (.ref C) name = some (some (.ref f))) (ht : PySem.W.isFn K (.ref f) = true) (hv : mA name = none) (h : Q (.ref f, [.ref x]) s) :
    wpAny (model prog w) A (getMethod (.ref x) name pl) Q E s := by
  obtain ⟨od, J, hl⟩ := I.look
  exact PySem.W.method_fn X J (PySem.W.plainGet_of hg).1 (PySem.W.plainGet_of hg).2 hf (beq_iff_eq.mp ht) (by show (PySem.W.lookIn name od).map (·.isSome) = some false; rw [hl, hv]; rfl) h

theorem set_map {ns : List Str} {Q : Unit → Shared → Prop} (X : K.In s.heap) (I : ObjM s.heap x dx C mA)
    (hs : PySem.W.findIn K (.ref C) "__setattr__" = some (some (.builtin "object.__setattr__"))) (hp : PySem.W.plainOver K C = true) (ht : PySem.W.takerIn K C name = some none) (hh : PySem.W.hasDictIn K C = true)
    (hw : PySem.Within mA ns) (hsz : ns.length ≤ sizeLine)
    (h : ∀ h', ObjM h' x dx C (fun y => if y = name then some v else mA y) → Heap.SameBut dx s.heap h' → Q () { s with heap := h', toks := s.toks + 2 }) :
    wpAny (model prog w) A (setAttr (.ref x) name v) Q E s := by
  obtain ⟨od, J, hl⟩ := I.look
  refine PySem.W.set_plain X J hs (PySem.W.osa_open (s := { s with toks := s.toks + 1 }) (r := none) X J hp ht fun b => ?_)
  obtain ⟨cd, hc, hd'⟩ := PySem.W.any_some hh
  have hx : s.heap.get? x = some ⟨.ref C, some dx, .plain, #[]⟩ := I.obj
  refine wpAny_bind (wpAny_pure (wpAny_bind (wpAny_bind (wpAny_loadPart hx (wpAny_bind (PySem.W.Looks.here (s := { s with toks := s.toks + 1 }) (PySem.W.looks_clsIn X hc) ?_))))))
  rw [hd']
  refine wpAny_pure (a := some dx) (wpAny_bind (wpAny_pure (wpAny_bind ?_)))
  refine wpAny_nsSet1 (s := { s with toks := s.toks + 1 }) I.ns fun h' hn2 hs2 => ?_
  obtain ⟨oD, esD, epD, hoD, hdD, hcD⟩ := hn2.count (PySem.Within.cons name v hw)
  refine wpAny_bind (wpAny_lookBehind hoD (by rw [hdD]; exact pastItsLine_dict (Nat.le_trans hcD (by rw [List.length_cons]; omega))) ?_)
  exact wpAny_pure (h _ ⟨(hs2.2 _ (Ne.symm I.ne)).trans I.obj, hn2, I.ne⟩ hs2)

/-- C(..): the dict at the heap's end, the instance behind it; then its __init__ -/
theorem make_map {R : Result → Shared → Prop} {vs : List Value} {kw : List (Str × Value)} (X : K.In s.heap) (hm : PySem.W.makesIn K C = true)
    (hi : PySem.W.findIn K (.ref C) "__init__" = some (some (.ref f))) (hf : PySem.W.typeIn K (.ref f) = some (.type "function"))
    (h : codeAny (model prog w) (A.under (.builtin "type.__call__" ⟨.ref C :: vs, kw⟩)) (.call (.ref f) ⟨.ref (s.heap.objs.size + 1) :: vs, kw⟩) (PySem.W.InitBack (s.heap.objs.size + 1) R)
      { s with heap := (s.heap.push PySem.W.emptyDict).push (PySem.W.instObj C s.heap.objs.size) }) :
    codeAny (model prog w) A (.call (.ref C) ⟨vs, kw⟩) R s := by
  obtain ⟨hh, g, d, t, os⟩ := s
  exact PySem.W.make_core (PySem.W.makes_of X hm) (PySem.W.looks_findIn X hi) (fun self => PySem.W.bind_fn X self hf) (.inl rfl) h
/-- C() where there is no __init__ but object's -/
theorem make_map0 {R : Result → Shared → Prop} (X : K.In s.heap) (hm : PySem.W.makesIn K C = true)
    (hi : PySem.W.findIn K (.ref C) "__init__" = some (some (.builtin "object.__init__")))
    (hb : ∀ self, PySem.W.Looks (model prog w) s.heap (bindSpecial (.builtin "object.__init__") self) (.builtin "object.__init__", [self]))
    (h : codeAny (model prog w) (A.under (.builtin "type.__call__" ⟨[.ref C], []⟩)) (.call (.builtin "object.__init__") ⟨[.ref (s.heap.objs.size + 1)], []⟩) (PySem.W.InitBack (s.heap.objs.size + 1) R)
      { s with heap := (s.heap.push PySem.W.emptyDict).push (PySem.W.instObj C s.heap.objs.size) }) :
    codeAny (model prog w) A (.call (.ref C) ⟨[], []⟩) R s := by
  obtain ⟨hh, g, d, t, os⟩ := s
  exact PySem.W.make_core (PySem.W.makes_of X hm) (PySem.W.looks_findIn X hi) hb (.inr ⟨rfl, rfl⟩) h
end

/-! ### the attributes as a list of pairs -/
def putF (f : Str) (v : V) : List (Str × V) → List (Str × V)
  | [] => [(f, v)]
  | (g, x) :: r => if g = f then (g, v) :: r else (g, x) :: putF f v r
theorem lookup_putF (f g : Str) (v : V) : ∀ fs : List (Str × V), (putF f v fs).lookup g = if g = f then some v else fs.lookup g
  | [] => by
    show List.lookup g [(f, v)] = _
    by_cases h : g = f
    · have hb : (g == f) = true := beq_iff_eq.mpr h
      simp only [List.lookup, hb, if_pos h]
    · have hb : (g == f) = false := beq_eq_false_iff_ne.mpr h
      simp only [List.lookup, hb, if_neg h]
  | (k, x) :: r => by
    have ih := lookup_putF f g v r
    rw [show putF f v ((k, x) :: r) = (if k = f then (k, v) :: r else (k, x) :: putF f v r) from rfl]
    by_cases hk : k = f
    · rw [if_pos hk]
      by_cases h : g = k
      · have hb : (g == k) = true := beq_iff_eq.mpr h
        simp only [List.lookup, hb, if_pos (h.trans hk)]
      · have hb : (g == k) = false := beq_eq_false_iff_ne.mpr h
        simp only [List.lookup, hb, if_neg (fun e : g = f => h (e.trans hk.symm))]
    · rw [if_neg hk]
      by_cases h : g = k
      · have hb : (g == k) = true := beq_iff_eq.mpr h
        simp only [List.lookup, hb, if_neg (fun e : g = f => hk (h.symm.trans e))]
      · have hb : (g == k) = false := beq_eq_false_iff_ne.mpr h
        simp only [List.lookup, hb]
        exact ih
theorem keys_putF (f : Str) (v : V) : ∀ fs : List (Str × V), f ∈ (putF f v fs).map (·.1) ∧ ∀ g, g ∈ fs.map (·.1) → g ∈ (putF f v fs).map (·.1)
  | [] => ⟨by simp [putF], fun g h => by simp at h⟩
  | (k, x) :: r => by
    obtain ⟨i1, i2⟩ := keys_putF f v r
    rw [show putF f v ((k, x) :: r) = (if k = f then (k, v) :: r else (k, x) :: putF f v r) from rfl]
    by_cases hk : k = f
    · rw [if_pos hk]
      subst hk
      exact ⟨by simp, fun g h => by simpa using h⟩
    · rw [if_neg hk]
      refine ⟨?_, fun g h => ?_⟩
      · rw [List.map_cons]
        exact List.mem_cons_of_mem _ i1
      · rw [List.map_cons] at h ⊢
        rcases List.mem_cons.mp h with e | e
        · exact List.mem_cons.mpr (.inl e)
        · exact List.mem_cons_of_mem _ (i2 g e)
theorem length_putF (f : Str) (v : V) : ∀ fs : List (Str × V), (putF f v fs).length ≤ fs.length + 1
  | [] => by simp [putF]
  | (k, x) :: r => by
    have ih := length_putF f v r
    rw [show putF f v ((k, x) :: r) = (if k = f then (k, v) :: r else (k, x) :: putF f v r) from rfl]
    by_cases hk : k = f
    · rw [if_pos hk, List.length_cons, List.length_cons]; omega
    · rw [if_neg hk, List.length_cons, List.length_cons]; omega

theorem RelO.some_of {v : V} {o : Option Value} (r : RelO (some v) o) : ∃ u, o = some u ∧ RelV v u := by
  cases o with
  | none => exact (show False from r).elim
  | some u => exact ⟨u, rfl, r⟩
theorem RelO.none_of {o : Option Value} (r : RelO none o) : o = none := by
  cases o with
  | none => rfl
  | some u => exact (show False from r).elim
theorem handed_of {v : V} {u : Value} (r : RelV v u) : PySem.W.handedIn u = true := by
  cases v with
  | non => cases (show u = Value.none from r); rfl
  | bl b => cases (show u = Value.bool b from r); rfl
  | int i => obtain ⟨t, e⟩ := (show ∃ t, u = Value.int i t from r); cases e; rfl
  | str x => obtain ⟨t, e⟩ := (show ∃ t, u = Value.str x t from r); cases e; rfl
  | byt b => obtain ⟨t, e⟩ := (show ∃ t, u = Value.bytes b t from r); cases e; rfl
  | flt b => obtain ⟨t, e⟩ := (show ∃ t, u = Value.float b t from r); cases e; rfl
  | ref a => cases (show u = Value.ref a from r); rfl
  | ty n => cases (show u = Value.type n from r); rfl

section
variable {P : Program} {w : World} {H H' : Hp} {h h' : Heap} {a C dx : Addr} {fs fs' : List (Str × V)}
theorem ins_get (hok : HOk P w H h) (e : H a = some (.ins C dx fs)) : ∃ mA, ObjM h a dx C mA ∧ (∀ f, RelO (fs.lookup f) (mA f)) ∧ PySem.Within mA (fs.map (·.1)) ∧ fs.length ≤ 1000 ∧ H dx = some (.own a) := by
  obtain ⟨d, z, ne, ob, mA, n, r, q⟩ := (show ObjOk P w H h a (.ins C dx fs) from hok a _ e)
  exact ⟨mA, ⟨ob, n, ne⟩, r, q, z, d⟩
end

/-! ### what of the text a class must have -/
structure Cls (K : PySem.W.Frag) (C : Addr) : Prop where
  pg : PySem.W.plainGet K C Str.empty = true
  hd : PySem.W.hasDictIn K C = true
  po : PySem.W.plainOver K C = true
  sa : PySem.W.findIn K (.ref C) "__setattr__" = some (some (.builtin "object.__setattr__"))
theorem Cls.get {K : PySem.W.Frag} {C : Addr} (c : Cls K C) (f : Str) : PySem.W.plainGet K C f = true := c.pg
/-- no class of it has the name -/
def NoAttr (K : PySem.W.Frag) (C : Addr) (f : Str) : Prop := PySem.W.findIn K (.ref C) f = some none
theorem NoAttr.taker {K : PySem.W.Frag} {C : Addr} {f : Str} (n : NoAttr K C f) : PySem.W.takerIn K C f = some none := by
  unfold PySem.W.takerIn
  rw [show PySem.W.findIn K (.ref C) f = some none from n]
  rfl
/-- a constant of the class -/
structure Con (K : PySem.W.Frag) (C : Addr) (f : Str) (v : V) (u : Value) : Prop where
  at_ : PySem.W.findIn K (.ref C) f = some (some u)
  rel : RelV v u
  get : PySem.W.specialIn K u "__get__" = some none
  cp : PySem.W.copiedNames.contains f = false
/-- a method: a plain def of the class or of one above it -/
structure Meth (K : PySem.W.Frag) (C : Addr) (m : Str) (f : Addr) : Prop where
  at_ : PySem.W.findIn K (.ref C) m = some (some (.ref f))
  fn : PySem.W.isFn K (.ref f) = true
  kp : PySem.W.keepIn K (.ref f) = true

section
variable {X : Cx} {pins : List (Addr × Obj)} {σ : St} {H : Hp} {s : Shared} {a C dx : Addr} {fs : List (Str × V)} {f : Str} {v : V} {A : Around} {E : Value → Shared → Prop}

theorem getattr_ok {b : Bool} {Q : Value → Shared → Prop} (I : Inv X pins σ H s) (e : H a = some (.ins C dx fs)) (c : Cls X.K C) (n : NoAttr X.K C f) (l : fs.lookup f = some v)
    (h : ∀ u s', Inv X pins σ H s' → RelV v u → Q u s') : wpAny (model X.prog X.w) A (getAttr (.ref a) f b) Q E s := by
  obtain ⟨mA, O, r, _, _, _⟩ := ins_get I.hok e
  obtain ⟨u, hu, ru⟩ := RelO.some_of (v := v) (o := mA f) (by rw [← l]; exact r f)
  exact get_map I.kIn O (c.get f) c.hd n hu (handed_of ru) (h u _ (I.tok _) ru)

theorem getcon_ok {b : Bool} {u : Value} {Q : Value → Shared → Prop} (I : Inv X pins σ H s) (e : H a = some (.ins C dx fs)) (c : Cls X.K C) (k : Con X.K C f v u) (l : fs.lookup f = none)
    (h : ∀ s', Inv X pins σ H s' → Q u s') : wpAny (model X.prog X.w) A (getAttr (.ref a) f b) Q E s := by
  obtain ⟨mA, O, r, _, _, _⟩ := ins_get I.hok e
  have hn : mA f = none := RelO.none_of (by rw [← l]; exact r f)
  exact get_const I.kIn O (c.get f) c.hd k.at_ k.get k.cp hn (handed_of k.rel) (h _ (I.tok _))

theorem getmeth_ok {m : Str} {g : Addr} {pl : Sem Bool} {Q : Value × List Value → Shared → Prop} (I : Inv X pins σ H s) (e : H a = some (.ins C dx fs)) (c : Cls X.K C) (k : Meth X.K C m g) (l : fs.lookup m = none)
    (h : Q (.ref g, [.ref a]) s) : wpAny (model X.prog X.w) A (getMethod (.ref a) m pl) Q E s := by
  obtain ⟨mA, O, r, _, _, _⟩ := ins_get I.hok e
  have hn : mA m = none := RelO.none_of (by rw [← l]; exact r m)
  exact get_meth I.kIn O (c.get m) k.at_ k.fn hn h

theorem setattr_ok {y : V} {u : Value} {Q : Unit → Shared → Prop} (I : Inv X pins σ H s) (e : H a = some (.ins C dx fs)) (c : Cls X.K C) (n : NoAttr X.K C f) (hl : fs.length < 1000) (ry : RelV y u)
    (h : ∀ s', Inv X pins σ (upd H a (.ins C dx (putF f y fs))) s' → Q () s') : wpAny (model X.prog X.w) A (setAttr (.ref a) f u) Q E s := by
  obtain ⟨mA, O, r, wi, _, ho⟩ := ins_get I.hok e
  have hz : (fs.map (·.1)).length ≤ sizeLine := by rw [List.length_map, sizeLine_eq]; omega
  refine set_map I.kIn O c.sa c.po n.taker c.hd wi hz fun h' O' sb => h _ ?_
  have hd : ∃ o, h'.get? dx = some o := let ⟨o, _, _, e', _⟩ := O'.ns; ⟨o, e'⟩
  refine I.write (x := a) (e := dx) (by rw [e]; exact True.intro) (.inr ho) (fun b q hb z => (sb.2 b hb).trans z) hd ?_
  refine ⟨by rw [upd_ne O.ne]; exact ho, ?_, O.ne, O'.obj, _, O'.ns, fun g => ?_, fun g hg => ?_⟩
  · have := length_putF f y fs; omega
  · show RelO ((putF f y fs).lookup g) (if g = f then some u else mA g)
    rw [lookup_putF]
    by_cases q : g = f
    · rw [if_pos q, if_pos q]; exact ry
    · rw [if_neg q, if_neg q]; exact r g
  · by_cases q : g = f
    · rw [q]; exact (keys_putF f y fs).1
    · refine (keys_putF f y fs).2 g (wi g fun z => hg ?_)
      show (if g = f then some u else mA g) = none
      rw [if_neg q]; exact z

/-- a new instance, tracked, without attributes -/
theorem Inv.made (I : Inv X pins σ H s) : Inv X pins σ (upd (upd H s.heap.objs.size (.own (s.heap.objs.size + 1))) (s.heap.objs.size + 1) (.ins C s.heap.objs.size []))
    { s with heap := (s.heap.push PySem.W.emptyDict).push (PySem.W.instObj C s.heap.objs.size) } := by
  have e1 : (s.heap.push PySem.W.emptyDict).get? s.heap.objs.size = some PySem.W.emptyDict := Heap.get?_push_size s.heap rfl
  have e2 : ((s.heap.push PySem.W.emptyDict).push (PySem.W.instObj C s.heap.objs.size)).get? (s.heap.objs.size + 1) = some (PySem.W.instObj C s.heap.objs.size) := by
    have := Heap.get?_push_size (s.heap.push PySem.W.emptyDict) (o := PySem.W.instObj C s.heap.objs.size) rfl
    rwa [Heap.size_push] at this
  have e3 : (s.heap.push PySem.W.emptyDict).Ns s.heap.objs.size (fun _ => none) := ⟨PySem.W.emptyDict, #[], _, e1, rfl, (fun e he => absurd he (by simp)), fun _ => rfl⟩
  have I1 := I.laid (a := s.heap.objs.size) (o := .own (s.heap.objs.size + 1)) (h' := s.heap.push PySem.W.emptyDict) (t' := s.toks) (fun b u q => Heap.get?_push_of_some _ q) (Nat.le_refl _) ⟨_, e1⟩
  refine I1.laid (a := s.heap.objs.size + 1) (o := .ins C s.heap.objs.size []) (t' := s.toks) (fun b u q => Heap.get?_push_of_some _ q) (Nat.le_of_eq (Heap.size_push _ _)) ?_
  have ne : s.heap.objs.size ≠ s.heap.objs.size + 1 := Nat.ne_of_lt (Nat.lt_succ_self _)
  refine ⟨by rw [upd_ne ne, upd_same], Nat.zero_le _, ne, e2, fun _ => none, (Heap.Ns1.of_empty e3).at fun o q => Heap.get?_push_of_some _ q, fun _ => True.intro, fun y hy => absurd rfl hy⟩

/-- e.f where nothing but the object is asked: through attributeBase (super) and the last hold -/
theorem attr_of {prog : Program} {w : World} {env : Env} {e : Expr} {f : Str} {pos : Pos} {s : Shared} {Q : Value → Shared → Prop} (hb : attributeBase e f env (eval e env) = eval e env)
    (h : wpAny (model prog w) A (eval e env) (fun o s₁ => wpAny (model prog w) A (getAttr o f true) Q E s₁) E s) : wpAny (model prog w) A (eval (.Attribute e f pos) env) Q E s :=
  Attribute_any_ h (by rw [arm_eval_Attribute, hb])
end

/-! ### readings and rules -/
/-- e.f, an attribute of the instance -/
def tFld (K : PySem.W.Frag) (ta : TE) (f : Str) : TE := fun σ H Q => ta σ H fun x H1 => ∃ a C dx fs v, x = .ref a ∧ H1 a = some (.ins C dx fs) ∧ Cls K C ∧ NoAttr K C f ∧ fs.lookup f = some v ∧ Q v H1
/-- e.f, a constant of the class -/
def tCon (K : PySem.W.Frag) (ta : TE) (f : Str) : TE := fun σ H Q => ta σ H fun x H1 => ∃ a C dx fs v u, x = .ref a ∧ H1 a = some (.ins C dx fs) ∧ Cls K C ∧ Con K C f v u ∧ fs.lookup f = none ∧ Q v H1
/-- e.f = value -/
def sFld (K : PySem.W.Frag) (ta tv : TE) (f : Str) : TS := fun D σ H => tv σ H fun y H1 => ta σ H1 fun x H2 => ∃ a C dx fs, x = .ref a ∧ H2 a = some (.ins C dx fs) ∧ Cls K C ∧ NoAttr K C f ∧ fs.length < 1000 ∧
  D.nx σ (upd H2 a (.ins C dx (putF f y fs)))
/-- an augmented operator on two values -/
def InOp (X : Cx) (op : Operator) (rd : V → V → Hp → VK → Prop) : Prop :=
  ∀ (pins : List (Addr × Obj)) (s : Shared) (σ : St) (H : Hp) (x y : V) (u v : Value) (Q : VK), Inv X pins σ H s → RelV x u → RelV y v → rd x y H Q → wpAny (model X.prog X.w) X.A (inplaceOp op u v) (EP X pins σ Q) X.xe s
/-- e.f op= value -/
def sFldAug (K : PySem.W.Frag) (ta tv : TE) (rd : V → V → Hp → VK → Prop) (f : Str) : TS := fun D σ H => ta σ H fun x H1 => ∃ a C dx fs v, x = .ref a ∧ H1 a = some (.ins C dx fs) ∧ Cls K C ∧ NoAttr K C f ∧ fs.lookup f = some v ∧
  tv σ H1 fun y H2 => rd v y H2 fun z H3 => ∃ dx' fs', H3 a = some (.ins C dx' fs') ∧ fs'.length < 1000 ∧ D.nx σ (upd H3 a (.ins C dx' (putF f z fs')))

section
variable {X : Cx} {o e value : Expr} {f : Str} {pos pos' tpos : Pos} {ta tv : TE}
theorem pe_fld (he : PE X e ta) (hb : attributeBase e f X.env (eval e X.env) = eval e X.env) : PE X (.Attribute e f pos) (tFld X.K ta f) := by
  intro pins s σ H Q I h
  refine attr_of hb (thn (he pins s σ H _ I h) fun u s1 ⟨x, H1, I1, rx, a, C, dx, fs, v, ex, ea, c, n, l, q⟩ => ?_)
  subst ex
  obtain rfl : u = Value.ref a := rx
  exact getattr_ok I1 ea c n l fun u' s2 I2 ru => ⟨v, H1, I2, ru, q⟩
theorem pe_con (he : PE X e ta) (hb : attributeBase e f X.env (eval e X.env) = eval e X.env) : PE X (.Attribute e f pos) (tCon X.K ta f) := by
  intro pins s σ H Q I h
  refine attr_of hb (thn (he pins s σ H _ I h) fun u s1 ⟨x, H1, I1, rx, a, C, dx, fs, v, u0, ex, ea, c, k, l, q⟩ => ?_)
  subst ex
  obtain rfl : u = Value.ref a := rx
  exact getcon_ok I1 ea c k l fun s2 I2 => ⟨v, H1, I2, k.rel, q⟩
theorem ps_fld (ha : PE X o ta) (hv : PE X value tv) (hs : swapsWith value (some (.Attribute o f pos')) pos.line X.env = pure false) : PS X (.Assign [.Attribute o f pos'] value pos) (sFld X.K ta tv f) := by
  intro pins s σ H D I h
  refine plainObj_wpAny_Assign_Attribute (thn (hv pins s σ H _ I h) fun u s1 ⟨y, H1, I1, ry, q⟩ => thn (ha pins s1 σ H1 _ I1 q) fun ov s2 ⟨x, H2, I2, rx, a, C, dx, fs, ex, ea, c, n, l, q2⟩ => ?_) hs
  subst ex
  obtain rfl : ov = Value.ref a := rx
  exact setattr_ok I2 ea c n l ry fun s3 I3 => ⟨σ, _, I3, q2⟩
theorem ps_fldaug {op : Operator} {rd : V → V → Hp → VK → Prop} (ha : PE X o ta) (hv : PE X value tv) (hop : InOp X op rd) : PS X (.AugAssign (.Attribute o f tpos) op value pos) (sFldAug X.K ta tv rd f) := by
  intro pins s σ H D I h
  refine wpAny_AugAssign_AttributeAny (thn (ha pins s σ H _ I h) fun ov s1 ⟨x, H1, I1, rx, a, C, dx, fs, v, ex, ea, c, n, l, q⟩ => ?_)
  subst ex
  obtain rfl : ov = Value.ref a := rx
  refine getattr_ok I1 ea c n l fun u s2 I2 ru => thn (hv pins s2 σ H1 _ I2 q) fun w3 s3 ⟨y, H2, I3, ry, q3⟩ => thn (hop pins s3 σ H2 v y u w3 _ I3 ru ry q3) fun w4 s4 ⟨z, H3, I4, rz, dx', fs', ea', l', q4⟩ => ?_
  exact setattr_ok I4 ea' c n l' rz fun s5 I5 => ⟨σ, _, I5, q4⟩
def rAdd : V → V → Hp → VK → Prop := fun x y H Q => ∃ i j, x = .int i ∧ y = .int j ∧ Q (.int (i + j)) H
def rSub : V → V → Hp → VK → Prop := fun x y H Q => ∃ i j, x = .int i ∧ y = .int j ∧ Q (.int (i - j)) H
theorem in_add : InOp X .Add rAdd := by
  rintro pins s σ H x y u v Q I rx ry ⟨i, j, rfl, rfl, q⟩
  obtain ⟨t, rfl⟩ := (show ∃ t, u = Value.int i t from rx)
  obtain ⟨t', rfl⟩ := (show ∃ t', v = Value.int j t' from ry)
  exact PyProof.Rows.iadd_int ⟨.int (i + j), H, I.tok _, ⟨_, rfl⟩, q⟩
theorem in_sub : InOp X .Sub rSub := by
  rintro pins s σ H x y u v Q I rx ry ⟨i, j, rfl, rfl, q⟩
  obtain ⟨t, rfl⟩ := (show ∃ t, u = Value.int i t from rx)
  obtain ⟨t', rfl⟩ := (show ∃ t', v = Value.int j t' from ry)
  exact PyProof.Rows.isub_int ⟨.int (i - j), H, I.tok _, ⟨_, rfl⟩, q⟩

/-- what is between an instance and its method: the tree of a method call -/
theorem methcall_of {pl : Sem Bool} {m : Str} {apos : Pos} {args : List Expr} {pins : List (Addr × Obj)} {s : Shared} {σ : St} {H : Hp} {Q : Value → Shared → Prop} {te : TE} (he : PE X e te) (I : Inv X pins σ H s)
    (h : te σ H fun x H1 => ∃ a C dx fs g, x = .ref a ∧ H1 a = some (.ins C dx fs) ∧ Cls X.K C ∧ Meth X.K C m g ∧ fs.lookup m = none ∧
      ∀ s1, Inv X pins σ H1 s1 → wpAny (model X.prog X.w) X.A (callWith pos (.ref g) [.ref a] (backTo pos (starEach args X.env)) (backToKw pos (keywordEach [] X.env))) Q X.xe s1)
    (ht : eval (.Call (.Attribute e m apos) args [] pos) X.env = (do
      let ov ← eval e X.env
      standAt apos.atName
      let (f, first) ← holding [ov] (getMethod ov m pl)
      callWith pos f first (backTo pos (starEach args X.env)) (backToKw pos (keywordEach [] X.env)))) :
    wpAny (model X.prog X.w) X.A (eval (.Call (.Attribute e m apos) args [] pos) X.env) Q X.xe s := by
  refine PySem.W.methodCall_KW (pl := pl) (thn (he pins s σ H _ I h) fun u s1 ⟨x, H1, I1, rx, a, C, dx, fs, g, ex, ea, c, k, l, q⟩ => ?_) ht
  subst ex
  obtain rfl : u = Value.ref a := rx
  exact getmeth_ok I1 ea c k l (q s1 I1)
end

/-! ### isinstance -/
section
variable {X : Cx} {pins : List (Addr × Obj)} {σ : St} {H : Hp} {s : Shared} {A : Around} {E : Value → Shared → Prop} {Q : Value → Shared → Prop} {c : Value} {b : Bool}
/-- the type of a value, as the fragment's deciders take it; for an instance its class -/
inductive TyOf (K : PySem.W.Frag) (H : Hp) : V → Value → Prop where
  | non : TyOf K H .non (.type "NoneType")
  | bl (x : Bool) : TyOf K H (.bl x) (.type "bool")
  | int (i : Int) : TyOf K H (.int i) (.type "int")
  | str (x : Str) : TyOf K H (.str x) (.type "str")
  | flt (x : UInt64) : TyOf K H (.flt x) (.type "float")
  | lst {a : Addr} {xs : List V} (e : H a = some (.lst xs)) : TyOf K H (.ref a) (.type "list")
  | frz {a : Addr} {o : Obj} {xs : List V} (e : H a = some (.frz o (.lst xs))) : TyOf K H (.ref a) (.type "list")
  | tup {a : Addr} {xs : List V} (e : H a = some (.tup xs)) : TyOf K H (.ref a) (.type "tuple")
  | dK {a : Addr} {kvs : List (Key × V)} (e : H a = some (.dK kvs)) : TyOf K H (.ref a) (.type "dict")
  | dT {a : Addr} {kvs : List (List Key × V)} (e : H a = some (.dT kvs)) : TyOf K H (.ref a) (.type "dict")
  | ins {a C dx : Addr} {fs : List (Str × V)} (e : H a = some (.ins C dx fs)) (cl : Cls K C) (ha : PySem.W.findIn K (.ref C) "__class__" = some (some (.builtin "object.__class__")))
      (hn : PySem.W.specialIn K (.builtin "object.__class__") "__get__" = some (some (.builtin "getset_descriptor.__get__"))) (htk : PySem.W.takesIn K (.builtin "object.__class__") = some true)
      (hm : PySem.W.mroIn K C (.type "object") = some true) : TyOf K H (.ref a) (.ref C)
/-- isinstance(x, c) for one class c, a built-in or an own one: kitOne's answer -/
theorem isinst_ok {x : V} {u t : Value} (I : Inv X pins σ H s) (rx : RelV x u) (ty : TyOf X.K H x t) (e : PySem.W.kitOne X.K t c = some b) (h : ∀ tk, Q (.bool b) { s with toks := tk }) :
    wpAny (model X.prog X.w) A (call (.builtin "isinstance") [u, c]) Q E s := by
  cases ty with
  | non => cases (show u = Value.none from rx); exact PySem.W.kia_one PySem.W.kitx_none I.kIn True.intro e (fun z => nomatch z) h
  | bl y => cases (show u = Value.bool y from rx); exact PySem.W.kia_one PySem.W.kitx_bool I.kIn True.intro e (fun z => nomatch z) h
  | int i => obtain ⟨t, q⟩ := (show ∃ t, u = Value.int i t from rx); cases q; exact PySem.W.kia_one PySem.W.kitx_int I.kIn True.intro e (fun z => nomatch z) h
  | str y => obtain ⟨t, q⟩ := (show ∃ t, u = Value.str y t from rx); cases q; exact PySem.W.kia_one PySem.W.kitx_str I.kIn True.intro e (fun z => nomatch z) h
  | flt y => obtain ⟨t, q⟩ := (show ∃ t, u = Value.float y t from rx); cases q; exact PySem.W.kia_one PySem.W.kitx_float I.kIn True.intro e (fun z => nomatch z) h
  | @lst a xs ea =>
    cases (show u = Value.ref a from rx)
    obtain ⟨_, _, n, _, h1⟩ := (show ObjOk X.prog X.w H s.heap a (.lst xs) from I.hok a _ ea)
    exact PySem.W.kia_one PySem.W.kitx_list I.kIn ⟨_, h1, rfl⟩ e (fun z => nomatch z) h
  | @frz a ob xs ea =>
    cases (show u = Value.ref a from rx)
    obtain ⟨_, _, _, n, _, h1⟩ := (show ObjOk X.prog X.w H s.heap a (.frz ob (.lst xs)) from I.hok a _ ea)
    exact PySem.W.kia_one PySem.W.kitx_list I.kIn ⟨_, h1, rfl⟩ e (fun z => nomatch z) h
  | @tup a xs ea =>
    cases (show u = Value.ref a from rx)
    obtain ⟨_, _, _, p⟩ := (show ObjOk X.prog X.w H s.heap a (.tup xs) from I.hok a _ ea)
    obtain ⟨o, h1, h2, _⟩ := p
    exact PySem.W.kia_one PySem.W.kitx_tuple I.kIn ⟨o, h1, h2⟩ e (fun z => nomatch z) h
  | @dK a kvs ea =>
    cases (show u = Value.ref a from rx)
    obtain ⟨_, _, vs, _, p⟩ := (show ObjOk X.prog X.w H s.heap a (.dK kvs) from I.hok a _ ea)
    obtain ⟨o, es, ep, h1, h2, _⟩ := p
    exact PySem.W.kia_one PySem.W.kitx_dict I.kIn ⟨o, h1, h2.1⟩ e (fun z => nomatch z) h
  | @dT a kvs ea =>
    cases (show u = Value.ref a from rx)
    obtain ⟨_, _, xs, _, o, es, ep, h1, h2, _⟩ := (show ObjOk X.prog X.w H s.heap a (.dT kvs) from I.hok a _ ea)
    exact PySem.W.kia_one PySem.W.kitx_dict I.kIn ⟨o, h1, h2.1⟩ e (fun z => nomatch z) h
  | @ins a C dx fs ea cl ha hn htk hm =>
    cases (show u = Value.ref a from rx)
    obtain ⟨mA, O, _⟩ := ins_get I.hok ea
    obtain ⟨od, J, _⟩ := O.look
    exact PySem.W.kia_one (PySem.W.kitx_own (cl.get _) cl.hd ha hn htk hm) I.kIn J e (fun z => nomatch z) h
end
end L2

namespace L2
open PySem PySem.Spec PyProof.Rows

/-! ### room -/
structure Room (k : Nat) (A : Around) : Prop where
  hd : A.handled = none
  dp : A.depth + 3 * k + 5 < recursionLimit
  un : A.units + 16 * k + 200 < cLine
  gd : A.guards = some []
theorem Room.mono {j k : Nat} {A : Around} (r : Room k A) (h : j ≤ k) : Room j A := ⟨r.hd, by have := r.dp; omega, by have := r.un; omega, r.gd⟩
theorem Room.deeper {k : Nat} {A : Around} (r : Room (k + 1) A) (env : Env) : Room k (A.deeper env) :=
  ⟨r.hd, by have := r.dp; show A.depth + 1 + 3 * k + 5 < _; omega, by have := r.un; show A.units + 3 + 16 * k + 200 < _; omega, r.gd⟩
theorem Room.in1 {k : Nat} {A : Around} (r : Room (k + 1) A) : Room k A.in1 :=
  ⟨r.hd, by have := r.dp; show A.depth + 3 * k + 5 < _; omega, by have := r.un; show A.units + 1 + 16 * k + 200 < _; omega, r.gd⟩
theorem make_depth {A : Around} {C : Addr} {us : List Value} {kw : List (Str × Value)} : (A.under (.builtin "type.__call__" ⟨.ref C :: us, kw⟩)).depth = A.depth + 1 := by
  first | rfl | simp [Around.under, Code.weight, Code.isCreation, Code.isGuard, Code.isCaller, Code.frames, Code.isFrame, guardIds]
theorem make_units {A : Around} {C : Addr} {us : List Value} {kw : List (Str × Value)} : (A.under (.builtin "type.__call__" ⟨.ref C :: us, kw⟩)).units = A.units + 1 := by
  first | rfl | simp [Around.under, Code.cUnits, Code.frames, Code.isFrame]
theorem Room.make {k : Nat} {A : Around} (r : Room (k + 1) A) (C : Addr) (us : List Value) (kw : List (Str × Value)) : Room k (A.under (.builtin "type.__call__" ⟨.ref C :: us, kw⟩)) :=
  ⟨r.hd, by have := r.dp; rw [make_depth]; omega, by have := r.un; rw [make_units]; omega, by first | exact r.gd | (simpa [Around.under, Code.isGuard, guardIds] using r.gd)⟩
theorem Room.depth {k : Nat} {A : Around} (r : Room k A) : A.depth < recursionLimit := by have := r.dp; omega
theorem Room.units {k : Nat} {A : Around} (r : Room k A) : A.units + 64 < cLine := by have := r.un; omega
theorem Room.units0 {k : Nat} {A : Around} (r : Room k A) : A.units < cLine := by have := r.un; omega

/-! ### argument lists and displays -/
def tNil : TA := fun _ H Q => Q [] H
def tCons (ta : TE) (tr : TA) : TA := fun σ H Q => ta σ H fun x H1 => tr σ H1 fun xs H2 => Q (x :: xs) H2
section
variable {X : Cx} {e : Expr} {es : List Expr} {te : TE} {t : TA} {pos : Pos}
theorem pa_nil : PA X [] tNil := fun _ _ _ _ H Q I h => Calls.spliced_nil ⟨[], H, I, .nil, h⟩
theorem pa_cons (ha : PE X e te) (hr : PA X es t) (hs : starEach (e :: es) X.env = (false, eval e X.env) :: starEach es X.env := by rfl) : PA X (e :: es) (tCons te t) := by
  intro pos pins s σ H Q I h
  rw [hs]
  show wpAny _ _ (spliced ((false, eval e X.env) :: backTo pos (starEach es X.env))) _ _ s
  refine Calls.spliced_cons (thn (ha pins s σ H _ I h) fun u s1 ⟨x, H1, I1, r1, q1⟩ => ?_)
  exact thn (hr pos pins s1 σ H1 _ I1 q1) fun us s2 ⟨xs, H2, I2, r2, q2⟩ => ⟨x :: xs, H2, I2, .cons r1 r2, q2⟩

/-- a tuple, a list of written items -/
def tTup (t : TA) : TE := fun σ H Q => t σ H fun xs H1 => xs.length ≤ sizeLine ∧ ∀ p, H1 p = none → Q (.ref p) (upd H1 p (.tup xs))
def tLst (t : TA) : TE := fun σ H Q => t σ H fun xs H1 => xs.length ≤ sizeLine ∧ ∀ p, H1 p = none → Q (.ref p) (upd H1 p (.lst xs))
theorem pe_tup {x1} (h : PA X es t) : PE X (.Tuple es x1 pos) (tTup t) := by
  intro pins s σ H Q I hq
  refine wpAny_Tuple_spliced (thn (h pos pins s σ H _ I hq) fun us s1 ⟨xs, H1, I1, r, z, q⟩ => ⟨by rw [← r.length]; exact z, ?_⟩)
  have hf : H1 s1.heap.objs.size = none := I1.hok.fresh (Nat.le_refl _)
  refine ⟨.ref s1.heap.objs.size, upd H1 s1.heap.objs.size (.tup xs), I1.laid (t' := s1.toks) (fun b u e => Heap.get?_push_of_some _ e) (Nat.le_refl _) ?_, rfl, q _ hf⟩
  exact ⟨z, us, r, ⟨_, Heap.get?_push_size _ rfl, rfl, _, rfl⟩⟩
theorem pe_lst (h : PA X es t) : PE X (.List es pos) (tLst t) := by
  intro pins s σ H Q I hq
  refine wpAny_List_spliced (thn (h pos pins s σ H _ I hq) fun us s1 ⟨xs, H1, I1, r, z, q⟩ => ⟨by rw [← r.length]; exact z, ?_⟩)
  have hf : H1 s1.heap.objs.size = none := I1.hok.fresh (Nat.le_refl _)
  refine ⟨.ref s1.heap.objs.size, upd H1 s1.heap.objs.size (.lst xs), I1.laid (t' := s1.toks) (fun b u e => Heap.get?_push_of_some _ e) (Nat.le_refl _) ?_, rfl, q _ hf⟩
  exact ⟨z, us, 0, r, Heap.get?_push_size _ rfl⟩
end

/-! ### what a def promises -/
/-- a def's promise: the bound arguments in the parameters' order, the heap, the wanted end, the wanted exception -/
abbrev Sp := List V → Hp → VK → XK → Prop
/-- how an exception lies behind a call (file 08 gives it): the callers' frames, abstract heap and state ahead of the call, the wish, the exception, the state -/
abbrev CXT := List Env → Hp → Shared → XK → Value → Shared → Prop

/-- the state at a call -/
structure Env0 (P : Program) (w : World) (K : PySem.W.Frag) (mg : Str → Option Value) (base : Heap) (A : Around) (outer : List Env) (s : Shared) (H : Hp) : Prop where
  frames : A.frames = some outer
  mod : Mod K mg base
  bs : ∀ b o, base.get? b = some o → s.heap.get? b = some o ∧ H b = none
  bsz : base.objs.size ≤ s.heap.objs.size
  funs : s.heap.FunFrames base outer
  frf : ∀ b ∈ frs outer, H b = none
  hok : HOk P w H s.heap
  bare : AllBare s.gens
/-- a call's end -/
def CE (outer : List Env) (P : Program) (w : World) (H : Hp) (s : Shared) (Q : VK) (u : Value) (s' : Shared) : Prop :=
  ∃ v H', s'.os = s.os ∧ AllBare s'.gens ∧ Un (frs outer) [] H H' s.heap s'.heap ∧ HOk P w H' s'.heap ∧ RelV v u ∧ Q v H'
def CR (CX : CXT) (outer : List Env) (P : Program) (w : World) (H : Hp) (s : Shared) (Q : VK) (E : XK) (r : Result) (s' : Shared) : Prop :=
  match r with
  | .ok (.ret u) => CE outer P w H s Q u s'
  | .ok _ => False
  | .error e => CX outer H s E e s'
structure FnOk (P : Program) (w : World) (K : PySem.W.Frag) (mg : Str → Option Value) (base : Heap) (CX : CXT) (k : Nat) (f : Addr) (fd : FuncData) (ps : List Str) (sp : Sp) : Prop where
  len : ∀ vs H Q E, sp vs H Q E → vs.length = ps.length
  run : ∀ (A : Around) (outer : List Env) (s : Shared) (H : Hp) (args : Args) (us : List Value) (vs : List V) (Q : VK) (E : XK), Room k A → Env0 P w K mg base A outer s H → BindsTo s fd args (ps.zip us) → Vals vs us → sp vs H Q E →
    codeAny (model P w) A (.call (.ref f) args) (CR CX outer P w H s Q E) s
theorem FnOk.mono {P : Program} {w : World} {K : PySem.W.Frag} {mg : Str → Option Value} {base : Heap} {CX : CXT} {j k : Nat} {f : Addr} {fd : FuncData} {ps : List Str} {sp : Sp} (F : FnOk P w K mg base CX j f fd ps sp) (h : j ≤ k) :
    FnOk P w K mg base CX k f fd ps sp := ⟨F.len, fun A outer s H args us vs Q E hr => F.run A outer s H args us vs Q E (hr.mono h)⟩
/-- a weaker promise -/
theorem FnOk.imp {P : Program} {w : World} {K : PySem.W.Frag} {mg : Str → Option Value} {base : Heap} {CX : CXT} {k : Nat} {f : Addr} {fd : FuncData} {ps : List Str} {sp sp' : Sp} (F : FnOk P w K mg base CX k f fd ps sp)
    (h : ∀ vs H Q E, sp' vs H Q E → sp vs H Q E) : FnOk P w K mg base CX k f fd ps sp' :=
  ⟨fun vs H Q E q => F.len vs H Q E (h _ _ _ _ q), fun A outer s H args us vs Q E hr he hb hv hs => F.run A outer s H args us vs Q E hr he hb hv (h _ _ _ _ hs)⟩

theorem Env0.make {P : Program} {w : World} {K : PySem.W.Frag} {mg : Str → Option Value} {base : Heap} {A : Around} {outer : List Env} {s : Shared} {H : Hp} (e : Env0 P w K mg base A outer s H) (C : Addr) (us : List Value) (kw : List (Str × Value)) :
    Env0 P w K mg base (A.under (.builtin "type.__call__" ⟨.ref C :: us, kw⟩)) outer s H := ⟨by first | exact e.frames | (simpa [Around.under, Code.envs, Code.isFrame, pushEnvs] using e.frames), e.mod, e.bs, e.bsz, e.funs, e.frf, e.hok, e.bare⟩
theorem Env0.in1 {P : Program} {w : World} {K : PySem.W.Frag} {mg : Str → Option Value} {base : Heap} {A : Around} {outer : List Env} {s : Shared} {H : Hp} (e : Env0 P w K mg base A outer s H) :
    Env0 P w K mg base A.in1 outer s H := ⟨e.frames, e.mod, e.bs, e.bsz, e.funs, e.frf, e.hok, e.bare⟩

section
variable {X : Cx} {pins : List (Addr × Obj)} {σ : St} {H : Hp} {s s' : Shared}
/-- from a body: what a callee wants -/
theorem Inv.env0 (I : Inv X pins σ H s) : Env0 X.prog X.w X.K X.mg X.base X.A X.stack s H :=
  ⟨I.ok.frames, I.ok.mod, I.bs, Nat.le_trans I.ok.bsz I.sz, I.stack, I.stkFree, I.hok, I.bare⟩
/-- behind a call -/
theorem Inv.after {Q : VK} {u : Value} (I : Inv X pins σ H s) (h : CE X.stack X.prog X.w H s Q u s') : EP X pins σ Q u s' := by
  obtain ⟨v, H', os, bare, un, hok, r, q⟩ := h
  obtain ⟨hh, g, d, t, os'⟩ := s'
  obtain rfl : os' = s.os := os
  exact ⟨v, H', I.call (h' := hh) (g' := g) (d' := d) (t' := t) (ch := []) un hok bare (fun b z => absurd z (by simp)), r, q⟩
end

/-! ### calls -/
/-- f(..): the written arguments, then the defaults dvs; E: what is wanted of an exception -/
def tCall (sp : Sp) (dvs : List V) (E : XK) (t : TA) : TE := fun σ H Q => t σ H fun vs H1 => sp (vs ++ dvs) H1 Q E
/-- o.m(..) of an instance of the class at C -/
def tMeth (C : Addr) (m : Str) (sp : Sp) (dvs : List V) (E : XK) (ta : TE) (t : TA) : TE := fun σ H Q => ta σ H fun x H1 => ∃ a dx fs, x = .ref a ∧ H1 a = some (.ins C dx fs) ∧ fs.lookup m = none ∧
  t σ H1 fun vs H2 => sp (x :: (vs ++ dvs)) H2 Q E
/-- C(..): a new instance and its dict, then __init__ -/
def tMake (C : Addr) (sp : Sp) (dvs : List V) (E : XK) (t : TA) : TE := fun σ H Q => t σ H fun vs H1 => ∀ x dx, H1 x = none → H1 dx = none → dx ≠ x →
  sp (.ref x :: (vs ++ dvs)) (upd (upd H1 dx (.own x)) x (.ins C dx [])) (fun v H2 => v = .non ∧ Q (.ref x) H2) E

/-- how the parameters are bound: us the positional arguments, kw the keywords' values by name, ds the defaults that fill up -/
def Binds (K : PySem.W.Frag) (fd : FuncData) (ps : List Str) (ds : List Value) : Prop :=
  ∀ (s : Shared) (us : List Value), K.In s.heap → (us ++ ds).length = ps.length → BindsTo s fd ⟨us, []⟩ (ps.zip (us ++ ds))
/-- every parameter is given -/
theorem Binds.all {K : PySem.W.Frag} {fd : FuncData} {ps : List Str} (h : ∀ us : List Value, us.length = ps.length → bindArgs fd ⟨us, []⟩ = pure (ps.zip us)) : Binds K fd ps [] := fun s us _ hl => by
  rw [List.append_nil] at hl ⊢
  exact .of_eq (h us hl)

/-- an exception of a callee reaches what this body wants of exceptions -/
def Passes (CX : CXT) (X : Cx) (E : XK) : Prop := ∀ (pins : List (Addr × Obj)) (σ : St) (H : Hp) (s : Shared) (e : Value) (s' : Shared), Inv X pins σ H s → CX X.stack H s E e s' → X.xe e s'

section
variable {X : Cx} {CX : CXT} {k : Nat} {f C : Addr} {fd : FuncData} {ps : List Str} {sp : Sp} {dvs : List V} {ds : List Value} {E : XK} {x m : Str} {p pos apos : Pos} {e o : Expr} {es : List Expr} {ta : TE} {t : TA}

/-- the callee runs -/
theorem run_fn {pins : List (Addr × Obj)} {σ : St} {H : Hp} {s : Shared} {Q : VK} {us : List Value} {vs : List V} (F : FnOk X.prog X.w X.K X.mg X.base CX k f fd ps sp) (hr : Room k X.A) (hb : Binds X.K fd ps ds) (hd : Vals dvs ds) (hx : Passes CX X E)
    (I : Inv X pins σ H s) (r : Vals vs us) (h : sp (vs ++ dvs) H Q E) : wpAny (model X.prog X.w) X.A (call (.ref f) us) (EP X pins σ Q) X.xe s := by
  have r2 : Vals (vs ++ dvs) (us ++ ds) := r.append hd
  have hl : (us ++ ds).length = ps.length := by rw [← r2.length]; exact F.len _ _ _ _ h
  refine wpAny_call (codeAny_mono (F.run X.A X.stack s H ⟨us, []⟩ (us ++ ds) (vs ++ dvs) Q E hr I.env0 (hb s us I.kIn hl) r2 h) fun r s' hq => ?_)
  cases r with
  | error e => exact hx pins σ H s e s' I hq
  | ok fl =>
    cases fl with
    | ret u => exact I.after hq
    | next => exact False.elim hq
    | brk => exact False.elim hq
    | cont => exact False.elim hq

theorem pe_call (F : FnOk X.prog X.w X.K X.mg X.base CX k f fd ps sp) (hr : Room k X.A) (hg : Gl X x) (hm : X.mg x = some (.ref f)) (hk : PySem.W.keepIn X.K (.ref f) = true) (hb : Binds X.K fd ps ds) (hd : Vals dvs ds) (hx : Passes CX X E)
    (ha : PA X (e :: es) t) (hdb : (x == ("__debug__" : Str)) = false := by decide) (he : starEach (e :: es) X.env = (false, eval e X.env) :: starEach es X.env := by rfl) (hpl : (backTo pos (starEach es X.env)).any (·.1) = false := by rfl) :
    PE X (.Call (.Name x p) (e :: es) [] pos) (tCall sp dvs E t) := by
  intro pins s σ H Q I h
  refine wpAny_Call_Name_kw (ld_glob I hg hm ?_ hdb)
  refine PySem.W.callWith_K (h₀ := X.base) I.ok.mod.kin hk (thn (ha pos pins s σ H _ I h) fun us s1 ⟨vs, H1, I1, r, q⟩ => ⟨I1.kIn, ?_⟩) he hpl
  exact run_fn F hr hb hd hx I1 r q
theorem pe_call0 (F : FnOk X.prog X.w X.K X.mg X.base CX k f fd ps sp) (hr : Room k X.A) (hg : Gl X x) (hm : X.mg x = some (.ref f)) (hk : PySem.W.keepIn X.K (.ref f) = true) (hb : Binds X.K fd ps ds) (hd : Vals dvs ds) (hx : Passes CX X E)
    (hdb : (x == ("__debug__" : Str)) = false := by decide) : PE X (.Call (.Name x p) [] [] pos) (tCall sp dvs E tNil) := by
  intro pins s σ H Q I h
  refine wpAny_Call_Name_kw (ld_glob I hg hm ?_ hdb)
  exact PySem.W.callWith_K0 I.kIn hk (run_fn (us := []) F hr hb hd hx I .nil h)

/-- o.m(e, ..) -/
theorem pe_meth {pl : Sem Bool} (he : PE X o ta) (c : Cls X.K C) (hm : Meth X.K C m f) (F : FnOk X.prog X.w X.K X.mg X.base CX k f fd ps sp) (hr : Room k X.A) (hb : Binds X.K fd ps ds) (hd : Vals dvs ds) (hx : Passes CX X E) (ha : PA X (e :: es) t)
    (hst : starEach (e :: es) X.env = (false, eval e X.env) :: starEach es X.env := by rfl) (hpl : (backTo pos (starEach es X.env)).any (·.1) = false := by rfl)
    (ht : eval (.Call (.Attribute o m apos) (e :: es) [] pos) X.env = (do
      let ov ← eval o X.env
      standAt apos.atName
      let (f, first) ← holding [ov] (getMethod ov m pl)
      callWith pos f first (backTo pos (starEach (e :: es) X.env)) (backToKw pos (keywordEach [] X.env))) := by rfl) :
    PE X (.Call (.Attribute o m apos) (e :: es) [] pos) (tMeth C m sp dvs E ta t) := by
  intro pins s σ H Q I h
  refine PySem.W.methodCall_KW (pl := pl) (thn (he pins s σ H _ I h) fun u s1 ⟨x, H1, I1, rx, a, dx, fs, ex, ea, l, q⟩ => ?_) ht
  subst ex
  obtain rfl : u = Value.ref a := rx
  refine getmeth_ok I1 ea c hm l ?_
  refine PySem.W.callWith_K (first := [.ref a]) (h₀ := X.base) I.ok.mod.kin hm.kp (thn (ha pos pins s1 σ H1 _ I1 q) fun us s2 ⟨vs, H2, I2, r, q2⟩ => ⟨I2.kIn, ?_⟩) hst hpl
  exact run_fn (us := .ref a :: us) (vs := .ref a :: vs) F hr hb hd hx I2 (.cons rfl r) q2
/-- o.m() -/
theorem pe_meth0 {pl : Sem Bool} (he : PE X o ta) (c : Cls X.K C) (hm : Meth X.K C m f) (F : FnOk X.prog X.w X.K X.mg X.base CX k f fd ps sp) (hr : Room k X.A) (hb : Binds X.K fd ps ds) (hd : Vals dvs ds) (hx : Passes CX X E)
    (ht : eval (.Call (.Attribute o m apos) [] [] pos) X.env = (do
      let ov ← eval o X.env
      standAt apos.atName
      let (f, first) ← holding [ov] (getMethod ov m pl)
      callWith pos f first (backTo pos (starEach [] X.env)) (backToKw pos (keywordEach [] X.env))) := by rfl) :
    PE X (.Call (.Attribute o m apos) [] [] pos) (tMeth C m sp dvs E ta tNil) := by
  intro pins s σ H Q I h
  refine PySem.W.methodCall_KW (pl := pl) (thn (he pins s σ H _ I h) fun u s1 ⟨x, H1, I1, rx, a, dx, fs, ex, ea, l, q⟩ => ?_) ht
  subst ex
  obtain rfl : u = Value.ref a := rx
  refine getmeth_ok I1 ea c hm l ?_
  exact PySem.W.callWith_K0 (first := [.ref a]) I1.kIn hm.kp (run_fn (us := [.ref a]) (vs := [.ref a]) F hr hb hd hx I1 (.cons rfl .nil) q)

/-- what a class must have to be made -/
structure Mk (K : PySem.W.Frag) (C f : Addr) : Prop where
  makes : PySem.W.makesIn K C = true
  init : PySem.W.findIn K (.ref C) "__init__" = some (some (.ref f))
  fn : PySem.W.isFn K (.ref f) = true
  kp : PySem.W.keepIn K (.ref C) = true

theorem run_make {pins : List (Addr × Obj)} {σ : St} {H : Hp} {s : Shared} {Q : VK} {us : List Value} {vs : List V} (M : Mk X.K C f) (F : FnOk X.prog X.w X.K X.mg X.base CX k f fd ps sp) (hr : Room (k + 1) X.A) (hb : Binds X.K fd ps ds) (hd : Vals dvs ds)
    (hx : Passes CX X E) (I : Inv X pins σ H s) (r : Vals vs us)
    (h : ∀ x dx, H x = none → H dx = none → dx ≠ x → sp (.ref x :: (vs ++ dvs)) (upd (upd H dx (.own x)) x (.ins C dx [])) (fun v H2 => v = .non ∧ Q (.ref x) H2) E) :
    wpAny (model X.prog X.w) X.A (call (.ref C) us) (EP X pins σ Q) X.xe s := by
  have hq := h (s.heap.objs.size + 1) s.heap.objs.size (I.hok.fresh (Nat.le_succ _)) (I.hok.fresh (Nat.le_refl _)) (Nat.ne_of_lt (Nat.lt_succ_self _))
  have I2 := Inv.made (C := C) I
  have r2 : Vals (V.ref (s.heap.objs.size + 1) :: (vs ++ dvs)) (Value.ref (s.heap.objs.size + 1) :: (us ++ ds)) := .cons rfl (r.append hd)
  have hl : (Value.ref (s.heap.objs.size + 1) :: us ++ ds).length = ps.length := by
    have e := r2.length
    rw [F.len _ _ _ _ hq] at e
    exact e.symm
  refine wpAny_call (make_map (f := f) I.kIn M.makes M.init (beq_iff_eq.mp M.fn) (codeAny_mono (F.run _ X.stack _ _ ⟨Value.ref (s.heap.objs.size + 1) :: us, []⟩ (Value.ref (s.heap.objs.size + 1) :: (us ++ ds)) _ _ E (hr.make C us [])
    (I2.env0.make C us []) (hb _ (Value.ref (s.heap.objs.size + 1) :: us) I2.kIn hl) r2 hq) fun r s' hq' => ?_))
  cases r with
  | error e => exact hx pins σ _ _ e s' I2 hq'
  | ok fl =>
    cases fl with
    | ret u =>
      obtain ⟨v, H', I3, rv, ev, q3⟩ := I2.after hq'
      subst ev
      exact ⟨rv, ⟨V.ref (s.heap.objs.size + 1), H', I3, rfl, q3⟩⟩
    | next => exact False.elim hq'
    | brk => exact False.elim hq'
    | cont => exact False.elim hq'
theorem pe_make (M : Mk X.K C f) (F : FnOk X.prog X.w X.K X.mg X.base CX k f fd ps sp) (hr : Room (k + 1) X.A) (hg : Gl X x) (hm : X.mg x = some (.ref C)) (hb : Binds X.K fd ps ds) (hd : Vals dvs ds) (hx : Passes CX X E)
    (ha : PA X (e :: es) t) (hdb : (x == ("__debug__" : Str)) = false := by decide) (he : starEach (e :: es) X.env = (false, eval e X.env) :: starEach es X.env := by rfl) (hpl : (backTo pos (starEach es X.env)).any (·.1) = false := by rfl) :
    PE X (.Call (.Name x p) (e :: es) [] pos) (tMake C sp dvs E t) := by
  intro pins s σ H Q I h
  refine wpAny_Call_Name_kw (ld_glob I hg hm ?_ hdb)
  refine PySem.W.callWith_K (h₀ := X.base) I.ok.mod.kin M.kp (thn (ha pos pins s σ H _ I h) fun us s1 ⟨vs, H1, I1, r, q⟩ => ⟨I1.kIn, ?_⟩) he hpl
  exact run_make M F hr hb hd hx I1 r q
theorem pe_make0 (M : Mk X.K C f) (F : FnOk X.prog X.w X.K X.mg X.base CX k f fd ps sp) (hr : Room (k + 1) X.A) (hg : Gl X x) (hm : X.mg x = some (.ref C)) (hb : Binds X.K fd ps ds) (hd : Vals dvs ds) (hx : Passes CX X E)
    (hdb : (x == ("__debug__" : Str)) = false := by decide) : PE X (.Call (.Name x p) [] [] pos) (tMake C sp dvs E tNil) := by
  intro pins s σ H Q I h
  refine wpAny_Call_Name_kw (ld_glob I hg hm ?_ hdb)
  exact PySem.W.callWith_K0 I.kIn M.kp (run_make (us := []) M F hr hb hd hx I .nil h)
end

/-! ### keywords -/
/-- the values of the keywords, from the left -/
def PK (X : Cx) (kws : List Keyword) (t : TA) : Prop :=
  ∀ (pos : Pos) (pins : List (Addr × Obj)) (s : Shared) (σ : St) (H : Hp) (Q : List V → Hp → Prop), Inv X pins σ H s → t σ H Q → wpAny (model X.prog X.w) X.A (evalAll ((backToKw pos (keywordEach kws X.env)).map (·.2))) (AP X pins σ Q) X.xe s
section
variable {X : Cx} {CX : CXT} {k : Nat} {f C : Addr} {fd : FuncData} {ps ks : List Str} {sp : Sp} {E : XK} {x m : Str} {p pos apos kpos : Pos} {e o : Expr} {es : List Expr} {kws : List Keyword} {te ta : TE} {t tk : TA} {nm : Option Str}
theorem pk_nil : PK X [] tNil := fun _ _ _ _ H Q I h => wpAny_evalAll_nil ⟨[], H, I, .nil, h⟩
theorem pk_cons (ha : PE X e te) (hr : PK X kws t) : PK X (⟨nm, e, kpos⟩ :: kws) (tCons te t) := by
  intro pos pins s σ H Q I h
  show wpAny _ _ (evalAll ((do let v ← eval e X.env; standAt pos; pure v) :: (backToKw pos (keywordEach kws X.env)).map (·.2))) _ _ s
  refine wpAny_evalAll_cons (wpAny_bind (thn (ha pins s σ H _ I h) fun u s1 ⟨x, H1, I1, r1, q1⟩ => wpAny_bind (wpAny_standAt (wpAny_pure ?_))))
  exact thn (hr pos pins s1 σ H1 _ I1 q1) fun us s2 ⟨xs, H2, I2, r2, q2⟩ => ⟨x :: xs, H2, I2, .cons r1 r2, q2⟩

/-- how a call with keywords binds: g puts the positional values us and the keywords' values ws (names ks) in the parameters' order, defaults among them -/
structure KBinds (K : PySem.W.Frag) (fd : FuncData) (ps ks : List Str) (g : List Value → List Value → List Value) (gV : List V → List V → List V) : Prop where
  to : ∀ (s : Shared) (us ws : List Value), K.In s.heap → (g us ws).length = ps.length → BindsTo s fd ⟨us, ks.zip ws⟩ (ps.zip (g us ws))
  rel : ∀ {vs : List V} {us : List Value} {zs : List V} {ws : List Value}, Vals vs us → Vals zs ws → Vals (gV vs zs) (g us ws)
def tCallK (sp : Sp) (gV : List V → List V → List V) (E : XK) (t tk : TA) : TE := fun σ H Q => t σ H fun vs H1 => tk σ H1 fun zs H2 => sp (gV vs zs) H2 Q E
variable {g : List Value → List Value → List Value} {gV : List V → List V → List V}
theorem run_fnk {pins : List (Addr × Obj)} {σ : St} {H : Hp} {s : Shared} {Q : VK} {us ws : List Value} {vs zs : List V} (F : FnOk X.prog X.w X.K X.mg X.base CX k f fd ps sp) (hr : Room k X.A) (hb : KBinds X.K fd ps ks g gV) (hx : Passes CX X E)
    (I : Inv X pins σ H s) (r : Vals vs us) (rz : Vals zs ws) (h : sp (gV vs zs) H Q E) : wpAny (model X.prog X.w) X.A (call (.ref f) us (ks.zip ws)) (EP X pins σ Q) X.xe s := by
  have r2 := hb.rel r rz
  have hl : (g us ws).length = ps.length := by rw [← r2.length]; exact F.len _ _ _ _ h
  refine wpAny_call (codeAny_mono (F.run X.A X.stack s H ⟨us, ks.zip ws⟩ (g us ws) (gV vs zs) Q E hr I.env0 (hb.to s us ws I.kIn hl) r2 h) fun r s' hq => ?_)
  cases r with
  | error e => exact hx pins σ H s e s' I hq
  | ok fl =>
    cases fl with
    | ret u => exact I.after hq
    | next => exact False.elim hq
    | brk => exact False.elim hq
    | cont => exact False.elim hq
/-- f(e, .., k = v, ..) -/
theorem pe_callK (F : FnOk X.prog X.w X.K X.mg X.base CX k f fd ps sp) (hr : Room k X.A) (hg : Gl X x) (hm : X.mg x = some (.ref f)) (hk : PySem.W.keepIn X.K (.ref f) = true) (hb : KBinds X.K fd ps ks g gV) (hx : Passes CX X E)
    (ha : PA X (e :: es) t) (hkw : PK X kws tk) (hall : (backToKw pos (keywordEach kws X.env)).all (·.1.isSome) = true := by rfl) (hks : (backToKw pos (keywordEach kws X.env)).filterMap (·.1) = ks := by rfl)
    (hdb : (x == ("__debug__" : Str)) = false := by decide) (he : starEach (e :: es) X.env = (false, eval e X.env) :: starEach es X.env := by rfl)
    (hpl : ((backTo pos (starEach (e :: es) X.env)).any (·.1) || (backToKw pos (keywordEach kws X.env)).any (·.1.isNone)) = false := by rfl) :
    PE X (.Call (.Name x p) (e :: es) kws pos) (tCallK sp gV E t tk) := by
  intro pins s σ H Q I h
  refine wpAny_Call_Name_kw (ld_glob I hg hm ?_ hdb)
  refine PySem.W.callWith_KW (h₀ := X.base) I.ok.mod.kin hk hall (thn (ha pos pins s σ H _ I h) fun us s1 ⟨vs, H1, I1, r, q⟩ => ?_) hpl he
  refine thn (hkw pos pins s1 σ H1 _ I1 q) fun ws s2 ⟨zs, H2, I2, rz, q2⟩ => ⟨I2.kIn, ?_⟩
  rw [hks]
  exact run_fnk F hr hb hx I2 r rz q2
end

/-! ### a def's body keeps its promise -/
/-- names: the parameters first -/
structure FnScope (N P : List Str) (sc : Scope) : Prop where
  kind : sc.kind = .function
  co : sc.isCoroutine = false
  gen : sc.isGenerator = false
  nd : N.Nodup
  pre : N.take P.length = P
  par : ∀ x ∈ P, sc.names.lookup x = some .local ∨ sc.names.lookup x = some .cell
  nofree : ∀ y ∈ sc.names, y.2 ≠ .free

theorem bindL_out {kindOf : Str → Option NameKind} {x : Str} : ∀ {binds : List (Str × Value)} {m : Str → Option Value}, (∀ v, (x, v) ∉ binds) → bindL kindOf binds m x = m x
  | [], _, _ => rfl
  | (n, v) :: r, m, h => by
    unfold bindL
    rw [bindL_out fun w hw => h w (List.mem_cons_of_mem _ hw)]
    split
    · have : x ≠ n := by rintro rfl; exact h v List.mem_cons_self
      simp [this]
    · rfl
theorem bindC_out {kindOf : Str → Option NameKind} {x : Str} : ∀ {binds : List (Str × Value)} {m : Str → Option Value}, (∀ v, (x, v) ∉ binds) → bindC kindOf binds m x = m x
  | [], _, _ => rfl
  | (n, v) :: r, m, h => by
    unfold bindC
    rw [bindC_out fun w hw => h w (List.mem_cons_of_mem _ hw)]
    split
    · rfl
    · have : x ≠ n := by rintro rfl; exact h v List.mem_cons_self
      simp [this]
theorem bindL_get {kindOf : Str → Option NameKind} {x : Str} {v : Value} : ∀ {P : List Str} {vs : List Value} {i : Nat} {m : Str → Option Value}, P.Nodup → P[i]? = some x → vs[i]? = some v → kindOf x = some .local →
    bindL kindOf (P.zip vs) m x = some v
  | [], _, _, _, _, h, _, _ => by simp at h
  | _ :: _, [], _, _, _, _, h, _ => by simp at h
  | p :: P, w :: vs, 0, m, nd, h1, h2, hk => by
    simp at h1 h2; subst h1; subst h2
    show bindL kindOf ((p, w) :: P.zip vs) m p = _
    unfold bindL
    rw [bindL_out fun v hv => (List.nodup_cons.mp nd).1 (List.of_mem_zip hv).1, if_pos hk]
    simp
  | p :: P, w :: vs, i + 1, m, nd, h1, h2, hk => by
    show bindL kindOf ((p, w) :: P.zip vs) m x = _
    unfold bindL
    exact bindL_get (i := i) (List.nodup_cons.mp nd).2 (by simpa using h1) (by simpa using h2) hk
theorem bindC_get {kindOf : Str → Option NameKind} {x : Str} {v : Value} : ∀ {P : List Str} {vs : List Value} {i : Nat} {m : Str → Option Value}, P.Nodup → P[i]? = some x → vs[i]? = some v → kindOf x ≠ some .local →
    bindC kindOf (P.zip vs) m x = some v
  | [], _, _, _, _, h, _, _ => by simp at h
  | _ :: _, [], _, _, _, _, h, _ => by simp at h
  | p :: P, w :: vs, 0, m, nd, h1, h2, hk => by
    simp at h1 h2; subst h1; subst h2
    show bindC kindOf ((p, w) :: P.zip vs) m p = _
    unfold bindC
    rw [bindC_out fun v hv => (List.nodup_cons.mp nd).1 (List.of_mem_zip hv).1, if_neg hk]
    simp
  | p :: P, w :: vs, i + 1, m, nd, h1, h2, hk => by
    show bindC kindOf ((p, w) :: P.zip vs) m x = _
    unfold bindC
    exact bindC_get (i := i) (List.nodup_cons.mp nd).2 (by simpa using h1) (by simpa using h2) hk

/-- the names' values at the entry -/
def start (N : List Str) (vs : List V) : St := vs.map some ++ List.replicate (N.length - vs.length) none

/-- the context of a def's body, at its entry; an exception leaves the frame, then lies as CX says -/
def cxOf (CX : CXT) (P : Program) (w : World) (K : PySem.W.Frag) (mg : Str → Option Value) (base : Heap) (N : List Str) (qual : Str) (scope : Scope) (f : Addr) (cd : Value) (A : Around) (outer : List Env) (s : Shared) (H : Hp) (E : XK) : Cx where
  prog := P
  w := w
  K := K
  mg := mg
  base := base
  A := A.deeper (envOfC qual scope s.heap.objs.size f cd)
  N := N
  s_0 := s
  H_0 := H
  env := envOfC qual scope s.heap.objs.size f cd
  outer := outer
  stack := envOfC qual scope s.heap.objs.size f cd :: outer
  ex := []
  calm := true
  fn := fun _ => true
  pn := []
  xe := fun e s' => wpAny (model P w) (A.deeper (envOfC qual scope s.heap.objs.size f cd)) (leaving (envOfC qual scope s.heap.objs.size f cd) e) (fun _ s'' => CX outer H s E e s'') (fun e' s'' => CX outer H s E e' s'') s'

theorem cell_has {sc : Scope} {n : Nat} {x : Str} (h : sc.names.lookup x = some .cell) : ∃ c, (cellsFrom n sc.names []).lookup x = some c := by
  have q := PySem.W.cellsFrom_some sc.names n [] (.inl h)
  exact Option.isSome_iff_exists.mp q

theorem inv_start {CX : CXT} {P : Program} {w : World} {K : PySem.W.Frag} {mg : Str → Option Value} {base : Heap} {N ps : List Str} {qual : Str} {scope : Scope} {f : Addr} {cd : Value} {A : Around} {outer : List Env} {s s1 : Shared} {H : Hp} {E : XK} {us : List Value} {vs : List V}
    (S : FnScope N ps scope) (hd : A.handled = none) (e0 : Env0 P w K mg base A outer s H) (hl : vs.length = ps.length) (r : Vals vs us)
    (x : InCallC s s.heap.objs.size (bindL (envOfC qual scope s.heap.objs.size f cd).kindOf (ps.zip us) fun _ => none) (cellsFrom (s.heap.objs.size + 1) scope.names []) (bindC (envOfC qual scope s.heap.objs.size f cd).kindOf (ps.zip us) fun _ => none) s1) :
    Inv (cxOf CX P w K mg base N qual scope f cd A outer s H E) [] (start N vs) H s1 := by
  have hpl : ps.length ≤ N.length := by have := congrArg List.length S.pre; rw [List.length_take] at this; omega
  obtain ⟨h1, tk, rfl, hk⟩ := x.done
  have noA : ∀ b : Addr, b ∉ (cxOf CX P w K mg base N qual scope f cd A outer s H E).ex := fun b z => absurd (show b ∈ ([] : List Addr) from z) (by simp)
  refine ⟨⟨e0.mod, S.kind, rfl, rfl, Nat.le_refl _, fun y z c h1 h2 => ?_, fun y hy => ?_, fun y c _ h => ?_, fun _ => hd, Around.frames_deeper e0.frames, .inr ⟨rfl, rfl⟩, fun b z => absurd z (noA b), e0.bs, e0.bsz, fun b _ _ => noA b, fun b z => absurd z (noA b), e0.funs, e0.frf⟩,
    rfl, e0.bare, Un.kept hk, ⟨_, x.toInCall.ns, fun i y v h1 h2 h3 => ?_⟩, fun y c h => ⟨_, x.cell y c h⟩, e0.hok.fresh (Nat.le_refl _), fun y c h => ?_, fun p hp => absurd (show p ∈ ([] : List (Addr × Obj)) from hp) (by simp), e0.hok.kept hk, ?_⟩
  · exact name_of_addr x.apart (PySem.mem_of_lookup h1) (PySem.mem_of_lookup h2)
  · have hy : scope.names.lookup y = some .cell ∨ scope.names.lookup y = some .free := hy
    rcases hy with hy | hy
    · exact cell_has hy
    · exact absurd rfl (S.nofree _ (PySem.mem_of_lookup hy))
  · exact Nat.le_of_lt (x.above y c (PySem.mem_of_lookup h))
  · have hi : i < vs.length := by
      unfold start at h2
      by_cases hi : i < vs.length
      · exact hi
      · rw [List.getElem?_append_right (by simpa using hi)] at h2
        rw [List.getElem?_replicate] at h2
        split at h2 <;> cases h2
    have ha : vs[i]? = some v := by
      unfold start at h2
      rw [List.getElem?_append_left (by simpa using hi), List.getElem?_map] at h2
      cases e : vs[i]? with
      | none => rw [e] at h2; cases h2
      | some a => rw [e] at h2; cases h2; rfl
    obtain ⟨u, hu, rv⟩ := r.get ha
    have hp : ps[i]? = some y := by
      rw [← S.pre, List.getElem?_take_of_lt (by omega)]; exact h1
    have ndP : ps.Nodup := by rw [← S.pre]; exact S.nd.sublist (List.take_sublist _ _)
    refine ⟨u, rv, ?_⟩
    rcases S.par y (List.mem_of_getElem? hp) with k | k
    · exact .inl ⟨k, bindL_get ndP hp hu k⟩
    · obtain ⟨c, e⟩ := cell_has (n := s.heap.objs.size + 1) k
      refine .inr ⟨.inl k, c, e, ?_⟩
      have q := x.cell y c e
      rw [bindC_get ndP hp hu (by show scope.names.lookup y ≠ _; rw [k]; decide)] at q
      exact q
  · exact e0.hok.fresh (Nat.le_of_lt (x.above y c (PySem.mem_of_lookup h)))
  · unfold start
    show _ = N.length
    rw [List.length_append, List.length_map, List.length_replicate]
    omega

/-- THE RULE: a def (or a method) of the text, by its body. The body's reading t is chosen for each entry; it is run at the parameters' values -/
theorem fn_of {CX : CXT} {P : Program} {w : World} {K : PySem.W.Frag} {mg : Str → Option Value} {base : Heap} {k : Nat} {f : Addr} {name qual : Str} {params : Arguments} {body : List Stmt} {scope : Scope} {dV kV doc pm cdv ct oc : Value} {an od : Option Addr}
    {osl : Array (Option Value)} {N ps : List Str} {sp : Sp} (lk : K.lookup f = some ⟨oc, od, .func (PySem.W.fnOf name qual params body scope dV kV doc pm an cdv ct), osl⟩) (hcd : PySem.W.codeIn K cdv qual = true) (S : FnScope N ps scope)
    (len : ∀ vs H Q E, sp vs H Q E → vs.length = ps.length)
    (hbody : ∀ (A : Around) (outer : List Env) (s : Shared) (H : Hp) (vs : List V) (Q : VK) (E : XK), Room k (A.deeper (envOfC qual scope s.heap.objs.size f cdv)) → sp vs H Q E →
      ∃ t, PSs (cxOf CX P w K mg base N qual scope f cdv A outer s H E) body t ∧ t { nx := fun _ H' => Q .non H', rt := Q } (start N vs) H) :
    FnOk P w K mg base CX (k + 1) f (PySem.W.fnOf name qual params body scope dV kV doc pm an cdv ct) ps sp := by
  refine ⟨len, fun A outer s H args us vs Q E hr e0 hb r hsp => ?_⟩
  have hl := len _ _ _ _ hsp
  have KX : K.In s.heap := e0.mod.kin.keeps fun b o e => (e0.bs b o e).1
  have lim : s.heap.NoLimit := e0.mod.nolimit.keeps fun b o e => (e0.bs b o e).1
  have hkind : ∀ y ∈ ps.zip us, scope.names.lookup y.1 = some .local ∨ (scope.names.lookup y.1 = some .cell ∧ ((cellsFrom (s.heap.objs.size + 1) scope.names []).lookup y.1).isSome = true) := fun ⟨n, v⟩ hy => by
    rcases S.par n (List.of_mem_zip hy).1 with q | q
    · exact .inl q
    · exact .inr ⟨q, PySem.W.cellsFrom_some _ _ _ (.inl q)⟩
  refine codeAny_call_function hr.depth (KX _ _ lk) rfl S.co S.gen rfl (PySem.W.codeRec_of KX hcd) (hb _ _ _ _ ?_)
  refine wpAny_newFunctionEnv_cells S.kind hkind fun env he s1 x => ?_
  subst he
  refine ⟨lim.keeps x.toInCall.keep, codeAny_func ?_⟩
  obtain ⟨t, ht, hq⟩ := hbody A outer s H vs Q E (hr.deeper _) hsp
  have I : Inv (cxOf CX P w K mg base N qual scope f cdv A outer s H E) [] (start N vs) H s1 := inv_start S hr.hd e0 hl r x
  refine wpAny_mono (ht [] s1 (start N vs) H _ I hq) (fun fl s' hs => ?_) fun e s' hs => hs
  have fin : ∀ {σ' : St} {H' : Hp} {v : V} {u : Value}, Inv (cxOf CX P w K mg base N qual scope f cdv A outer s H E) [] σ' H' s' → RelV v u → Q v H' → CE outer P w H s Q u s' :=
    fun {σ' H' v u} J rv q => ⟨v, H', J.os, J.bare, J.base, J.hok, rv, q⟩
  cases fl with
  | ret u =>
    obtain ⟨v, σ', H', J, rv, q⟩ := hs
    exact fin J rv q
  | next =>
    obtain ⟨σ', H', J, q⟩ := hs
    exact fin (v := V.non) (u := Value.none) J rfl q
  | brk =>
    obtain ⟨_, _, _, q⟩ := hs
    exact False.elim q
  | cont =>
    obtain ⟨_, _, _, q⟩ := hs
    exact False.elim q
end L2

namespace L2
open PySem PySem.Spec PyProof.Rows
section
variable {X : Cx} {x : Str} {p pos : Pos} {e : Expr} {es : List Expr} {t : TA} {id T : String} {r : List V → Hp → VK → Prop}

def tCB (r : List V → Hp → VK → Prop) (t : TA) : TE := fun σ H Q => t σ H fun vs H1 => r vs H1 Q
/-- f(e, ..), f a built-in function -/
theorem pe_callB (hc : CallR X (.builtin id) r) (hg : Gl X x) (hm : X.mg x = none) (hv : bootBuiltins x = some (.builtin id)) (ha : PA X (e :: es) t) (hn : x ≠ "__name__" := by decide) (hdb : (x == ("__debug__" : Str)) = false := by decide)
    (he : starEach (e :: es) X.env = (false, eval e X.env) :: starEach es X.env := by rfl) (hpl : (backTo pos (starEach es X.env)).any (·.1) = false := by rfl) : PE X (.Call (.Name x p) (e :: es) [] pos) (tCB r t) := by
  intro pins s σ H Q I h
  refine wpAny_Call_Name_kw (ld_blt I hg hm hv ?_ hn hdb)
  exact PyProof.Rows.callWith_builtin1 (thn (ha pos pins s σ H _ I h) fun us s1 ⟨vs, H1, I1, r1, q1⟩ => hc pins s1 σ H1 vs us Q I1 r1 q1) he hpl
/-- T(e, ..), T a built-in type -/
theorem pe_callTy (hc : CallR X (.type T) r) (hg : Gl X x) (hm : X.mg x = none) (hv : bootBuiltins x = some (.type T)) (ha : PA X (e :: es) t) (hn : x ≠ "__name__" := by decide) (hdb : (x == ("__debug__" : Str)) = false := by decide)
    (he : starEach (e :: es) X.env = (false, eval e X.env) :: starEach es X.env := by rfl) (hpl : (backTo pos (starEach es X.env)).any (·.1) = false := by rfl) : PE X (.Call (.Name x p) (e :: es) [] pos) (tCB r t) := by
  intro pins s σ H Q I h
  refine wpAny_Call_Name_kw (ld_blt I hg hm hv ?_ hn hdb)
  exact PyProof.Rows.callWith_type1 (thn (ha pos pins s σ H _ I h) fun us s1 ⟨vs, H1, I1, r1, q1⟩ => hc pins s1 σ H1 vs us Q I1 r1 q1) he hpl
/-- T() -/
theorem pe_callTy0 (hc : CallR X (.type T) r) (hg : Gl X x) (hm : X.mg x = none) (hv : bootBuiltins x = some (.type T)) (hn : x ≠ "__name__" := by decide) (hdb : (x == ("__debug__" : Str)) = false := by decide) :
    PE X (.Call (.Name x p) [] [] pos) (tCB r tNil) := by
  intro pins s σ H Q I h
  refine wpAny_Call_Name_kw (ld_blt I hg hm hv ?_ hn hdb)
  exact PyProof.Rows.callWith_type0 (hc pins s σ H [] [] Q I .nil h)
end
end L2

namespace HT
open PySem PyProof.Rows

/-- t < u of tuples of ints -/
def lexLt : List Int → List Int → Bool
  | [], [] => false
  | [], _ :: _ => true
  | _ :: _, [] => false
  | x :: xs, y :: ys => if x = y then lexLt xs ys else decide (x < y)
theorem lexLt_cons (x y : Int) (xs ys : List Int) : lexLt (x :: xs) (y :: ys) = if x = y then lexLt xs ys else decide (x < y) := rfl
theorem lexLt_nil_nil : lexLt [] [] = false := rfl
theorem lexLt_nil_cons (y : Int) (ys : List Int) : lexLt [] (y :: ys) = true := rfl
theorem lexLt_cons_nil (x : Int) (xs : List Int) : lexLt (x :: xs) [] = false := rfl

theorem eqAt_int (A : Around) (s : Shared) (a : Int) (t : Tok) (c : Int) (u : Tok) : ∃ e, SeqAt.EqAt A s (.int a t) (.int c u) e ∧ (e = true ↔ a = c) :=
  ⟨(a == c), SeqAt.EqAt.int_int a t c u, by simp⟩
theorem rcLt_int (A : Around) (s : Shared) (a : Int) (t : Tok) (c : Int) (u : Tok) (prog : Program) (w : World) (E : Value → Shared → Prop) (Q : Value → Shared → Prop) (h : Q (.bool (decide (a < c))) s) :
    wpAny (model prog w) A (richCompare .Lt (.int a t) (.int c u)) Q E s :=
  (PyProof.Rows.lt_int h : wpAny (model prog w) A (compareOp .Lt (.int a t) (.int c u)) Q E s)

section
open PySem.SeqAt
open PySem.AutoSeq1 (wpAny_loadPart')
open PySem.MeetsSeq PySem.MeetsSeq2 PySem.MeetsSeq3

theorem tuple_lt_ints (l b : Addr) (items items2 : Array Value) (n n2 : Nat) (dd dd2 : Option Addr) (sl sl2 : Array (Option Value)) (ns ms : List Int) (hi : IntsAre items.toList ns) (hj : IntsAre items2.toList ms) :
    Meets (Builtin.«tuple.__lt__» ⟨[.ref l, .ref b], []⟩)
      (fun _ R s => s.heap.get? l = some { cls := .type "tuple", dict := dd, data := .seq items n, slots := sl } ∧ s.heap.get? b = some { cls := .type "tuple", dict := dd2, data := .seq items2 n2, slots := sl2 } ∧
        R (.ok (.ret (.bool (lexLt ns ms)))) s) :=
  .of_wp fun prog w A R s h => by
    obtain ⟨hp, g, d, tk, os⟩ := s; obtain ⟨hl, hb, h⟩ := h
    have f2 := AutoSeq1.sub_tuple_tuple
    have z1 : items.size = ns.length := by rw [← hi.length]; simp
    have z2 : items2.size = ms.length := by rw [← hj.length]; simp
    wp_walk using wpAny_loadPart' hl, wpAny_loadPart' hb, wpAny_forIn_list _ (fun rest b s' => b.1 = none ∧ s' = ⟨hp, g, d, tk, os⟩ ∧ ∃ (vs ws : List Value) (ns' ms' : List Int), rest = vs.zip ws ∧
      IntsAre vs ns' ∧ IntsAre ws ms' ∧ ns'.length + items2.size = ms'.length + items.size ∧ R (.ok (.ret (.bool (lexLt ns' ms')))) ⟨hp, g, d, tk, os⟩) _
    case turn =>
      rintro ⟨y, x⟩ rest b s' ⟨hb', rfl, vs, ws, ns', ms', hz, hvi, hwi, hlen, hR⟩
      cases hvi with
      | nil => rw [List.zip_nil_left] at hz; cases hz
      | cons a t hvi' =>
        cases hwi with
        | nil => rw [List.zip_nil_right] at hz; cases hz
        | cons c u hwi' =>
          rw [List.zip_cons_cons] at hz
          injection hz with hyx hrest
          injection hyx with hy hx
          subst hy hx
          rw [lexLt_cons] at hR
          simp only [List.length_cons] at hlen
          obtain ⟨e, he, hiff⟩ := eqAt_int A.in1 ⟨hp, g, d, tk, os⟩ a t c u
          refine wpAny_bind (he prog w _ _ ?_)
          cases e with
          | true =>
            rw [if_pos (hiff.mp rfl)] at hR
            wp_walk
            exact ⟨rfl, rfl, _, _, _, _, hrest, hvi', hwi', by omega, hR⟩
          | false =>
            rw [if_neg (fun q => absurd (hiff.mpr q) Bool.false_ne_true)] at hR
            have hri := rcLt_int A.in1 ⟨hp, g, d, tk, os⟩ a t c u prog w
            wp_walk using hri
            exact ⟨_, rfl, by simpa using hR⟩
    case fin =>
      rintro ⟨b1, b2⟩ s' ⟨hb', rfl, vs, ws, ns', ms', hz, hvi, hwi, hlen, hR⟩
      simp only at hb'
      subst hb'
      have hv : lexLt ns' ms' = decide (items.size < items2.size) := by
        cases hvi with
        | nil =>
          cases hwi with
          | nil =>
            simp only [List.length_nil] at hlen
            rw [lexLt_nil_nil]
            exact (decide_eq_false (by omega)).symm
          | cons c u hw =>
            simp only [List.length_nil, List.length_cons] at hlen
            rw [lexLt_nil_cons]
            exact (decide_eq_true (by omega)).symm
        | cons a t hv =>
          cases hwi with
          | nil =>
            simp only [List.length_nil, List.length_cons] at hlen
            rw [lexLt_cons_nil]
            exact (decide_eq_false (by omega)).symm
          | cons c u hw =>
            rw [List.zip_cons_cons] at hz
            cases hz
      rw [hv] at hR
      wp_walk
      exact ⟨_, rfl, by simpa [Builtin.Tuple.tupleCompareSizes] using hR⟩
    case h =>
      exact ⟨rfl, rfl, items.toList, items2.toList, ns, ms, rfl, hi, hj, by omega, h⟩
end

section
variable {prog : Program} {w : World} {A : Around} {E : Value → Shared → Prop} {s : Shared}

theorem lt_tupInts {l b : Addr} {items items2 : Array Value} {ns ms : List Int} {Q : Value → Shared → Prop} (hl : IsTup s.heap l items) (hb : IsTup s.heap b items2) (hi : IntsAre items.toList ns) (hj : IntsAre items2.toList ms)
    (hu : A.units < cLine) (h : Q (.bool (lexLt ns ms)) s) : wpAny (model prog w) A (compareOp .Lt (.ref l) (.ref b)) Q E s := by
  obtain ⟨⟨cls, dd, data, sl⟩, ho, hc, n, hd⟩ := id hl
  obtain ⟨⟨cls2, dd2, data2, sl2⟩, ho2, hc2, n2, hd2⟩ := id hb
  simp only at hc hd hc2 hd2
  subst hc hd hc2 hd2
  exact richCompare_meets_room (op := .Lt) ⟨_, ho, rfl⟩ ⟨_, ho2, rfl⟩ PySem.F.slot_tuple_lt PySem.F.entry_tuple_lt (PySem.F.args_tuple_lt_2 _ _) (tuple_lt_ints l b items items2 n n2 dd dd2 sl sl2 ns ms hi hj)
    ⟨ho, ho2, show Value.bool (lexLt ns ms) ≠ Value.notImplemented ∧ Q (.bool (lexLt ns ms)) s from ⟨(fun x => nomatch x), h⟩⟩ hu

/-- t + u, t not empty -/
theorem cat_tup {t b : Addr} {vs ws : List Value} {Q : Value → Shared → Prop} (ht : IsTup s.heap t vs.toArray) (hb : IsTup s.heap b ws.toArray) (hv : vs ≠ [])
    (h1 : ws = [] → Q (.ref t) s) (h2 : ws ≠ [] → Q (.ref s.heap.objs.size) { s with heap := s.heap.push { cls := .type "tuple", data := .seq (vs ++ ws).toArray } })
    (hsz : vs.length + ws.length ≤ sizeLine) : wpAny (model prog w) A (binaryOp .Add (.ref t) (.ref b)) Q E s := by
  obtain ⟨⟨cls, dd, data, sl⟩, ho, hc, n, hd⟩ := id ht
  obtain ⟨⟨cls2, dd2, data2, sl2⟩, ho2, hc2, n2, hd2⟩ := id hb
  simp only at hc hd hc2 hd2
  subst hc hd hc2 hd2
  have e : vs.toArray ++ ws.toArray = (vs ++ ws).toArray := by simp
  by_cases hw : ws = []
  · exact concat_meets ⟨_, ho, rfl⟩ ⟨_, ho2, rfl⟩ noFill_tuple_add seq_tuple_add PySem.F.slot_tuple_add PySem.F.entry_tuple_add (PySem.F.args_tuple_add_2 _ _)
      (tuple_addW1 t b vs.toArray ws.toArray n n2 dd dd2 sl sl2 (by simpa using hv) (by simp [hw])) ⟨ho, ho2, h1 hw⟩
  · refine concat_meets ⟨_, ho, rfl⟩ ⟨_, ho2, rfl⟩ noFill_tuple_add seq_tuple_add PySem.F.slot_tuple_add PySem.F.entry_tuple_add (PySem.F.args_tuple_add_2 _ _)
      (tuple_addW2 t b vs.toArray ws.toArray n n2 dd dd2 sl sl2 (by simpa using hv) (by simpa using hw) (by rw [List.size_toArray, List.size_toArray]; exact hsz)) ⟨ho, ho2, ?_⟩
    rw [e]
    exact h2 hw

/-! ### t[a:b], not the whole -/
/-- a slice's bound as a place among n (d where it is left out) -/
def sIx (n d : Nat) : Option Int → Nat
  | none => d
  | some v => if v < 0 then (v + (n : Int)).toNat else min v.toNat n
theorem sIx_none (n d : Nat) : sIx n d none = d := rfl
theorem sIx_nat (n d k : Nat) : sIx n d (some (k : Int)) = min k n := by
  show (if (k : Int) < 0 then ((k : Int) + (n : Int)).toNat else min (k : Int).toNat n) = min k n
  rw [if_neg (by omega), Int.toNat_natCast]
theorem sIx_le (n d : Nat) (hd : d ≤ n) (o : Option Int) : sIx n d o ≤ n := by
  cases o with
  | none => exact hd
  | some v =>
    show (if v < 0 then (v + (n : Int)).toNat else min v.toNat n) ≤ n
    by_cases hv : v < 0
    · rw [if_pos hv]; omega
    · rw [if_neg hv]; exact Nat.min_le_right _ _
theorem clip_eq (v : Int) (n d : Nat) : (if v < 0 then max (v + (n : Int)) 0 else min v (n : Int)) = ((sIx n d (some v) : Nat) : Int) := by
  show (if v < 0 then max (v + (n : Int)) 0 else min v (n : Int)) = (((if v < 0 then (v + (n : Int)).toNat else min v.toNat n) : Nat) : Int)
  by_cases hv : v < 0
  · simp only [if_pos hv]; omega
  · simp only [if_neg hv]; omega
theorem adjust_gen (lo hi : Option Int) (n : Nat) : Builtin.Slice.sliceAdjust lo hi 1 (n : Int) = (((sIx n 0 lo : Nat) : Int), ((sIx n n hi : Nat) : Int)) := by
  have h1 : ¬ ((1 : Int) < 0) := by omega
  unfold Builtin.Slice.sliceAdjust
  simp only [h1, if_false]
  refine Prod.ext ?_ ?_
  · cases lo with
    | none => rfl
    | some v => exact clip_eq v n 0
  · cases hi with
    | none => rfl
    | some v => exact clip_eq v n n
theorem places_gen (i j : Nat) : Builtin.Slice.slicePlaces (i : Int) (j : Int) 1 = j - i := by
  unfold Builtin.Slice.slicePlaces
  have h1 : (1 : Int) > 0 := by omega
  simp only [h1, if_true, Int.ediv_one]
  split <;> omega
theorem slicePart_ {v : Value} {o : Option Int} {Q : Option Int → Shared → Prop} (p : IsPart v o) (h : Q o s) : wpAny (model prog w) A (Builtin.Slice.slicePartIndex v) Q E s := by
  cases p with
  | none => exact slicePart_none h
  | int i t => exact slicePart_int h
theorem sliceApplied_gen {sl : Addr} {vl vu : Value} {lo hi : Option Int} {n : Nat} {Q : Int × Int × Nat → Shared → Prop} (hs : s.heap.IsSliceOf sl vl vu .none) (pl : IsPart vl lo) (pu : IsPart vu hi)
    (h : Q (((sIx n 0 lo : Nat) : Int), 1, sIx n n hi - sIx n 0 lo) s) : wpAny (model prog w) A (Builtin.Slice.sliceApplied (.ref sl) (pure (n : Int))) Q E s := by
  obtain ⟨os, hos, hcs, hds⟩ := id hs
  unfold Builtin.Slice.sliceApplied Builtin.Slice.sliceFields
  refine wpAny_bind (wpAny_bind (wpAny_field hos hds (x := vl) rfl (wpAny_bind (wpAny_field hos hds (x := vu) rfl (wpAny_bind (wpAny_field hos hds (x := .none) rfl (wpAny_pure ?_)))))))
  refine wpAny_bind (slicePart_none ?_)
  show wpAny _ _ (if ((1 : Int) == 0) = true then _ else _) _ _ s
  rw [if_neg (by decide)]
  refine wpAny_bind (slicePart_ pl (wpAny_bind (slicePart_ pu (wpAny_bind (wpAny_pure ?_)))))
  show wpAny _ _ (match Builtin.Slice.sliceAdjust lo hi 1 (n : Int) with | (lo, hi) => pure (lo, (1 : Int), Builtin.Slice.slicePlaces lo hi 1)) _ _ s
  rw [adjust_gen lo hi n]
  show wpAny _ _ (pure (((sIx n 0 lo : Nat) : Int), (1 : Int), Builtin.Slice.slicePlaces ((sIx n 0 lo : Nat) : Int) ((sIx n n hi : Nat) : Int) 1)) _ _ s
  rw [places_gen]
  exact wpAny_pure h
theorem pick_gen (xs : Array Value) (i k : Nat) : ((List.range k).filterMap fun (m : Nat) => xs[((i : Int) + (m : Int) * 1).toNat]?).toArray = ((xs.toList.drop i).take k).toArray := by
  have e : (fun (m : Nat) => xs[((i : Int) + (m : Int) * 1).toNat]?) = fun m => xs[i + m]? := by
    funext m
    have : ((i : Int) + (m : Int) * 1).toNat = i + m := by omega
    rw [this]
  rw [e]
  have := pick_run xs i k
  rw [List.filterMap_map] at this
  have e2 : ((fun x => xs[x]?) ∘ fun x => i + x) = fun m => xs[i + m]? := rfl
  rw [e2] at this
  rw [this]

theorem getItem_tuple_cut {t sl : Addr} {items : Array Value} {vl vu : Value} {lo hi : Option Int} {Q : Value → Shared → Prop} (ht : IsTup s.heap t items) (hs : s.heap.IsSliceOf sl vl vu .none) (pl : IsPart vl lo) (pu : IsPart vu hi)
    (hw : ¬ (sIx items.size 0 lo = 0 ∧ sIx items.size items.size hi = items.size))
    (h : Q (.ref s.heap.objs.size) { s with heap := s.heap.push { cls := .type "tuple", data := .seq ((items.toList.drop (sIx items.size 0 lo)).take (sIx items.size items.size hi - sIx items.size 0 lo)).toArray } })
    (hsz : items.size ≤ sizeLine) : wpAny (model prog w) A (getItem (.ref t) (.ref sl)) Q E s := by
  have htake : sizeOk (.seq ((items.toList.drop (sIx items.size 0 lo)).take (sIx items.size items.size hi - sIx items.size 0 lo)).toArray) := by
    show ((items.toList.drop (sIx items.size 0 lo)).take (sIx items.size items.size hi - sIx items.size 0 lo)).toArray.size ≤ sizeLine
    rw [List.size_toArray, List.length_take, List.length_drop, Array.length_toList]
    omega
  have hj : sIx items.size items.size hi ≤ items.size := sIx_le _ _ (Nat.le_refl _) hi
  obtain ⟨os, hos, hcs, hds⟩ := id hs
  have hTs : s.TypeIs (.ref sl) "slice" := ⟨os, hos, hcs⟩
  unfold getItem
  try with_reducible refine wpAny_holding ?_
  first | refine wpAny_bind (wpAny_pure ?_) | skip
  refine wpAny_bind (wpAny_sequenceKey ht.typeIs (by decide) ?_)
  refine wpAny_bind (wpAny_callSpecial?_slot (name := Str.ofString "__getitem__") ht.typeIs PyProof.Rows.slot_tuple_getitem
    (wpAny_call_entry PyProof.Rows.slot_tuple_getitem ht.typeIs entry_tuple_getitem ?_ (args_tuple_getitem _ _)))
  show wpAny _ _ (Builtin.Tuple.tupleItemsOf (.ref t) >>= _) _ _ s
  refine wpAny_bind (tupleItemsOf_ ht ?_)
  refine wpAny_bind (wpAny_typeOf hTs ?_)
  rw [if_pos (by decide)]
  refine wpAny_bind (sliceApplied_gen hs pl pu ?_)
  have hno : ¬ ((((sIx items.size 0 lo : Nat) : Int) == 0 && (1 : Int) == 1 && (sIx items.size items.size hi - sIx items.size 0 lo) == items.size) = true) := by
    intro q
    rw [Bool.and_eq_true, Bool.and_eq_true] at q
    have q1 : ((sIx items.size 0 lo : Nat) : Int) = 0 := eq_of_beq q.1.1
    have q2 : sIx items.size items.size hi - sIx items.size 0 lo = items.size := eq_of_beq q.2
    exact hw ⟨by omega, by omega⟩
  show wpAny _ _ (if (((sIx items.size 0 lo : Nat) : Int) == 0 && (1 : Int) == 1 && (sIx items.size items.size hi - sIx items.size 0 lo) == items.size) = true then _ else _) _ _ s
  rw [if_neg hno, pick_gen]
  first
    | exact wpAny_bind (m := Builtin.Tuple.tupleExact _) (wpAny_newObj_type (wpAny_pure ⟨_, rfl, wpAny_pure h⟩) htake)
    | exact wpAny_bind (m := Builtin.Tuple.tupleExact _) (wpAny_newObj_type (wpAny_bind (wpAny_pure (wpAny_pure ⟨_, rfl, wpAny_pure h⟩))) htake)
    | exact wpAny_bind (wpAny_bind (m := Builtin.Tuple.tupleExact _) (wpAny_newObj_type (wpAny_pure (wpAny_pure ⟨_, rfl, wpAny_pure h⟩)) htake))
    | exact wpAny_bind (wpAny_bind (m := Builtin.Tuple.tupleExact _) (wpAny_newObj_type (wpAny_pure ⟨_, rfl, wpAny_pure h⟩) htake))
end
end HT

namespace L2
open PySem PySem.Spec PyProof.Rows

/-! ### the parts of a slice -/
abbrev TO := St → Hp → (Option Int → Hp → Prop) → Prop
/-- a slice's part (left out, or an int) -/
def PO (X : Cx) (e : Option Expr) (t : TO) : Prop :=
  ∀ (pins : List (Addr × Obj)) (s : Shared) (σ : St) (H : Hp) (Q : Option Int → Hp → Prop), Inv X pins σ H s → t σ H Q →
    wpAny (model X.prog X.w) X.A (evalPart e X.env) (fun u s' => ∃ o H', Inv X pins σ H' s' ∧ IsPart u o ∧ Q o H') X.xe s
def tNoPart : TO := fun _ H Q => Q none H
def tPart (t : TE) : TO := fun σ H Q => t σ H fun x H1 => ∃ i, x = .int i ∧ Q (some i) H1

theorem intsAre_of {ns : List Int} : ∀ {us : List Value}, Vals (ns.map V.int) us → IntsAre us ns := by
  induction ns with
  | nil => intro us r; rw [List.map_nil] at r; cases r; exact .nil
  | cons n ns ih =>
    intro us r
    rw [List.map_cons] at r
    cases r with
    | cons r1 r2 =>
      obtain ⟨t, e⟩ := r1
      subst e
      exact .cons n t (ih r2)

section
variable {X : Cx} {e : Expr} {te : TE} {lo hi : Option Expr} {tl th : TO} {pos p2 : Pos}

theorem po_none : PO X none tNoPart := by
  intro pins s σ H Q I h
  rw [evalPart_none]
  exact wpAny_pure ⟨none, H, I, .none, h⟩
theorem po_some (h : PE X e te) : PO X (some e) (tPart te) := by
  intro pins s σ H Q I hw
  rw [evalPart_some]
  refine thn (h pins s σ H _ I hw) fun u s1 ⟨x, H1, I1, r1, q1⟩ => ?_
  obtain ⟨i, rfl, q⟩ := q1
  obtain ⟨t, rfl⟩ := r1
  exact ⟨some i, H1, I1, .int i t, q⟩

/-- what a slice of a value is, by values: the slice object stands at sl -/
def SlR (X : Cx) (r : V → Option Int → Option Int → Hp → VK → Prop) : Prop :=
  ∀ (pins : List (Addr × Obj)) (s : Shared) (σ : St) (H : Hp) (x : V) (v vl vu : Value) (lo hi : Option Int) (sl : Addr) (Q : VK), Inv X pins σ H s → RelV x v → s.heap.IsSliceOf sl vl vu .none → IsPart vl lo → IsPart vu hi → r x lo hi H Q →
    ∃ T id, typeLookup (.type T) "__getitem__" = pure (some (.builtin id)) ∧ s.TypeIs v T ∧ wpAny (model X.prog X.w) X.A (getItem v (.ref sl)) (EP X pins σ Q) X.xe s
theorem SlR.or {r r' : V → Option Int → Option Int → Hp → VK → Prop} (h : SlR X r) (h' : SlR X r') : SlR X (fun x lo hi H Q => r x lo hi H Q ∨ r' x lo hi H Q) := by
  intro pins s σ H x v vl vu lo hi sl Q I rx hs pl pu q
  rcases q with q | q
  · exact h pins s σ H x v vl vu lo hi sl Q I rx hs pl pu q
  · exact h' pins s σ H x v vl vu lo hi sl Q I rx hs pl pu q
def tSl (r : V → Option Int → Option Int → Hp → VK → Prop) (te : TE) (tl th : TO) : TE := fun σ H Q => te σ H fun x H1 => tl σ H1 fun l H2 => th σ H2 fun u H3 => r x l u H3 Q
/-- a[lo:hi], any a -/
theorem pe_slice {r : V → Option Int → Option Int → Hp → VK → Prop} (hr : SlR X r) (he : PE X e te) (hl : PO X lo tl) (hu : PO X hi th) : PE X (.Subscript e (.Slice lo hi none p2) pos) (tSl r te tl th) := by
  intro pins s σ H Q I h
  refine Subscript_ (thn (he pins s σ H _ I h) fun v s1 ⟨x, H1, I1, r1, q1⟩ => ?_)
  refine wpAny_Slice (thn (hl pins s1 σ H1 _ I1 q1) fun vl s2 ⟨l, H2, I2, pl, q2⟩ => thn (hu pins s2 σ H2 _ I2 q2) fun vu s3 ⟨u, H3, I3, pu, q3⟩ => ?_)
  rw [evalPart_none]
  refine wpAny_pure ?_
  have I4 : Inv X pins σ H3 { s3 with heap := s3.heap.push { cls := .type "slice", data := .fields #[vl, vu, .none] } } := I3.kept (t' := s3.toks) fun b ob q => Heap.get?_push_of_some _ q
  obtain ⟨T, id, hT, ht, hg⟩ := hr pins { s3 with heap := s3.heap.push { cls := .type "slice", data := .fields #[vl, vu, .none] } } σ H3 x v vl vu l u s3.heap.objs.size Q I4 r1 (Heap.IsSliceOf.new ..) pl pu q3
  show wpAny (model X.prog X.w) X.A (subscriptTail e (.Slice lo hi none p2) v (.ref s3.heap.objs.size)) (EP X pins σ Q) X.xe { s3 with heap := s3.heap.push { cls := .type "slice", data := .fields #[vl, vu, .none] } }
  exact tail_any (ops := [.ref s3.heap.objs.size, v]) ht hT hg (by with_unfolding_all rfl)

/-- the items of xs[lo:hi] -/
def cutV (xs : List V) (lo hi : Option Int) : List V := (xs.drop (HT.sIx xs.length 0 lo)).take (HT.sIx xs.length xs.length hi - HT.sIx xs.length 0 lo)
theorem cutV_length (xs : List V) (lo hi : Option Int) : (cutV xs lo hi).length ≤ xs.length := by
  unfold cutV
  rw [List.length_take, List.length_drop]
  omega
/-- t[lo:hi], not the whole of it (the whole would be t itself) -/
def rSlT (K : PySem.W.Frag) : V → Option Int → Option Int → Hp → VK → Prop := fun x lo hi H Q => ∃ a xs, x = .ref a ∧ SqT K H a xs ∧
  ¬ (HT.sIx xs.length 0 lo = 0 ∧ HT.sIx xs.length xs.length hi = xs.length) ∧ ∀ p, H p = none → Q (.ref p) (upd H p (.tup (cutV xs lo hi)))
theorem sl_tup : SlR X (rSlT X.K) := by
  intro pins s σ H x v vl vu lo hi sl Q I rx hs pl pu h
  obtain ⟨a, xs, rfl, hx, hw, q⟩ := h
  cases rx
  obtain ⟨its, r, ht, hz⟩ := I.tuple hx
  have hlen : its.toArray.size = xs.length := by rw [List.size_toArray]; exact r.length.symm
  refine ⟨"tuple", _, PyProof.Rows.slot_tuple_getitem.lookup, ht.typeIs, ?_⟩
  refine HT.getItem_tuple_cut ht hs pl pu (by rw [hlen]; exact hw) ?_ (by rw [hlen]; exact hz)
  rw [hlen]
  refine ⟨.ref s.heap.objs.size, _, I.laid (t' := s.toks) (o := .tup (cutV xs lo hi)) (fun b ob q => Heap.get?_push_of_some _ q) (Nat.le_refl _) ?_, rfl, q _ (I.hok.fresh (Nat.le_refl _))⟩
  exact ⟨Nat.le_trans (cutV_length xs lo hi) hz, _, (r.drop (HT.sIx xs.length 0 lo)).take (HT.sIx xs.length xs.length hi - HT.sIx xs.length 0 lo), IsTup.new _ _⟩

/-! ### t < u, t + u -/
def rLtT (K : PySem.W.Frag) : R2 := fun x y H Q => ∃ a b ns ms, x = .ref a ∧ y = .ref b ∧ SqT K H a (ns.map V.int) ∧ SqT K H b (ms.map V.int) ∧ Q (.bl (HT.lexLt ns ms)) H
theorem op_ltT (hu : X.A.units < cLine) : OpR X (compareOp .Lt) (rLtT X.K) := by
  intro pins s σ H x y v u Q I rx ry h
  obtain ⟨a, b, ns, ms, rfl, rfl, ha, hb, q⟩ := h
  cases rx
  cases ry
  obtain ⟨its, r1, p1, _⟩ := I.tuple ha
  obtain ⟨its2, r2, p2, _⟩ := I.tuple hb
  have i1 : IntsAre its.toArray.toList ns := intsAre_of r1
  have i2 : IntsAre its2.toArray.toList ms := intsAre_of r2
  exact HT.lt_tupInts p1 p2 i1 i2 hu ⟨.bl (HT.lexLt ns ms), H, I, rfl, q⟩
/-- t + u, t not empty: u empty gives t itself -/
def rCatT (K : PySem.W.Frag) : R2 := fun x y H Q => ∃ a b xs ys, x = .ref a ∧ y = .ref b ∧ SqT K H a xs ∧ SqT K H b ys ∧ xs ≠ [] ∧ xs.length + ys.length ≤ sizeLine ∧
  (ys = [] → Q (.ref a) H) ∧ (ys ≠ [] → ∀ p, H p = none → Q (.ref p) (upd H p (.tup (xs ++ ys))))
theorem Vals.nil_iff {xs : List V} {us : List Value} (r : Vals xs us) : us = [] ↔ xs = [] := by
  cases r with
  | nil => simp
  | cons _ _ => simp
theorem op_catT : OpR X (binaryOp .Add) (rCatT X.K) := by
  intro pins s σ H x y v u Q I rx ry h
  obtain ⟨a, b, xs, ys, rfl, rfl, ha, hb, hx, hz, q1, q2⟩ := h
  cases rx
  cases ry
  obtain ⟨its, r1, p1, _⟩ := I.tuple ha
  obtain ⟨its2, r2, p2, _⟩ := I.tuple hb
  refine HT.cat_tup p1 p2 (fun z => hx (r1.nil_iff.mp z)) (fun z => ⟨.ref a, H, I, rfl, q1 (r2.nil_iff.mp z)⟩) (fun z => ?_) (by rw [← r1.length, ← r2.length]; exact hz)
  refine ⟨.ref s.heap.objs.size, _, I.laid (t' := s.toks) (o := .tup (xs ++ ys)) (fun b ob q => Heap.get?_push_of_some _ q) (Nat.le_refl _) ?_, rfl, q2 (fun w => z (r2.nil_iff.mpr w)) _ (I.hok.fresh (Nat.le_refl _))⟩
  exact ⟨by rw [List.length_append]; exact hz, _, r1.append r2, IsTup.new _ _⟩
/-- tuple(t) -/
theorem call_tupleT : CallR X (.type "tuple") (fun xs H Q => ∃ a ys, xs = [.ref a] ∧ SqT X.K H a ys ∧ Q (.ref a) H) := by
  intro pins s σ H xs us Q I r h
  obtain ⟨a, ys, rfl, ha, q⟩ := h
  obtain ⟨u, rfl, ru⟩ := vals1 r
  cases ru
  obtain ⟨its, _, p1, _⟩ := I.tuple ha
  exact call_tuple_same (items := its.toArray) p1 ⟨.ref a, H, I, rfl, q⟩
end
end L2

namespace L2
open PySem PySem.Spec PyProof.Rows

/-! ### places -/
/-- the place that an index of any sign means -/
def ixN (n : Nat) (i : Int) : Option Nat := if 0 ≤ i then (if i < n then some i.toNat else none) else if -(n : Int) ≤ i then some (i + n).toNat else none
def atI {α : Type} (xs : List α) (i : Int) : Option α := (ixN xs.length i).bind fun j => xs[j]?
theorem ixN_seq {n : Nat} {i : Int} {j : Nat} (h : ixN n i = some j) : seqIndex? i n = some j ∧ j < n ∧ -(n : Int) ≤ i ∧ i < n := by
  unfold ixN at h
  by_cases h0 : 0 ≤ i
  · rw [if_pos h0] at h
    by_cases h1 : i < n
    · rw [if_pos h1] at h
      have e : i.toNat = j := Option.some.inj h
      exact ⟨by rw [seqIndex_of h0 h1, e], by omega, by omega, h1⟩
    · rw [if_neg h1] at h; cases h
  · rw [if_neg h0] at h
    by_cases h1 : -(n : Int) ≤ i
    · rw [if_pos h1] at h
      have e : (i + n).toNat = j := Option.some.inj h
      exact ⟨by rw [seqIndex_neg (by omega) h1, e], by omega, h1, by omega⟩
    · rw [if_neg h1] at h; cases h
theorem atI_get {α : Type} {xs : List α} {i : Int} {v : α} (h : atI xs i = some v) : ∃ j, seqIndex? i xs.length = some j ∧ xs[j]? = some v ∧ j < xs.length ∧ -(xs.length : Int) ≤ i ∧ i < xs.length := by
  unfold atI at h
  cases e : ixN xs.length i with
  | none => rw [e] at h; cases h
  | some j =>
    rw [e] at h
    obtain ⟨h1, h2, h3, h4⟩ := ixN_seq e
    exact ⟨j, h1, h, h2, h3, h4⟩
theorem atI_nat {α : Type} {xs : List α} {j : Nat} {v : α} (h : xs[j]? = some v) : atI xs (j : Int) = some v := by
  have hj : j < xs.length := (List.getElem?_eq_some_iff.mp h).1
  have e : ixN xs.length (j : Int) = some j := by
    unfold ixN
    rw [if_pos (by omega), if_pos (by omega)]; simp
  unfold atI; rw [e]; exact h
theorem atI_last {α : Type} (xs : List α) (v : α) : atI (xs ++ [v]) (-1) = some v := by
  have hl : (xs ++ [v]).length = xs.length + 1 := by simp
  have e : ixN (xs ++ [v]).length (-1) = some xs.length := by
    unfold ixN
    rw [hl, if_neg (by decide), if_pos (by omega)]
    congr 1
    omega
  unfold atI
  rw [e]
  show (xs ++ [v])[xs.length]? = some v
  simp

/-! ### what may be subscripted -/
/-- what stands as an index of a plain subscript -/
def PlainIx (b : Expr) : Prop := ∀ o i, subscripted b false o i = operate [o, i] (getItem o i)
/-- a subscript by values -/
def IxR (X : Cx) (r : R2) : Prop :=
  ∀ (value slice : Expr) (pins : List (Addr × Obj)) (s : Shared) (σ : St) (H : Hp) (x y : V) (v u : Value) (Q : VK), Inv X pins σ H s → RelV x v → RelV y u → r x y H Q →
    subscripted slice false v u = operate [v, u] (getItem v u) → wpAny (model X.prog X.w) X.A (subscriptTail value slice v u) (EP X pins σ Q) X.xe s
/-- a call of a builtin's method by values: the receiver, the arguments -/
def MtR (X : Cx) (id : String) (r : V → List V → Hp → VK → Prop) : Prop :=
  ∀ (pins : List (Addr × Obj)) (s : Shared) (σ : St) (H : Hp) (x : V) (xs : List V) (v : Value) (us : List Value) (Q : VK), Inv X pins σ H s → RelV x v → Vals xs us → r x xs H Q →
    wpAny (model X.prog X.w) X.A (call (.builtin id) (v :: us)) (EP X pins σ Q) X.xe s
section
variable {X : Cx} {a b : Expr} {ta tb : TE} {pos : Pos}
theorem IxR.or {r r' : R2} (h : IxR X r) (h' : IxR X r') : IxR X (fun x y H Q => r x y H Q ∨ r' x y H Q) := by
  intro value slice pins s σ H x y v u Q I rx ry q hs
  rcases q with q | q
  · exact h value slice pins s σ H x y v u Q I rx ry q hs
  · exact h' value slice pins s σ H x y v u Q I rx ry q hs
theorem MtR.or {id : String} {r r' : V → List V → Hp → VK → Prop} (h : MtR X id r) (h' : MtR X id r') : MtR X id (fun x xs H Q => r x xs H Q ∨ r' x xs H Q) := by
  intro pins s σ H x xs v us Q I rx rs q
  rcases q with q | q
  · exact h pins s σ H x xs v us Q I rx rs q
  · exact h' pins s σ H x xs v us Q I rx rs q
/-- a[b] -/
theorem pe_ix {r : R2} (hr : IxR X r) (ha : PE X a ta) (hb : PE X b tb) (hs : PlainIx b) : PE X (.Subscript a b pos) (tOp r ta tb) := by
  intro pins s σ H Q I h
  exact Subscript_ (binT ha hb I h fun v u s2 x y H2 I2 rx ry q => hr a b pins s2 σ H2 x y v u Q I2 rx ry q (hs _ _))

def rIxL (K : PySem.W.Frag) : R2 := fun x y H Q => ∃ p xs i v, x = .ref p ∧ y = .int i ∧ SqL K H p xs ∧ atI xs i = some v ∧ Q v H
def rIxT (K : PySem.W.Frag) : R2 := fun x y H Q => ∃ p xs i v, x = .ref p ∧ y = .int i ∧ SqT K H p xs ∧ atI xs i = some v ∧ Q v H
def rIxS : R2 := fun x y H Q => ∃ z i c, x = .str z ∧ y = .int i ∧ z.length ≤ sizeLine ∧ atI z.cps.toList i = some c ∧ Q (.str ⟨#[c]⟩) H
theorem ix_list : IxR X (rIxL X.K) := by
  intro value slice pins s σ H x y v u Q I rx ry h hs
  obtain ⟨p, xs, i, z, rfl, rfl, hq, he, q⟩ := h
  cases rx
  obtain ⟨t, rfl⟩ := ry
  obtain ⟨its, r, pl, hz⟩ := I.list hq
  obtain ⟨j, h1, h2, h3, h4, h5⟩ := atI_get he
  obtain ⟨w, ew, rw'⟩ := r.get h2
  have hl := r.length
  have hn := line63
  have fin : EP X pins σ Q w s := ⟨z, H, I, rw', q⟩
  by_cases h0 : 0 ≤ i
  · have hj : i.toNat = j := by
      rw [seqIndex_of h0 h5] at h1
      exact Option.some.inj h1
    exact item_listR pl.isList h0 (by omega) (by rw [hj]; simpa using ew) fin hs
  · have hj : (i + (its.toArray.size : Int)).toNat = j := by
      rw [seqIndex_neg (by omega) h4] at h1
      rw [List.size_toArray, ← hl]
      exact Option.some.inj h1
    exact subscriptTail_builtinR (x := w) pl.isList.typeIs slot_list_getitem.lookup
      (wpAny_getItem_list_neg (Q := fun r s' => r = w ∧ EP X pins σ Q r s') pl.isList (by omega) (by rw [List.size_toArray] <;> omega) (by omega) (by rw [hj]; simpa using ew) ⟨rfl, fin⟩) hs
theorem ix_tup : IxR X (rIxT X.K) := by
  intro value slice pins s σ H x y v u Q I rx ry h hs
  obtain ⟨p, xs, i, z, rfl, rfl, hq, he, q⟩ := h
  cases rx
  obtain ⟨t, rfl⟩ := ry
  obtain ⟨its, r, pl, hz⟩ := I.tuple hq
  obtain ⟨j, h1, h2, h3, h4, h5⟩ := atI_get he
  obtain ⟨w, ew, rw'⟩ := r.get h2
  have hl := r.length
  have hn := line63
  have fin : EP X pins σ Q w s := ⟨z, H, I, rw', q⟩
  exact subscriptTail_builtinR (x := w) pl.typeIs slot_tuple_getitem.lookup
    (getItem_tuple (j := j) (Q := fun r s' => r = w ∧ EP X pins σ Q r s') pl (by omega) (by omega) (by rw [List.size_toArray, ← hl]; exact h1) (by simpa using ew) ⟨rfl, fin⟩) hs
theorem ix_str : IxR X rIxS := by
  intro value slice pins s σ H x y v u Q I rx ry h hs
  obtain ⟨z, i, c, rfl, rfl, hz, he, q⟩ := h
  obtain ⟨t, rfl⟩ := rx
  obtain ⟨t', rfl⟩ := ry
  obtain ⟨j, h1, h2, h3, h4, h5⟩ := atI_get he
  have hl : z.cps.toList.length = z.length := by simp [Str.length]
  rw [hl] at h1 h4 h5
  have hn := line63
  exact tail_any (typeIs_str s z t) slot_str_getitem.lookup (getItem_str (c := c) (by
    have e1 : decide (i < -(2 ^ 63 : Int)) = false := decide_eq_false (by omega)
    have e2 : decide (i ≥ 2 ^ 63) = false := decide_eq_false (by omega)
    rw [e1, e2, Bool.or_false]) (by rw [h1]; simpa using h2) ⟨.str ⟨#[c]⟩, H, I.tok _, ⟨_, rfl⟩, q⟩) hs
/-- list, tuple or str -/
def rIx (K : PySem.W.Frag) : R2 := fun x y H Q => rIxL K x y H Q ∨ rIxT K x y H Q ∨ rIxS x y H Q
theorem ix_seq : IxR X (rIx X.K) := ix_list.or (ix_tup.or ix_str)

/-! ### xs[i] = v, any sign -/
/-- the list's object behind a store -/
theorem mapSeq_set (its : List Value) (n j : Nat) (u : Value) : Obj.mapSeq (·.setIfInBounds j u) { cls := .type "list", data := .seq its.toArray n } = { cls := .type "list", data := .seq (its.set j u).toArray n } := by
  simp [Obj.mapSeq]
theorem Inv.lst {pins : List (Addr × Obj)} {σ : St} {H : Hp} {s : Shared} {p : Addr} {xs : List V} (I : Inv X pins σ H s) (h : H p = some (.lst xs)) :
    ∃ (its : List Value) (n : Nat), Vals xs its ∧ s.heap.get? p = some { cls := .type "list", data := .seq its.toArray n } ∧ xs.length ≤ sizeLine := by
  obtain ⟨z, its, n, r, e⟩ := I.hok p _ h
  exact ⟨its, n, r, e, z⟩
/-- the list at p is written by an update of its object -/
theorem Inv.lstUpd {pins : List (Addr × Obj)} {σ : St} {H : Hp} {s : Shared} {p : Addr} {xs ys : List V} {its its' : List Value} {n n' : Nat} {f : Obj → Obj} (I : Inv X pins σ H s) (h : H p = some (.lst xs))
    (ho : s.heap.get? p = some { cls := .type "list", data := .seq its.toArray n }) (hf : f { cls := .type "list", data := .seq its.toArray n } = { cls := .type "list", data := .seq its'.toArray n' }) (r : Vals ys its') (hz : ys.length ≤ sizeLine) (t : Nat) :
    Inv X pins σ (upd H p (.lst ys)) { s with heap := s.heap.update p f, toks := t } := by
  have e : (s.heap.update p f).get? p = some { cls := .type "list", data := .seq its'.toArray n' } := by
    rw [Heap.get?_update_self f ho (by rw [hf] <;> rfl), hf]
  refine I.write (x := p) (e := p) (by rw [h]; trivial) (.inl rfl) (fun b u hb q => (Heap.get?_update_other _ _ (Ne.symm hb)).trans q) ⟨_, e⟩ ?_
  exact ⟨hz, its', n', r, e⟩
def rSetL : V → V → V → Hp → (Hp → Prop) → Prop := fun o i v H Q => ∃ p xs k j, o = .ref p ∧ i = .int k ∧ H p = some (.lst xs) ∧ ixN xs.length k = some j ∧ Q (upd H p (.lst (xs.set j v)))
theorem set_list : PSet X rSetL := by
  intro pins s σ H o i v ov iv u Q I ro ri rv h
  obtain ⟨p, xs, k, j, rfl, rfl, hp, hj, q⟩ := h
  cases ro
  obtain ⟨t, rfl⟩ := ri
  obtain ⟨its, n, r, ho, hz⟩ := I.lst hp
  obtain ⟨h1, h2, h3, h4⟩ := ixN_seq hj
  have hl := r.length
  have hn := line63
  have I' : Inv X pins σ (upd H p (.lst (xs.set j v))) { s with heap := s.heap.update p (Obj.mapSeq (·.setIfInBounds j u)) } :=
    I.lstUpd hp ho (mapSeq_set its n j u) (r.set rv j) (by rw [List.length_set]; exact hz) s.toks
  by_cases h0 : 0 ≤ k
  · have hk : k.toNat = j := by
      rw [seqIndex_of h0 h4] at h1
      exact Option.some.inj h1
    exact PySem.W.ki_setAt ho h0 (by omega) (by rw [List.size_toArray, ← hl]; exact h4) (by rw [hk]; exact ⟨_, I', q⟩)
  · have hk : (k + (its.toArray.size : Int)).toNat = j := by
      rw [seqIndex_neg (by omega) h3] at h1
      rw [List.size_toArray, ← hl]
      exact Option.some.inj h1
    exact PySem.W.ki_setBack ho (by omega) (by rw [List.size_toArray, ← hl]; exact h3) (by omega) (by rw [hk]; exact ⟨_, I', q⟩)

/-! ### slices -/
theorem slice_bounds (lo hi : Option Int) (n : Nat) : (sliceBounds lo hi none n).1 = ((HT.sIx n 0 lo : Nat) : Int) ∧ (sliceBounds lo hi none n).2.1 = ((HT.sIx n n hi : Nat) : Int) ∧ (sliceBounds lo hi none n).2.2 = 1 := by
  refine ⟨?_, ?_, rfl⟩
  · cases lo with
    | none => simp [sliceBounds, HT.sIx]
    | some i =>
      simp only [sliceBounds, HT.sIx, Option.getD_none, show (1 : Int) > 0 by decide, if_true]
      by_cases h : i < 0
      · simp only [h, if_true] <;> omega
      · simp only [h, if_false] <;> omega
  · cases hi with
    | none => simp [sliceBounds, HT.sIx]
    | some i =>
      simp only [sliceBounds, HT.sIx, Option.getD_none, show (1 : Int) > 0 by decide, if_true]
      by_cases h : i < 0
      · simp only [h, if_true] <;> omega
      · simp only [h, if_false] <;> omega
theorem slicePick_cut (its : List Value) (lo hi : Option Int) : slicePick its.toArray lo hi none = ((its.drop (HT.sIx its.length 0 lo)).take (HT.sIx its.length its.length hi - HT.sIx its.length 0 lo)).toArray := by
  obtain ⟨h1, h2, h3⟩ := slice_bounds lo hi its.toArray.size
  unfold slicePick
  rw [h1, h2, h3]
  simp only [sliceRange_one, pick_run, List.size_toArray] <;> rfl
/-- xs[lo:hi] of a list: a new list -/
def rSlL (K : PySem.W.Frag) : V → Option Int → Option Int → Hp → VK → Prop := fun x lo hi H Q => ∃ a xs, x = .ref a ∧ SqL K H a xs ∧ ∀ p, H p = none → Q (.ref p) (upd H p (.lst (cutV xs lo hi)))
theorem sl_list : SlR X (rSlL X.K) := by
  intro pins s σ H x v vl vu lo hi sl Q I rx hs pl pu h
  obtain ⟨a, xs, rfl, hx, q⟩ := h
  cases rx
  obtain ⟨its, r, ht, hz⟩ := I.list hx
  have hlen := r.length
  refine ⟨"list", _, slot_list_getitem.lookup, ht.isList.typeIs, ?_⟩
  refine wpAny_getItem_list_slice ht.isList hs pl pu .none (by simp) ?_ (by rw [List.size_toArray] <;> omega)
  rw [slicePick_cut, ← hlen]
  refine ⟨.ref s.heap.objs.size, _, I.laid (t' := s.toks) (o := .lst (cutV xs lo hi)) (fun b ob q => Heap.get?_push_of_some _ q) (Nat.le_refl _) ?_, rfl, q _ (I.hok.fresh (Nat.le_refl _))⟩
  exact ⟨Nat.le_trans (cutV_length xs lo hi) hz, _, 0, (r.drop (HT.sIx xs.length 0 lo)).take (HT.sIx xs.length xs.length hi - HT.sIx xs.length 0 lo), Heap.get?_push_size _ rfl⟩

/-! ### in, not in: flat items -/
def flatV : V → Bool
  | .non => true
  | .bl _ => true
  | .int _ => true
  | .str _ => true
  | _ => false
/-- == of flat values -/
def eqV : V → V → Bool
  | .non, .non => true
  | .bl a, .bl b => a == b
  | .bl a, .int b => (if a then 1 else 0) == b
  | .int a, .bl b => a == (if b then 1 else 0)
  | .int a, .int b => a == b
  | .str a, .str b => a == b
  | _, _ => false
theorem eqAt_V {A : Around} {s : Shared} {y x : V} {u v : Value} (ry : RelV y u) (rx : RelV x v) (fy : flatV y = true) (fx : flatV x = true) : SeqAt.EqAt A s u v (eqV y x) := by
  cases y with
  | non =>
    cases ry
    cases x with
    | non => cases rx; exact SeqAt.EqAt.same _
    | bl b => cases rx; exact SeqAt.EqAt.none_bool b
    | int b => obtain ⟨t, rfl⟩ := rx; exact SeqAt.EqAt.none_int b t
    | str b => obtain ⟨t, rfl⟩ := rx; exact SeqAt.EqAt.none_str b t
    | _ => exact absurd (show false = true from fx) Bool.false_ne_true
  | bl a =>
    cases ry
    cases x with
    | non => cases rx; exact SeqAt.EqAt.bool_none a
    | bl b => cases rx; exact SeqAt.EqAt.bool_bool a b
    | int b => obtain ⟨t, rfl⟩ := rx; exact SeqAt.EqAt.bool_int a b t
    | str b => obtain ⟨t, rfl⟩ := rx; exact SeqAt.EqAt.bool_str a b t
    | _ => exact absurd (show false = true from fx) Bool.false_ne_true
  | int a =>
    obtain ⟨t', rfl⟩ := ry
    cases x with
    | non => cases rx; exact SeqAt.EqAt.int_none a t'
    | bl b => cases rx; exact SeqAt.EqAt.int_bool a t' b
    | int b => obtain ⟨t, rfl⟩ := rx; exact SeqAt.EqAt.int_int a t' b t
    | str b => obtain ⟨t, rfl⟩ := rx; exact SeqAt.EqAt.int_str a t' b t
    | _ => exact absurd (show false = true from fx) Bool.false_ne_true
  | str a =>
    obtain ⟨t', rfl⟩ := ry
    cases x with
    | non => cases rx; exact SeqAt.EqAt.str_none a t'
    | bl b => cases rx; exact SeqAt.EqAt.str_bool a t' b
    | int b => obtain ⟨t, rfl⟩ := rx; exact SeqAt.EqAt.str_int a t' b t
    | str b => obtain ⟨t, rfl⟩ := rx; exact SeqAt.EqAt.str_str a t' b t
    | _ => exact absurd (show false = true from fx) Bool.false_ne_true
  | _ => exact absurd (show false = true from fy) Bool.false_ne_true
/-- the items' answers, read off the values (a value's own answer does not lean on its token) -/
def eqU (x : V) (u : Value) : Bool := match u with
  | .none => eqV .non x
  | .bool b => eqV (.bl b) x
  | .int i _ => eqV (.int i) x
  | .str z _ => eqV (.str z) x
  | _ => false
theorem eqU_of {x y : V} {u : Value} (r : RelV y u) (f : flatV y = true) : eqU x u = eqV y x := by
  cases y with
  | non => cases r; rfl
  | bl b => cases r; rfl
  | int i => obtain ⟨t, rfl⟩ := r; rfl
  | str z => obtain ⟨t, rfl⟩ := r; rfl
  | _ => exact absurd (show false = true from f) Bool.false_ne_true
theorem any_eqU {x : V} : ∀ {xs : List V} {us : List Value}, Vals xs us → xs.all flatV = true → us.any (eqU x) = xs.any fun y => eqV y x
  | _, _, .nil, _ => rfl
  | y :: xs, u :: us, .cons r t, f => by
    rw [List.all_cons, Bool.and_eq_true] at f
    rw [List.any_cons, List.any_cons, eqU_of r f.1, any_eqU t f.2]
theorem mem_eqAt {A : Around} {s : Shared} {x : V} {v : Value} (rx : RelV x v) (fx : flatV x = true) : ∀ {xs : List V} {us : List Value}, Vals xs us → xs.all flatV = true → ∀ u ∈ us, SeqAt.EqAt A s u v (eqU x u)
  | _, _, .nil, _ => fun u hu => by cases hu
  | y :: xs, u :: us, .cons r t, f => fun u' hu => by
    rw [List.all_cons, Bool.and_eq_true] at f
    rcases List.mem_cons.mp hu with rfl | hu
    · rw [eqU_of r f.1]; exact eqAt_V r rx f.1 fx
    · exact mem_eqAt rx fx t f.2 u' hu
def inV (x : V) (xs : List V) : Bool := xs.any fun y => eqV y x
/-- x in a list or tuple of flat items -/
def rIn (K : PySem.W.Frag) (neg : Bool) : R2 := fun x y H Q => ∃ p xs, y = .ref p ∧ (SqL K H p xs ∨ SqT K H p xs) ∧ flatV x = true ∧ xs.all flatV = true ∧ Q (.bl (if neg then !inV x xs else inV x xs)) H
theorem op_in_seq : OpR X (compareOp .In) (rIn X.K false) := by
  intro pins s σ H x y v u Q I rx ry h
  obtain ⟨p, xs, rfl, hq, fx, fs, q⟩ := h
  cases ry
  rcases hq with hq | hq
  · obtain ⟨its, r, pl, hz⟩ := I.list hq
    refine SeqAt.in_listAt (eqU x) pl.isList (fun w hw => mem_eqAt rx fx r fs w (by simpa using hw)) ⟨.bl _, H, I, rfl, ?_⟩
    rw [show its.toArray.any (eqU x) = its.any (eqU x) by simp, any_eqU r fs]
    exact q
  · obtain ⟨its, r, pl, hz⟩ := I.tuple hq
    refine SeqAt.in_tupleAt (eqU x) pl (fun w hw => mem_eqAt rx fx r fs w (by simpa using hw)) ⟨.bl _, H, I, rfl, ?_⟩
    rw [show its.toArray.any (eqU x) = its.any (eqU x) by simp, any_eqU r fs]
    exact q
theorem op_notIn_seq : OpR X (compareOp .NotIn) (rIn X.K true) := by
  intro pins s σ H x y v u Q I rx ry h
  obtain ⟨p, xs, rfl, hq, fx, fs, q⟩ := h
  cases ry
  rcases hq with hq | hq
  · obtain ⟨its, r, pl, hz⟩ := I.list hq
    refine SeqAt.notIn_listAt (eqU x) pl.isList (fun w hw => mem_eqAt rx fx r fs w (by simpa using hw)) ⟨.bl _, H, I, rfl, ?_⟩
    rw [show its.toArray.any (eqU x) = its.any (eqU x) by simp, any_eqU r fs]
    exact q
  · obtain ⟨its, r, pl, hz⟩ := I.tuple hq
    refine SeqAt.notIn_tupleAt (eqU x) pl (fun w hw => mem_eqAt rx fx r fs w (by simpa using hw)) ⟨.bl _, H, I, rfl, ?_⟩
    rw [show its.toArray.any (eqU x) = its.any (eqU x) by simp, any_eqU r fs]
    exact q
theorem op_notIn_str : OpR X (compareOp .NotIn) (fun x y H Q => ∃ i j, x = .str i ∧ y = .str j ∧ Q (.bl (!(!(Builtin.Str.occurrences j i 0 j.length 1).isEmpty))) H) := by
  intro pins s σ H x y v u Q I rx ry h
  obtain ⟨i, j, rfl, rfl, q⟩ := h
  obtain ⟨t, rfl⟩ := rx
  obtain ⟨t', rfl⟩ := ry
  exact notIn_str ⟨.bl _, H, I, rfl, q⟩

/-! ### len, list(x), tuple(x) of any list or tuple that is read -/
theorem call_len_seq : CallR X (.builtin "len") (fun xs H Q => ∃ p ys, xs = [.ref p] ∧ (SqL X.K H p ys ∨ SqT X.K H p ys) ∧ Q (.int ys.length) H) := by
  intro pins s σ H xs us Q I r h
  obtain ⟨p, ys, rfl, hq, q⟩ := h
  obtain ⟨u, rfl, rx⟩ := vals1 r
  cases rx
  have hn := line63
  rcases hq with hq | hq
  · obtain ⟨its, r', pl, hz⟩ := I.list hq
    have hlen := r'.length
    exact Calls.call_len_list pl.isList (by simp only [List.size_toArray] <;> omega) ⟨.int ys.length, H, I.tok _, ⟨s.toks + 1, by rw [List.size_toArray, hlen]⟩, q⟩
  · obtain ⟨its, r', pl, hz⟩ := I.tuple hq
    have hlen := r'.length
    exact len_tuple pl (by simp only [List.size_toArray] <;> omega) ⟨.int ys.length, H, I.tok _, ⟨s.toks + 1, by rw [List.size_toArray, hlen]⟩, q⟩
theorem call_len_str : CallR X (.builtin "len") (fun xs H Q => ∃ z, xs = [.str z] ∧ z.length ≤ sizeLine ∧ Q (.int z.length) H) := by
  intro pins s σ H xs us Q I r h
  obtain ⟨z, rfl, hz, q⟩ := h
  obtain ⟨u, rfl, t, rfl⟩ := vals1 r
  have hn := line63
  exact len_str (by omega) ⟨.int z.length, H, I.tok _, ⟨_, rfl⟩, q⟩
theorem CallR.or {f : Value} {r r' : List V → Hp → VK → Prop} (h : CallR X f r) (h' : CallR X f r') : CallR X f (fun xs H Q => r xs H Q ∨ r' xs H Q) := by
  intro pins s σ H xs us Q I rs q
  rcases q with q | q
  · exact h pins s σ H xs us Q I rs q
  · exact h' pins s σ H xs us Q I rs q
theorem call_list_of : CallR X (.type "list") (fun xs H Q => ∃ p ys, xs = [.ref p] ∧ (SqL X.K H p ys ∨ SqT X.K H p ys) ∧ ∀ l, H l = none → Q (.ref l) (upd H l (.lst ys))) := by
  intro pins s σ H xs us Q I r h
  obtain ⟨p, ys, rfl, hq, q⟩ := h
  obtain ⟨u, rfl, rx⟩ := vals1 r
  cases rx
  have fin : ∀ (its : List Value), Vals ys its → ys.length ≤ sizeLine → ∀ (h' : Heap) (c' : Nat), (∀ b o', s.heap.get? b = some o' → h'.get? b = some o') →
      h'.get? s.heap.objs.size = some { cls := .type "list", dict := none, data := .seq its.toArray c', slots := #[] } → EP X pins σ Q (.ref s.heap.objs.size) { s with heap := h' } := fun its r' hz h' c' kp e =>
    ⟨.ref s.heap.objs.size, _, I.laid (t' := s.toks) kp (Nat.le_refl _) (show ObjOk X.prog X.w _ h' _ (.lst ys) from ⟨hz, its, c', r', e⟩), rfl, q _ (I.hok.fresh (Nat.le_refl _))⟩
  rcases hq with hq | hq
  · obtain ⟨its, r', pl, hz⟩ := I.list hq
    have hlen := r'.length
    obtain ⟨o, ho, hc, n, hd⟩ := pl.isList
    exact call_list_seq p (.inl rfl) ho hc hd (fun h' c' kp e => fin its r' hz h' c' kp e) (by simp only [List.size_toArray] <;> omega)
  · obtain ⟨its, r', pl, hz⟩ := I.tuple hq
    have hlen := r'.length
    obtain ⟨o, ho, hc, n, hd⟩ := pl
    exact call_list_seq p (.inr rfl) ho hc hd (fun h' c' kp e => fin its r' hz h' c' kp e) (by simp only [List.size_toArray] <;> omega)
theorem call_tuple_of : CallR X (.type "tuple") (fun xs H Q => ∃ p ys, xs = [.ref p] ∧ ((SqL X.K H p ys ∧ ∀ l, H l = none → Q (.ref l) (upd H l (.tup ys))) ∨ (SqT X.K H p ys ∧ Q (.ref p) H))) := by
  intro pins s σ H xs us Q I r h
  obtain ⟨p, ys, rfl, h⟩ := h
  obtain ⟨u, rfl, rx⟩ := vals1 r
  cases rx
  rcases h with ⟨hq, q⟩ | ⟨hq, q⟩
  · obtain ⟨its, r', pl, hz⟩ := I.list hq
    have hlen := r'.length
    refine call_tuple_list pl.isList (fun h' kp => ?_) (by simp only [List.size_toArray] <;> omega)
    have I1 : Inv X pins σ H { s with heap := h' } := I.kept (t' := s.toks) kp
    have I2 : Inv X pins σ (upd H h'.objs.size (.tup ys)) { s with heap := h'.push { cls := .type "tuple", data := .seq its.toArray } } :=
      I1.laid (t' := s.toks) (fun b o e => Heap.get?_push_of_some _ e) (Nat.le_refl _) (show ObjOk X.prog X.w _ _ _ (.tup ys) from ⟨hz, its, r', IsTup.new _ _⟩)
    exact ⟨.ref h'.objs.size, _, I2, rfl, q _ (I1.hok.fresh (Nat.le_refl _))⟩
  · obtain ⟨its, r', pl, hz⟩ := I.tuple hq
    exact call_tuple_same pl ⟨.ref p, H, I, rfl, q⟩

/-! ### the call of a builtin's method: o.m(..) -/
/-- the value is of that builtin type -/
def tyV (K : PySem.W.Frag) (T : String) (x : V) (H : Hp) : Prop := match x with
  | .str _ => T = "str"
  | .int _ => T = "int"
  | .ref p => (T = "list" ∧ ∃ xs, SqL K H p xs) ∨ (T = "tuple" ∧ ∃ o, K.lookup p = some o ∧ o.cls = .type "tuple" ∧ o.dict = none) ∨
      (T = "dict" ∧ ((∃ kvs, H p = some (.dK kvs)) ∨ ∃ kvs, H p = some (.dT kvs))) ∨ (T = "set" ∧ ∃ S n, H p = some (.set S n))
  | _ => False
theorem tyV_is {pins : List (Addr × Obj)} {σ : St} {H : Hp} {s : Shared} {T : String} {x : V} {v : Value} (I : Inv X pins σ H s) (r : RelV x v) (ty : tyV X.K T x H) :
    s.TypeIs v T ∧ ∀ a, v = .ref a → ∃ ob, s.heap.get? a = some ob ∧ ob.dict = none := by
  cases x with
  | str z =>
    obtain ⟨t, rfl⟩ := r
    cases (show T = "str" from ty)
    exact ⟨typeIs_str s z t, fun _ e => nomatch e⟩
  | int i =>
    obtain ⟨t, rfl⟩ := r
    cases (show T = "int" from ty)
    exact ⟨typeIs_int s i t, fun _ e => nomatch e⟩
  | ref p =>
    cases r
    rcases ty with ⟨rfl, xs, hq⟩ | ⟨rfl, o, hk, hc, hd⟩ | ⟨rfl, hk⟩ | ⟨rfl, S, n, hk⟩
    · obtain ⟨its, _, pl, _⟩ := I.list hq
      refine ⟨pl.isList.typeIs, fun a e => ?_⟩
      cases e
      obtain ⟨o, n, e, c, hd, _⟩ := pl
      exact ⟨o, e, hd⟩
    · refine ⟨⟨o, I.kIn p o hk, hc⟩, fun a e => ?_⟩
      cases e
      exact ⟨o, I.kIn _ o hk, hd⟩
    · have z : ∃ o, s.heap.get? p = some o ∧ o.ExactDict := by
        rcases hk with ⟨kvs, hk⟩ | ⟨kvs, hk⟩
        · obtain ⟨_, _, _, _, o, _, _, e, ex, _⟩ := I.hok p _ hk
          exact ⟨o, e, ex⟩
        · obtain ⟨_, _, _, _, o, _, _, e, ex, _⟩ := I.hok p _ hk
          exact ⟨o, e, ex⟩
      obtain ⟨o, e, ex⟩ := z
      refine ⟨⟨o, e, ex.1⟩, fun a e2 => ?_⟩
      cases e2
      exact ⟨o, e, ex.2.1⟩
    · obtain ⟨o, _, _, _, e, ex, _⟩ := I.hok p _ hk
      refine ⟨⟨o, e, ex.1⟩, fun a e2 => ?_⟩
      cases e2
      exact ⟨o, e, ex.2.1⟩
  | _ => exact False.elim ty
def tBM0 (K : PySem.W.Frag) (T : String) (r : V → List V → Hp → VK → Prop) (to : TE) : TE := fun σ H Q => to σ H fun x H1 => tyV K T x H1 ∧ r x [] H1 Q
def tBM (K : PySem.W.Frag) (T : String) (r : V → List V → Hp → VK → Prop) (to : TE) (t : TA) : TE := fun σ H Q => to σ H fun x H1 => tyV K T x H1 ∧ t σ H1 fun xs H2 => r x xs H2 Q
variable {o e : Expr} {es : List Expr} {to : TE} {t : TA} {name : Str} {apos cpos : Pos} {T id : String} {r : V → List V → Hp → VK → Prop}
theorem pe_bm0 (pa : PlainAttrs T) (slot : Slot T name id) (hty : typeOf (.builtin id) = pure (.type "method_descriptor")) (hm : MtR X id r) (ho : PE X o to)
    (hbase : attributeBase o name X.env (eval o X.env) = eval o X.env := by rfl) (hline : (apos.endLine == cpos.line) = true := by rfl) : PE X (.Call (.Attribute o name apos) [] [] cpos) (tBM0 X.K T r to) := by
  intro pins s σ H Q I h
  refine wpAny_Call_method0_late hbase hline (thn (ho pins s σ H _ I h) fun v s1 ⟨x, H1, I1, r1, ty, q1⟩ => ?_)
  obtain ⟨h1, h2⟩ := tyV_is I1 r1 ty
  exact ⟨T, id, pa, slot, hty, h1, h2, Calls.callWith_builtin rfl (PySem.evalArgs_none (hm pins s1 σ H1 x [] v [] Q I1 r1 .nil q1))⟩
theorem pe_bm (pa : PlainAttrs T) (slot : Slot T name id) (hty : typeOf (.builtin id) = pure (.type "method_descriptor")) (hm : MtR X id r) (ho : PE X o to) (ha : PA X (e :: es) t)
    (hbase : attributeBase o name X.env (eval o X.env) = eval o X.env := by rfl)
    (hfew : ((backTo cpos (starEach (e :: es) X.env)).all (fun x => !x.1) && (backToKw cpos (keywordEach [] X.env)).all (fun x => x.1.isSome)
      && decide ((e :: es).length + ([] : List Keyword).length + (if ([] : List Keyword).isEmpty then 0 else 1) < 30)) = true := by rfl)
    (hline : (apos.endLine == cpos.line) = true := by rfl) (hs : starEach (e :: es) X.env = (false, eval e X.env) :: starEach es X.env := by rfl) (hplain : (backTo cpos (starEach es X.env)).any (·.1) = false := by rfl) :
    PE X (.Call (.Attribute o name apos) (e :: es) [] cpos) (tBM X.K T r to t) := by
  intro pins s σ H Q I h
  refine wpAny_Call_method_late hbase hfew hline rfl (thn (ho pins s σ H _ I h) fun v s1 ⟨x, H1, I1, r1, ty, q1⟩ => ?_)
  obtain ⟨h1, h2⟩ := tyV_is I1 r1 ty
  refine ⟨T, id, pa, slot, hty, h1, h2, ?_⟩
  have hA := ha cpos pins s1 σ H1 _ I1 q1
  rw [hs] at hA ⊢
  refine Calls.callWith_builtin (by show (false || (backTo cpos (starEach es X.env)).any (·.1)) = false; rw [hplain] <;> rfl) (Calls.evalArgs_plain ?_)
  exact thn hA fun us s2 ⟨vs, H2, I2, r2, q2⟩ => hm pins s2 σ H2 x vs v us Q I2 r1 r2 q2
/- xs.append(e), list.index on a module's tuple .. are MtR facts of 06m -/
end
end L2

namespace L2
open PySem PySem.Spec PyProof.Rows

def MtM (X : Cx) (id : String) (r : V → List V → Hp → VK → Prop) : Prop :=
  ∀ (pins : List (Addr × Obj)) (s : Shared) (σ : St) (H : Hp) (x : V) (xs : List V) (v : Value) (us : List Value) (Q : VK), Inv X pins σ H s → RelV x v → Vals xs us → r x xs H Q →
    wpAny (model X.prog X.w) X.A (call (.builtin id) (v :: us)) (EP X pins σ Q) X.xe s

/-! ### lists of values -/
theorem Vals.one : ∀ {x : V} {us : List Value}, Vals [x] us → ∃ u, us = [u] ∧ RelV x u
  | _, _, .cons r .nil => ⟨_, rfl, r⟩
theorem Vals.two : ∀ {x y : V} {us : List Value}, Vals [x, y] us → ∃ u v, us = [u, v] ∧ RelV x u ∧ RelV y v
  | _, _, _, .cons r (.cons q .nil) => ⟨_, _, rfl, r, q⟩
theorem Vals.zero : ∀ {us : List Value}, Vals [] us → us = []
  | _, .nil => rfl
theorem Vals.dropLast {xs : List V} {us : List Value} (h : Vals xs us) : Vals xs.dropLast us.dropLast := by
  induction h with
  | nil => exact .nil
  | cons r t ih =>
    cases t with
    | nil => exact .nil
    | cons q t' => exact .cons r ih
theorem Vals.eraseIdx : ∀ {xs : List V} {us : List Value} (i : Nat), Vals xs us → Vals (xs.eraseIdx i) (us.eraseIdx i)
  | _, _, _, .nil => .nil
  | _, _, 0, .cons _ t => t
  | _, _, i + 1, .cons r t => .cons r (Vals.eraseIdx i t)
theorem Vals.reverse {xs : List V} {us : List Value} (h : Vals xs us) : Vals xs.reverse us.reverse := by
  induction h with
  | nil => exact .nil
  | cons r t ih => rw [List.reverse_cons, List.reverse_cons]; exact Vals.append ih (.cons r .nil)
theorem Vals.rep {xs : List V} {us : List Value} (h : Vals xs us) : ∀ k : Nat, Vals (List.replicate k xs).flatten (List.replicate k us).flatten
  | 0 => .nil
  | k + 1 => by
    rw [List.replicate_succ, List.replicate_succ, List.flatten_cons, List.flatten_cons]
    exact Vals.append h (Vals.rep h k)
theorem erase_last {α : Type} (l : List α) : l.eraseIdx (l.length - 1) = l.dropLast := by
  induction l with
  | nil => rfl
  | cons a r ih =>
    cases r with
    | nil => rfl
    | cons b r =>
      have e : (a :: b :: r).length - 1 = ((b :: r).length - 1) + 1 := by
        have h1 : (a :: b :: r).length = r.length + 2 := rfl
        have h2 : (b :: r).length = r.length + 1 := rfl
        omega
      rw [e, List.eraseIdx_cons_succ, ih]
      all_goals rfl
theorem len_erase {α : Type} : ∀ (l : List α) (i : Nat), (l.eraseIdx i).length ≤ l.length
  | [], _ => Nat.le_refl _
  | _ :: _, 0 => Nat.le_succ _
  | _ :: r, i + 1 => Nat.succ_le_succ (len_erase r i)
theorem foldl_rep (its : List Value) : ∀ (k : Nat) (acc : List Value),
    List.foldl (fun x1 x2 => x1 ++ x2) acc.toArray (List.replicate k its.toArray) = (acc ++ (List.replicate k its).flatten).toArray
  | 0, acc => by simp
  | k + 1, acc => by
    have e : acc.toArray ++ its.toArray = (acc ++ its).toArray := by simp
    have e2 : (acc ++ its) ++ (List.replicate k its).flatten = acc ++ (List.replicate (k + 1) its).flatten := by
      rw [List.replicate_succ, List.flatten_cons, List.append_assoc]
    rw [← e2, ← foldl_rep its k (acc ++ its), ← e, List.replicate_succ, List.foldl_cons]

section
variable {X : Cx} {pins : List (Addr × Obj)} {σ : St} {H : Hp} {s : Shared} {l b : Addr} {xs ys zs : List V}

/-! ### the two steps: a tracked list is rewritten, a new list is laid -/
theorem Inv.lset {its its' : List Value} {n : Nat} {f : Array Value → Array Value} {t' : Nat} (I : Inv X pins σ H s) (hH : H l = some (.lst xs))
    (e : s.heap.get? l = some { cls := .type "list", data := .seq its.toArray n }) (hf : f its.toArray = its'.toArray) (hv : Vals ys its') (hz : ys.length ≤ sizeLine) :
    Inv X pins σ (upd H l (.lst ys)) { s with heap := s.heap.update l (Obj.mapSeq f), toks := t' } := by
  have q := PySem.IsL.update e f
  rw [hf] at q
  refine I.write (x := l) (e := l) (by rw [hH]; exact trivial) (.inl rfl) (fun b' u hb hu => (Heap.get?_update_other s.heap (Obj.mapSeq f) (Ne.symm hb)).trans hu) ⟨_, q⟩ ?_
  exact ⟨hz, its', _, hv, q⟩
theorem Inv.lnew {its : List Value} {t' : Nat} (I : Inv X pins σ H s) (hv : Vals ys its) (hz : ys.length ≤ sizeLine) :
    Inv X pins σ (upd H s.heap.objs.size (.lst ys)) { s with heap := s.heap.push { cls := .type "list", data := .seq its.toArray }, toks := t' } :=
  I.laid (fun _ _ q => Heap.get?_push_of_some _ q) (Nat.le_refl _) ⟨hz, its, 0, hv, Heap.get?_push_size _ rfl⟩
theorem Inv.fresh (I : Inv X pins σ H s) : H s.heap.objs.size = none := I.hok.fresh (Nat.le_refl _)
theorem Inv.lstM (I : Inv X pins σ H s) (hH : H l = some (.lst xs)) : xs.length ≤ sizeLine ∧ ∃ (its : List Value) (n : Nat), Vals xs its ∧ xs.length = its.length ∧ s.heap.get? l = some { cls := .type "list", data := .seq its.toArray n } := by
  obtain ⟨z, its, n, r, e⟩ := I.hok l _ hH
  exact ⟨z, its, n, r, r.length, e⟩

theorem notLongL {n : Nat} (h : n ≤ sizeLine) : Builtin.List.listTooLong n = false := by
  unfold Builtin.List.listTooLong
  exact decide_eq_false (by omega)
end

section
variable {X : Cx}

/-! ### methods -/
def rAppend : V → List V → Hp → VK → Prop := fun x vs H Q => ∃ l xs y, x = .ref l ∧ vs = [y] ∧ H l = some (.lst xs) ∧ xs.length < sizeLine ∧ Q .non (upd H l (.lst (xs ++ [y])))
theorem mt_append : MtM X "list.append" rAppend := by
  intro pins s σ H x vs v us Q I rx rv h
  obtain ⟨l, xs, y, rfl, rfl, hH, hz, q⟩ := h
  cases rx
  obtain ⟨u, rfl, ru⟩ := rv.one
  obtain ⟨z, its, n, r, hl, e⟩ := I.lstM hH
  refine call_meets F.slot_list_append ⟨_, e, rfl⟩ F.entry_list_append (F.args_list_append_2 _ _) (PySem.list_append l its.toArray n u (by rw [List.size_toArray]; omega)) ⟨e, ?_⟩
  refine ⟨.non, _, I.lset (its' := its ++ [u]) hH e (by simp) (r.append (.cons ru .nil)) ?_, rfl, q⟩
  rw [List.length_append, List.length_singleton]
  omega

def rExtend : V → List V → Hp → VK → Prop := fun x vs H Q => ∃ l b xs zs, x = .ref l ∧ vs = [.ref b] ∧ H l = some (.lst xs) ∧ H b = some (.lst zs) ∧ xs.length + zs.length ≤ sizeLine ∧ Q .non (upd H l (.lst (xs ++ zs)))
theorem mt_extend : MtM X "list.extend" rExtend := by
  intro pins s σ H x vs v us Q I rx rv h
  obtain ⟨l, b, xs, zs, rfl, rfl, hH, hB, hz, q⟩ := h
  cases rx
  obtain ⟨u, rfl, ru⟩ := rv.one
  cases ru
  obtain ⟨z, its, n, r, hl, e⟩ := I.lstM hH
  obtain ⟨z2, its2, n2, r2, hl2, e2⟩ := I.lstM hB
  have hsz : its.toArray.size + its2.toArray.size ≤ sizeLine := by rw [List.size_toArray, List.size_toArray]; omega
  have hlong : ¬ (!its.toArray.isEmpty && Builtin.List.listTooLong (its.toArray.size + its2.toArray.size)) = true := by
    rw [notLongL hsz, Bool.and_false]
    exact Bool.false_ne_true
  refine call_meets F.slot_list_extend ⟨_, e, rfl⟩ F.entry_list_extend (F.args_list_extend_2 _ _)
    (AutoSeq1.list_extend_list_list_0 l its.toArray n b its2.toArray n2 hlong (by rw [List.size_toArray]; omega) (by omega)) ⟨e, e2, ?_⟩
  refine ⟨.non, _, I.lset (its' := its ++ its2) hH e (by simp) (r.append r2) ?_, rfl, q⟩
  rw [List.length_append]
  omega

def rPop : V → List V → Hp → VK → Prop := fun x vs H Q => ∃ l xs y, x = .ref l ∧ vs = [] ∧ H l = some (.lst xs) ∧ xs[xs.length - 1]? = some y ∧ Q y (upd H l (.lst xs.dropLast))
theorem mt_pop : MtM X "list.pop" rPop := by
  intro pins s σ H x vs v us Q I rx rv h
  obtain ⟨l, xs, y, rfl, rfl, hH, hy, q⟩ := h
  cases rx
  have hus := rv.zero
  subst hus
  obtain ⟨z, its, n, r, hl, e⟩ := I.lstM hH
  obtain ⟨u, hu, ru⟩ := r.get hy
  have hy' : its.toArray[its.toArray.size - 1]? = some u := by
    show its.toArray[its.length - 1]? = some u
    rw [← Array.getElem?_toList, ← hl]
    exact hu
  refine call_meets F.slot_list_pop ⟨_, e, rfl⟩ F.entry_list_pop (F.args_list_pop_1 _) (MeetsSeq.list_pop_last l its.toArray n u hy' (by rw [List.size_toArray]; omega)) ⟨e, ?_⟩
  refine ⟨y, _, I.lset (its' := its.dropLast) hH e ?_ r.dropLast ?_, ru, q⟩
  · show its.toArray.eraseIdxIfInBounds (its.toArray.size - 1) = its.dropLast.toArray
    rw [List.size_toArray, List.eraseIdxIfInBounds_toArray, erase_last]
  · rw [List.length_dropLast]
    omega

def rPopAt : V → List V → Hp → VK → Prop := fun x vs H Q => ∃ l xs i k y, x = .ref l ∧ vs = [.int i] ∧ H l = some (.lst xs) ∧ -(2 ^ 63) ≤ i ∧ i < 2 ^ 63 ∧ seqIndex? i xs.length = some k ∧ xs[k]? = some y ∧ Q y (upd H l (.lst (xs.eraseIdx k)))
theorem mt_popAt : MtM X "list.pop" rPopAt := by
  intro pins s σ H x vs v us Q I rx rv h
  obtain ⟨l, xs, i, k, y, rfl, rfl, hH, h1, h2, hk, hy, q⟩ := h
  cases rx
  obtain ⟨u, rfl, ru⟩ := rv.one
  obtain ⟨t, rfl⟩ := ru
  obtain ⟨z, its, n, r, hl, e⟩ := I.lstM hH
  obtain ⟨w, hw, rw'⟩ := r.get hy
  refine call_meets F.slot_list_pop ⟨_, e, rfl⟩ F.entry_list_pop (F.args_list_pop_2 _ _)
    (MeetsSeq.list_pop_at l its.toArray n i t k w (fitsIndex_both h1 h2) (by rw [List.size_toArray, ← hl]; exact hk) (by rw [← Array.getElem?_toList]; exact hw) (by rw [List.size_toArray]; omega)) ⟨e, ?_⟩
  refine ⟨y, _, I.lset (its' := its.eraseIdx k) hH e ?_ (r.eraseIdx k) ?_, rw', q⟩
  · show its.toArray.eraseIdxIfInBounds k = (its.eraseIdx k).toArray
    rw [List.eraseIdxIfInBounds_toArray]
  · have := len_erase xs k
    omega

def rReverse : V → List V → Hp → VK → Prop := fun x vs H Q => ∃ l xs, x = .ref l ∧ vs = [] ∧ H l = some (.lst xs) ∧ Q .non (upd H l (.lst xs.reverse))
theorem mt_reverse : MtM X "list.reverse" rReverse := by
  intro pins s σ H x vs v us Q I rx rv h
  obtain ⟨l, xs, rfl, rfl, hH, q⟩ := h
  cases rx
  have hus := rv.zero
  subst hus
  obtain ⟨z, its, n, r, hl, e⟩ := I.lstM hH
  refine call_meets F.slot_list_reverse ⟨_, e, rfl⟩ F.entry_list_reverse (F.args_list_reverse_1 _) (AutoSeq1.list_reverse_list_0 l its.toArray n (by rw [List.size_toArray]; omega)) ⟨e, ?_⟩
  refine ⟨.non, _, I.lset (its' := its.reverse) hH e (by simp) r.reverse ?_, rfl, q⟩
  rw [List.length_reverse]
  omega

def rClear : V → List V → Hp → VK → Prop := fun x vs H Q => ∃ l xs, x = .ref l ∧ vs = [] ∧ H l = some (.lst xs) ∧ Q .non (upd H l (.lst []))
theorem mt_clear : MtM X "list.clear" rClear := by
  intro pins s σ H x vs v us Q I rx rv h
  obtain ⟨l, xs, rfl, rfl, hH, q⟩ := h
  cases rx
  have hus := rv.zero
  subst hus
  obtain ⟨z, its, n, r, hl, e⟩ := I.lstM hH
  refine call_meets F.slot_list_clear ⟨_, e, rfl⟩ F.entry_list_clear (F.args_list_clear_1 _) (AutoSeq1.list_clear_list_0 l its.toArray n (by rw [List.size_toArray]; omega)) ⟨e, ?_⟩
  exact ⟨.non, _, I.lset (its' := []) (ys := []) hH e rfl .nil (Nat.zero_le _), rfl, q⟩

/-! ### list + list, list += list, list * int -/
def rCat : R2 := fun x y H Q => ∃ l b xs zs, x = .ref l ∧ y = .ref b ∧ H l = some (.lst xs) ∧ H b = some (.lst zs) ∧ xs.length + zs.length ≤ sizeLine ∧ ∀ p, H p = none → Q (.ref p) (upd H p (.lst (xs ++ zs)))
theorem op_cat : OpR X (binaryOp .Add) rCat := by
  intro pins s σ H x y v u Q I rx ry h
  obtain ⟨l, b, xs, zs, rfl, rfl, hH, hB, hz, q⟩ := h
  cases rx
  cases ry
  obtain ⟨z, its, n, r, hl, e⟩ := I.lstM hH
  obtain ⟨z2, its2, n2, r2, hl2, e2⟩ := I.lstM hB
  refine PySem.P.add_list e e2 ?_ (by rw [List.size_toArray, List.size_toArray]; omega)
  have ea : its.toArray ++ its2.toArray = (its ++ its2).toArray := by simp
  rw [ea]
  exact ⟨.ref _, _, I.lnew (t' := s.toks) (r.append r2) (by rw [List.length_append]; omega), rfl, q _ I.fresh⟩
/-- a list times an int (a negative one is nothing) -/
def rRep : R2 := fun x y H Q => ∃ l k xs, x = .ref l ∧ y = .int k ∧ H l = some (.lst xs) ∧ -(2 ^ 63) ≤ k ∧ k < 2 ^ 63 ∧ xs.length * k.toNat ≤ sizeLine ∧
  ∀ p, H p = none → Q (.ref p) (upd H p (.lst (List.replicate k.toNat xs).flatten))
theorem len_rep {α : Type} (xs : List α) (k : Nat) : (List.replicate k xs).flatten.length = k * xs.length := by
  induction k with
  | zero => simp
  | succ k ih => rw [List.replicate_succ, List.flatten_cons, List.length_append, ih, Nat.succ_mul, Nat.add_comm]
theorem op_rep : OpR X (binaryOp .Mult) rRep := by
  intro pins s σ H x y v u Q I rx ry h
  obtain ⟨l, k, xs, rfl, rfl, hH, h1, h2, hz, q⟩ := h
  cases rx
  obtain ⟨t, rfl⟩ := ry
  obtain ⟨z, its, n, r, hl, e⟩ := I.lstM hH
  have hlen : its.toArray.size * k.toNat ≤ sizeLine := by rw [List.size_toArray, ← hl]; exact hz
  have hcap : ¬ its.toArray.size * k.toNat > (2 ^ 63 - 1) / 8 := by
    have : (sizeLine : Nat) ≤ (2 ^ 63 - 1) / 8 := by decide
    omega
  have hfit : ¬ (!Builtin.List.listFitsIndex k) = true := by
    rw [fitsIndex_both h1 h2]
    exact Bool.false_ne_true
  have hlong : ¬ Builtin.List.listTooLong (its.toArray.size * k.toNat) = true := by
    rw [notLongL hlen]
    exact Bool.false_ne_true
  have hnew : List.foldl (fun x1 x2 => x1 ++ x2) #[] (List.replicate (if its.toArray.isEmpty = true then 0 else k.toNat) its.toArray) = (List.replicate k.toNat its).flatten.toArray := by
    have f0 : ∀ m : Nat, List.foldl (fun x1 x2 => x1 ++ x2) #[] (List.replicate m its.toArray) = (List.replicate m its).flatten.toArray := fun m => by
      have := foldl_rep its m []
      rw [List.nil_append] at this
      exact this
    rw [f0]
    cases its with
    | nil => simp
    | cons a r' => rw [if_neg (by simp)]
  refine wpAny_binaryOp_repeat_ref (T := "list") (U := "int") (by decide) ⟨_, e, rfl⟩ (fun s' => typeIs_int s' k t) noFill_list_mul F.fills_int_mul F.slot_int_rmul repeat_list F.slot_int_index.lookup
    (call_meets F.slot_int_rmul (typeIs_int s k t) F.entry_int_rmul (F.args_int_rmul_2 _ _) (int___rmul___int_list k t l its.toArray n)
      ⟨e, rfl, ⟨_, e, rfl⟩, call_meets F.slot_list_mul ⟨_, e, rfl⟩ F.entry_list_mul (F.args_list_mul_2 _ _) (AutoListH.list___mul___list_int_3 l its.toArray n k t hfit hcap hlong) ⟨e, ?_⟩⟩)
  rw [hnew]
  exact ⟨.ref _, _, I.lnew (t' := s.toks) (r.rep k.toNat) (by rw [len_rep, Nat.mul_comm]; exact hz), rfl, q _ I.fresh⟩

/-! ### del xs[i] -/
theorem del_list {pins : List (Addr × Obj)} {s : Shared} {σ : St} {H : Hp} {l : Addr} {xs : List V} {i : Int} {t : Tok} {k : Nat} {Q : Unit → Shared → Prop} (I : Inv X pins σ H s) (hH : H l = some (.lst xs))
    (h1 : -(2 ^ 63) ≤ i) (h2 : i < 2 ^ 63) (hk : seqIndex? i xs.length = some k) (h : ∀ s', Inv X pins σ (upd H l (.lst (xs.eraseIdx k))) s' → Q () s') :
    wpAny (model X.prog X.w) X.A (delItem (.ref l) (.int i t)) Q X.xe s := by
  obtain ⟨z, its, n, r, hl, e⟩ := I.lstM hH
  refine PySem.P.delItem_list (k := k) e (fitsIndex_both h1 h2) (by rw [List.size_toArray, ← hl]; exact hk) (h _ ?_) (by rw [List.size_toArray]; omega)
  refine I.lset (its' := its.eraseIdx k) (t' := s.toks) hH e ?_ (r.eraseIdx k) ?_
  · show its.toArray.eraseIdxIfInBounds k = (its.eraseIdx k).toArray
    rw [List.eraseIdxIfInBounds_toArray]
  · have := len_erase xs k
    omega
end

/-! ### xs[a:b] = ys -/
section
variable {prog : Program} {w : World} {A : Around} {E : Value → Shared → Prop} {s : Shared}
theorem splice_eq (its its2 : List Value) (a c : Nat) : its.toArray.extract 0 a ++ its2.toArray ++ its.toArray.extract c its.toArray.size = (its.take a ++ its2 ++ its.drop c).toArray := by
  apply Array.toList_inj.mp
  first
    | (simp
       exact List.take_of_length_le (by simp))
    | simp [List.take_of_length_le]
    | simp
theorem bounds_run {a c n : Nat} (hac : a ≤ c) (hc : c ≤ n) : sliceBounds (some (a : Int)) (some (c : Int)) none n = ((a : Int), (c : Int), 1) := by
  simp only [sliceBounds, Option.getD_none]
  have h1 : ¬ ((a : Int) < 0) := by omega
  have h2 : ¬ ((c : Int) < 0) := by omega
  simp only [h1, h2, if_false, show (1 : Int) > 0 by decide, if_true]
  congr 1
  · omega
  · congr 1; omega
set_option maxRecDepth 100000 in
/-- list.__setitem__ with a slice of step one and another list -/
theorem setItem_slice {l b sl : Addr} {items new : Array Value} {n n2 : Nat} {vl vu : Value} {a c : Nat} {Q : Unit → Shared → Prop}
    (e : s.heap.get? l = some { cls := .type "list", data := .seq items n }) (e2 : s.heap.get? b = some { cls := .type "list", data := .seq new n2 }) (hne : l ≠ b)
    (hs : s.heap.IsSliceOf sl vl vu .none) (pl : IsPart vl (some (a : Int))) (pu : IsPart vu (some (c : Int))) (hac : a ≤ c) (hc : c ≤ items.size)
    (hsz : items.size + new.size ≤ sizeLine) (h : Q () { s with heap := s.heap.update l (Obj.mapSeq fun xs => xs.extract 0 a ++ new ++ xs.extract c xs.size) }) :
    wpAny (model prog w) A (setItem (.ref l) (.ref sl) (.ref b)) Q E s := by
  have hl : s.heap.IsList l items := PySem.IsL.isList e
  have hb : s.heap.IsList b new := PySem.IsL.isList e2
  obtain ⟨os, hos, hcs, hds⟩ := id hs
  have hTs : s.TypeIs (.ref sl) "slice" := ⟨os, hos, hcs⟩
  have hstep : ¬ ((rawPart none == rawInt 0) = true) := Bool.false_ne_true
  have hsame : Builtin.List.listSameRef (.ref l) (.ref b) = false := by
    unfold Builtin.List.listSameRef
    exact beq_eq_false_iff_ne.mpr hne
  have hmax : (max (a : Int) (c : Int)).toNat = c := by omega
  have hz' : ((fun xs : Array Value => xs.extract 0 a ++ new ++ xs.extract c xs.size) items).size ≤ sizeLine + 1 := by
    simp only [Array.size_append, Array.size_extract]
    omega
  unfold setItem
  try with_reducible refine wpAny_holding ?_
  first | refine wpAny_bind (wpAny_pure ?_) | skip
  refine wpAny_bind (wpAny_sequenceKey hl.typeIs (by decide) ?_)
  refine wpAny_bind (wpAny_callSpecial?_slot (name := Str.ofString "__setitem__") hl.typeIs slot_list_setitem
    (wpAny_call_entry slot_list_setitem hl.typeIs entry_list_setitem ?_ (args_list_setitem _ _ _)))
  show wpAny _ _ (Builtin.List.listSubscript? (.ref sl) >>= _) _ _ s
  refine wpAny_bind ?_
  unfold Builtin.List.listSubscript?
  refine wpAny_bind (wpAny_specialOf hTs slice_no_index ?_)
  simp only [Option.isNone_none, if_true]
  refine wpAny_pure ?_
  show wpAny _ _ (typeOf (.ref sl) >>= _) _ _ s
  refine wpAny_bind (wpAny_typeOf hTs ?_)
  first
    | rw [if_neg (by decide)]
    | refine PySem.W.KFB.if_not (by decide) ?_
  rw [listSliceParts_eq]
  refine wpAny_bind (wpAny_bind (wpAny_field hos hds (x := .none) rfl (wpAny_bind (wpAny_listPart .none ?_))))
  rw [if_neg hstep]
  refine wpAny_bind (wpAny_field hos hds (x := vl) rfl (wpAny_bind (wpAny_listPart pl ?_)))
  refine wpAny_bind (wpAny_field hos hds (x := vu) rfl (wpAny_bind (wpAny_listPart pu (wpAny_pure ?_))))
  first
    | simp only [hsame, Bool.false_eq_true, if_false]
    | refine PySem.W.KFB.if_not hsame ?_
    | (dsimp only
       rw [if_neg (by rw [hsame]; exact Bool.false_ne_true)])
  refine wpAny_bind (m := Builtin.List.listAllItems (.ref b) "must assign iterable to extended slice") ?_
  unfold Builtin.List.listAllItems
  refine wpAny_bind (wpAny_typeOf hb.typeIs ?_)
  first
    | refine PySem.W.KFB.if_so (by decide) ?_
    | rw [if_pos (by decide)]
    | simp only [beq_self_eq_true, Bool.true_or, if_true]
  unfold Builtin.List.listItems
  refine wpAny_bind (wpAny_seqItems e2 rfl (wpAny_pure ?_))
  refine wpAny_bind (wpAny_bind (wpAny_seqItems e rfl (wpAny_pure ?_)))
  refine wpAny_bind (wpAny_of_eq ((sliceIndices_raw (some (a : Int)) (some (c : Int)) none items.size (by simp)).trans (congrArg (pure : Int × Int × Int → Sem (Int × Int × Int)) (bounds_run hac hc))) ?_)
  show wpAny _ _ (if ((1 : Int) == 1) = true then _ else _) _ _ s
  rw [if_pos (by decide)]
  refine wpAny_bind (wpAny_rule ?_)
  first
    | simp only [notLongL hsz, Bool.false_eq_true, if_false]
    | refine PySem.W.KFB.if_not (notLongL hsz) ?_
  first | refine wpAny_bind (wpAny_pure ?_) | skip
  show wpAny _ _ (updateSeq l (fun xs => xs.extract 0 ((a : Int)).toNat ++ new ++ xs.extract (max (a : Int) (c : Int)).toNat xs.size) >>= _) _ _ s
  rw [hmax, Int.toNat_natCast]
  refine wpAny_bind (wpAny_updateSeq (hz := Nat.le_trans (Nat.le_add_right _ _) hsz) (_hz' := hz') e rfl ?_)
  refine wpAny_bind (wpAny_letGo ?_)
  first
    | exact wpAny_bind (wpAny_pure (wpAny_pure ⟨.none, rfl, wpAny_pure h⟩))
    | exact wpAny_pure ⟨.none, rfl, wpAny_pure h⟩
end

section
variable {X : Cx}
/-- xs[a:c] = ys of another list, at the value level: sl is the slice object that was just made -/
theorem set_slice {pins : List (Addr × Obj)} {s : Shared} {σ : St} {H : Hp} {l b sl : Addr} {xs ys : List V} {a c : Int} {vl vu : Value} {Q : Unit → Shared → Prop} (I : Inv X pins σ H s)
    (hH : H l = some (.lst xs)) (hB : H b = some (.lst ys)) (hne : l ≠ b) (hs : s.heap.IsSliceOf sl vl vu .none) (ra : RelV (.int a) vl) (rc : RelV (.int c) vu) (h0 : 0 ≤ a) (hac : a ≤ c) (hc : c ≤ xs.length)
    (hz : xs.length + ys.length ≤ sizeLine) (h : ∀ s', Inv X pins σ (upd H l (.lst (xs.take a.toNat ++ ys ++ xs.drop c.toNat))) s' → Q () s') :
    wpAny (model X.prog X.w) X.A (setItem (.ref l) (.ref sl) (.ref b)) Q X.xe s := by
  obtain ⟨ta, rfl⟩ := ra
  obtain ⟨tc, rfl⟩ := rc
  obtain ⟨z, its, n, r, hl, e⟩ := I.lstM hH
  obtain ⟨z2, its2, n2, r2, hl2, e2⟩ := I.lstM hB
  obtain ⟨a', rfl⟩ := Int.eq_ofNat_of_zero_le h0
  obtain ⟨c', rfl⟩ := Int.eq_ofNat_of_zero_le (Int.le_trans h0 hac)
  simp only [Int.toNat_natCast] at h
  refine setItem_slice (a := a') (c := c') e e2 hne hs (.int _ _) (.int _ _) (by omega) (by rw [List.size_toArray]; omega) (by rw [List.size_toArray, List.size_toArray]; omega) (h _ ?_)
  refine I.lset (its' := its.take a' ++ its2 ++ its.drop c') (t' := s.toks) hH e ?_ (Vals.append (Vals.append (r.take _) r2) (r.drop _)) ?_
  · exact splice_eq its its2 a' c'
  · rw [List.length_append, List.length_append, List.length_take, List.length_drop]
    omega
end
end L2

namespace L2
open PySem PySem.Spec PyProof.Rows

theorem Vals.ints : ∀ {ns : List Int} {us : List Value}, Vals (ns.map V.int) us → IntsAre us ns
  | [], us, h => by
    rw [List.map_nil] at h
    cases h
    exact IntsAre.nil
  | n :: ns, us, h => by
    rw [List.map_cons] at h
    cases h with
    | cons r t =>
      obtain ⟨k, rfl⟩ := r
      exact IntsAre.cons n k (Vals.ints t)
theorem vals_of_ints : ∀ {us : List Value} {ns : List Int}, IntsAre us ns → Vals (ns.map V.int) us
  | _, _, .nil => by rw [List.map_nil]; exact Paired.nil
  | _, _, .cons n t h => by rw [List.map_cons]; exact Paired.cons (show RelV (V.int n) (Value.int n t) from ⟨t, rfl⟩) (vals_of_ints h)
theorem Vals.strs : ∀ {xs : List Str} {us : List Value}, Vals (xs.map V.str) us → StrsAre us xs
  | [], us, h => by
    rw [List.map_nil] at h
    cases h
    exact StrsAre.nil
  | x :: xs, us, h => by
    rw [List.map_cons] at h
    cases h with
    | cons r t =>
      obtain ⟨k, rfl⟩ := r
      exact StrsAre.cons x k (Vals.strs t)
theorem vals_of_strs : ∀ {us : List Value} {xs : List Str}, StrsAre us xs → Vals (xs.map V.str) us
  | _, _, .nil => by rw [List.map_nil]; exact Paired.nil
  | _, _, .cons x t h => by rw [List.map_cons]; exact Paired.cons (show RelV (V.str x) (Value.str x t) from ⟨t, rfl⟩) (vals_of_strs h)
theorem Vals.bls : ∀ {bs : List Bool} {us : List Value}, Vals (bs.map V.bl) us → us = bs.map Value.bool
  | [], us, h => by
    rw [List.map_nil] at h
    cases h
    rfl
  | b :: bs, us, h => by
    rw [List.map_cons] at h
    cases h with
    | cons r t =>
      cases r
      rw [Vals.bls t, List.map_cons]
theorem Vals.ref1 {a : Addr} {us : List Value} (r : Vals [V.ref a] us) : us = [Value.ref a] := by
  cases r with
  | cons r t =>
    cases t
    cases r
    rfl
theorem Vals.int2 {i j : Int} {us : List Value} (r : Vals [V.int i, V.int j] us) : ∃ t u, us = [Value.int i t, Value.int j u] := by
  cases r with
  | cons r t =>
    cases t with
    | cons r2 t2 =>
      cases t2
      obtain ⟨t, rfl⟩ := r
      obtain ⟨u, rfl⟩ := r2
      exact ⟨t, u, rfl⟩

/-! ### the library's walks over a list of ints, kept objects alone -/
section
variable {prog : Program} {w : World} {A : Around} {E : Value → Shared → Prop} {s : Shared} {l : Addr} {its : List Value} {ns : List Int} {Q : Value → Shared → Prop}
theorem sum_raw (hh : A.handled = none) (hl : s.heap.IsList l its.toArray) (hi : IntsAre its ns)
    (h : ∀ h' tk t', (∀ b o, s.heap.get? b = some o → h'.get? b = some o) → Q (.int ns.sum t') { s with heap := h', toks := tk }) : wpAny (model prog w) A (call (.builtin "sum") [.ref l]) Q E s := by
  obtain ⟨xs, e⟩ := hi.allInts.items
  have hn : numsOf (intItems xs).toList = ns := by rw [← e]; exact hi.numsOf
  rw [nums_intItems] at hn
  rw [e] at hl
  refine PySem.sum_intListG hh hl fun h' tk t' hk => ?_
  have := h h' tk t' hk
  rw [preSum_eq, List.take_of_length_le (by simp), hn]; exact this
theorem max_raw (hh : A.handled = none) (hl : s.heap.IsList l its.toArray) (hi : IntsAre its ns) (hne : 0 < ns.length)
    (h : ∀ h' tk M t', (∀ b o, s.heap.get? b = some o → h'.get? b = some o) → M ∈ ns → (∀ a, a ∈ ns → a ≤ M) → Q (.int M t') { s with heap := h', toks := tk }) : wpAny (model prog w) A (call (.builtin "max") [.ref l]) Q E s := by
  obtain ⟨xs, e⟩ := hi.allInts.items
  have hn : numsOf (intItems xs).toList = ns := by rw [← e]; exact hi.numsOf
  rw [nums_intItems] at hn
  subst hn
  rw [e] at hl
  have hsz : 0 < xs.size := by simpa using hne
  refine PySem.max_intList hh hl hsz fun v h' tk hv hk => ?_
  obtain ⟨t, rfl⟩ := intItems_at hv
  obtain ⟨h1, h2⟩ := argBest_gt (numAt xs) (xs.size - 1)
  refine h h' tk _ t hk ?_ fun a ha => ?_
  · rw [numAt_eq]; exact PySem.getD_mem (by rw [List.length_map, Array.length_toList]; omega)
  · obtain ⟨j, hj, rfl⟩ := mem_getD ha
    rw [List.length_map, Array.length_toList] at hj
    rw [← numAt_eq]; exact h2 j (by omega)
theorem min_raw (hh : A.handled = none) (hl : s.heap.IsList l its.toArray) (hi : IntsAre its ns) (hne : 0 < ns.length)
    (h : ∀ h' tk M t', (∀ b o, s.heap.get? b = some o → h'.get? b = some o) → M ∈ ns → (∀ a, a ∈ ns → M ≤ a) → Q (.int M t') { s with heap := h', toks := tk }) : wpAny (model prog w) A (call (.builtin "min") [.ref l]) Q E s := by
  obtain ⟨xs, e⟩ := hi.allInts.items
  have hn : numsOf (intItems xs).toList = ns := by rw [← e]; exact hi.numsOf
  rw [nums_intItems] at hn
  subst hn
  rw [e] at hl
  have hsz : 0 < xs.size := by simpa using hne
  refine PySem.min_intList hh hl hsz fun v h' tk hv hk => ?_
  obtain ⟨t, rfl⟩ := intItems_at hv
  obtain ⟨h1, h2⟩ := argBest_lt (numAt xs) (xs.size - 1)
  refine h h' tk _ t hk ?_ fun a ha => ?_
  · rw [numAt_eq]; exact PySem.getD_mem (by rw [List.length_map, Array.length_toList]; omega)
  · obtain ⟨j, hj, rfl⟩ := mem_getD ha
    rw [List.length_map, Array.length_toList] at hj
    rw [← numAt_eq]; exact h2 j (by omega)
end

/-! ### the calls, by values (CallR of 03t; MtR of 06l) -/
section
variable {X : Cx}
/-- sum(xs) of a list of ints -/
def rSum (K : PySem.W.Frag) : List V → Hp → VK → Prop := fun vs H Q => ∃ (a : Addr) (ns : List Int), vs = [V.ref a] ∧ SqL K H a (ns.map V.int) ∧ Q (.int ns.sum) H
/-- max(xs), min(xs) of a list of ints -/
def rMax (K : PySem.W.Frag) : List V → Hp → VK → Prop := fun vs H Q => ∃ (a : Addr) (ns : List Int), vs = [V.ref a] ∧ SqL K H a (ns.map V.int) ∧ 0 < ns.length ∧ ∀ m, m ∈ ns → (∀ y, y ∈ ns → y ≤ m) → Q (.int m) H
def rMin (K : PySem.W.Frag) : List V → Hp → VK → Prop := fun vs H Q => ∃ (a : Addr) (ns : List Int), vs = [V.ref a] ∧ SqL K H a (ns.map V.int) ∧ 0 < ns.length ∧ ∀ m, m ∈ ns → (∀ y, y ∈ ns → m ≤ y) → Q (.int m) H
theorem cr_sum (hc : X.calm = true) : CallR X (.builtin "sum") (rSum X.K) := by
  intro pins s σ H vs us Q I r h
  obtain ⟨a, ns, rfl, hs, q⟩ := h
  obtain ⟨its, rv, hl, _⟩ := I.list hs
  rw [Vals.ref1 r]
  exact sum_raw (I.ok.hd hc) hl.isList rv.ints fun h' tk t' hk => ⟨.int _, H, I.kept hk, ⟨_, rfl⟩, q⟩
theorem cr_max (hc : X.calm = true) : CallR X (.builtin "max") (rMax X.K) := by
  intro pins s σ H vs us Q I r h
  obtain ⟨a, ns, rfl, hs, hne, q⟩ := h
  obtain ⟨its, rv, hl, _⟩ := I.list hs
  rw [Vals.ref1 r]
  exact max_raw (I.ok.hd hc) hl.isList rv.ints hne fun h' tk m t' hk h1 h2 => ⟨.int _, H, I.kept hk, ⟨_, rfl⟩, q m h1 h2⟩
theorem cr_min (hc : X.calm = true) : CallR X (.builtin "min") (rMin X.K) := by
  intro pins s σ H vs us Q I r h
  obtain ⟨a, ns, rfl, hs, hne, q⟩ := h
  obtain ⟨its, rv, hl, _⟩ := I.list hs
  rw [Vals.ref1 r]
  exact min_raw (I.ok.hd hc) hl.isList rv.ints hne fun h' tk m t' hk h1 h2 => ⟨.int _, H, I.kept hk, ⟨_, rfl⟩, q m h1 h2⟩

/-! sorted, sort (fewer than 64 items: the library's own bound) -/
def rSorted (K : PySem.W.Frag) : List V → Hp → VK → Prop := fun vs H Q => ∃ (a : Addr) (ns : List Int), vs = [V.ref a] ∧ SqL K H a (ns.map V.int) ∧ ns.length < 64 ∧
  ∀ (ns' : List Int) (p : Addr), ns'.Perm ns → ns'.Pairwise (· ≤ ·) → H p = none → Q (.ref p) (upd H p (.lst (ns'.map V.int)))
def rSortedS (K : PySem.W.Frag) : List V → Hp → VK → Prop := fun vs H Q => ∃ (a : Addr) (xs : List Str), vs = [V.ref a] ∧ SqL K H a (xs.map V.str) ∧ xs.length < 64 ∧
  ∀ (ys : List Str) (p : Addr), ys.Perm xs → sortedS ys = true → H p = none → Q (.ref p) (upd H p (.lst (ys.map V.str)))
theorem small64 {n : Nat} (h : n < 64) : n ≤ sizeLine := by rw [sizeLine_eq]; omega
theorem cr_sorted : CallR X (.builtin "sorted") (rSorted X.K) := by
  intro pins s σ H vs us Q I r h
  obtain ⟨a, ns, rfl, hs, h64, q⟩ := h
  obtain ⟨its, rv, hl, _⟩ := I.list hs
  rw [Vals.ref1 r]
  have hi := rv.ints
  refine PyProof.Rows.sorted_ints hl.isList hi (by rw [hi.length]; exact h64) fun out ns' h1 h2 h3 => ?_
  obtain ⟨ep, he'⟩ := PyProof.Rows.sortedAll_at s.heap its out
  have hlen : (ns'.map V.int).length ≤ sizeLine := by rw [List.length_map, h2.length_eq]; exact small64 h64
  exact ⟨.ref _, upd H (s.heap.objs.size + 1) (.lst (ns'.map V.int)), I.laid (t' := s.toks) (fun _ _ => PyProof.Rows.sortedAll_old) (Nat.le_succ _) ⟨hlen, out.toList, ep, vals_of_ints h1, he'⟩, rfl, q ns' _ h2 h3 (I.hok.fresh (Nat.le_succ _))⟩
theorem cr_sortedS : CallR X (.builtin "sorted") (rSortedS X.K) := by
  intro pins s σ H vs us Q I r h
  obtain ⟨a, xs, rfl, hs, h64, q⟩ := h
  obtain ⟨its, rv, hl, _⟩ := I.list hs
  rw [Vals.ref1 r]
  have hlen0 := rv.length
  rw [List.length_map] at hlen0
  refine PyProof.Rows.sorted_strs hl.isList rv.strs (by rw [← hlen0]; exact h64) fun out ys h1 h2 h3 => ?_
  obtain ⟨ep, he'⟩ := PyProof.Rows.sortedAll_at s.heap its out
  have hlen : (ys.map V.str).length ≤ sizeLine := by rw [List.length_map, h2.length_eq]; exact small64 h64
  exact ⟨.ref _, upd H (s.heap.objs.size + 1) (.lst (ys.map V.str)), I.laid (t' := s.toks) (fun _ _ => PyProof.Rows.sortedAll_old) (Nat.le_succ _) ⟨hlen, out.toList, ep, vals_of_strs h1, he'⟩, rfl, q ys _ h2 h3 (I.hok.fresh (Nat.le_succ _))⟩
/-- xs.sort(), ints -/
def rSort : V → List V → Hp → VK → Prop := fun x xs H Q => ∃ (a : Addr) (ns : List Int), x = V.ref a ∧ xs = [] ∧ H a = some (.lst (ns.map V.int)) ∧ ns.length < 64 ∧
  ∀ ns' : List Int, ns'.Perm ns → ns'.Pairwise (· ≤ ·) → Q .non (upd H a (.lst (ns'.map V.int)))
theorem mt_sort : MtR X "list.sort" rSort := by
  intro pins s σ H x xs v us Q I rx rxs h
  obtain ⟨a, ns, rfl, rfl, ha, h64, q⟩ := h
  cases rx
  cases rxs
  obtain ⟨hz, its, n, rv, hob⟩ := I.hok a _ ha
  have hi := rv.ints
  refine wpAny_call_entry PyProof.Rows.slot_list_sort ⟨_, hob, rfl⟩ PyProof.Rows.entry_list_sort
    (PyProof.Rows.list_sort_tree hob hi (by rw [hi.length]; exact h64) fun out ns' h1 h2 h3 => ⟨.none, rfl, ?_⟩) (PyProof.Rows.args_list_sort _)
  obtain ⟨ep, he'⟩ := PyProof.Rows.sortedHeap_at (vs := its) (out := out) hob
  have hlen : (ns'.map V.int).length ≤ sizeLine := by rw [List.length_map, h2.length_eq]; exact small64 h64
  refine ⟨.non, upd H a (.lst (ns'.map V.int)), I.write (e := a) (t' := s.toks) (by rw [ha]; trivial) (.inl rfl) (fun b u hb hu => ?_) ⟨_, he'⟩ ⟨hlen, out.toList, ep, vals_of_ints h1, he'⟩, rfl, q ns' h2 h3⟩
  rw [PyProof.Rows.sortedHeap_old hb (Heap.lt_size hu)]; exact hu
end

/-! ### list.index, flat items -/
section
variable {X : Cx}
def rIndex (K : PySem.W.Frag) : V → List V → Hp → VK → Prop := fun x xs H Q => ∃ (a : Addr) (ys : List V) (y : V) (j : Nat) (z : V), x = V.ref a ∧ xs = [y] ∧ SqL K H a ys ∧ flatV y = true ∧ ys.all flatV = true ∧ ys[j]? = some z ∧ eqV z y = true ∧
  (∀ (m : Nat) (z' : V), m < j → ys[m]? = some z' → eqV z' y = false) ∧ Q (.int (j : Nat)) H
theorem flat_at {ys : List V} (f : ys.all flatV = true) {j : Nat} {z : V} (h : ys[j]? = some z) : flatV z = true := List.all_eq_true.mp f z (List.mem_of_getElem? h)
theorem mt_index : MtR X "list.index" (rIndex X.K) := by
  intro pins s σ H x xs v us Q I rx rxs h
  obtain ⟨a, ys, y, j, z, rfl, rfl, hs, fy, fys, hz, hzj, hno, q⟩ := h
  cases rx
  cases rxs with
  | cons ry rt =>
    rename_i uy ut
    cases rt
    obtain ⟨its, rv, ⟨⟨cls, dd, data, sl⟩, n, ho, hc, hdn, hd⟩, hlen⟩ := I.list hs
    simp only at hc hd
    subst hc hd
    obtain ⟨u, hu, ru⟩ := rv.get hz
    obtain ⟨hjl, hje⟩ := List.getElem?_eq_some_iff.mp hu
    have hvl := rv.length
    have hj : j < its.toArray.size := by simpa using hjl
    have hsl := sizeLine_eq
    refine call_meets PySem.F.slot_list_index ⟨_, ho, rfl⟩ PySem.F.entry_list_index (PySem.F.args_list_index_2 _ _)
      (SeqAt.list_indexAt a its.toArray n dd sl uy (eqU y) j hj (by omega) ?_ ?_) ⟨ho, fun u' hu' => mem_eqAt ry fy rv fys u' (by simpa using hu'), ?_⟩
    · have e1 : its.toArray[j] = u := by simpa using hje
      rw [e1, eqU_of ru (flat_at fys hz)]
      exact hzj
    · intro m hm hmj
      have hml : m < its.length := by simpa using hm
      have hmy : m < ys.length := by omega
      have hy' : ys[m]? = some ys[m] := List.getElem?_eq_getElem hmy
      obtain ⟨u2, hu2, ru2⟩ := rv.get hy'
      obtain ⟨_, hme⟩ := List.getElem?_eq_some_iff.mp hu2
      have e1 : its.toArray[m] = u2 := by simpa using hme
      rw [e1, eqU_of ru2 (flat_at fys hy')]
      exact hno m _ hmj hy'
    · exact ⟨.int (j : Nat), H, I.tok _, ⟨_, rfl⟩, q⟩
end

/-! ### type(x) of an own instance; is, is not of a module's class -/
section
variable {X : Cx}
theorem cr_type : CallR X (.type "type") (fun xs H Q => ∃ a C dx fs, xs = [V.ref a] ∧ H a = some (.ins C dx fs) ∧ Q (.ref C) H) := by
  intro pins s σ H xs us Q I r h
  obtain ⟨a, C, dx, fs, rfl, ha, q⟩ := h
  rw [Vals.ref1 r]
  obtain ⟨mA, O, _⟩ := ins_get I.hok ha
  obtain ⟨od, J, _⟩ := O.look
  exact PySem.W.kto_own J ⟨.ref C, H, I, rfl, q⟩
/-- an object of the module whose class is no tuple: a class of the text (makesIn says that its type is a type's heir) -/
theorem cls_there {K : PySem.W.Frag} {C : Addr} (h : PySem.W.makesIn K C = true) : ∃ o, K.lookup C = some o ∧ o.cls ≠ .type "tuple" := by
  unfold PySem.W.makesIn at h
  split at h
  · rename_i oc od cd sl ho
    refine ⟨_, ho, fun e => ?_⟩
    rw [Bool.and_eq_true] at h
    have h2 : PySem.W.instIn K (.ref C) (.type "type") = some true := beq_iff_eq.mp h.2
    have e2 : oc = .type "tuple" := e
    have h3 : PySem.W.instIn K (.ref C) (.type "type") = PySem.W.subIn K oc (.type "type") := by
      show ((K.lookup C).map (fun o => o.cls)).bind (fun t => PySem.W.subIn K t (.type "type")) = _
      rw [ho]
      all_goals rfl
    rw [h3, e2] at h2
    have h4 : PySem.W.subIn K (.type "tuple") (.type "type") = some false := by
      show (fastBuiltinMro "tuple").map (·.contains (.type "type")) = some false
      decide +kernel
    rw [h4] at h2
    cases h2
  · cases h
theorem op_is_cls : OpR X (compareOp .Is) (fun x y H Q => ∃ a b, x = V.ref a ∧ y = V.ref b ∧ (a = b ∨ (PySem.W.makesIn X.K a = true ∧ PySem.W.makesIn X.K b = true)) ∧ Q (.bl (decide (a = b))) H) := by
  intro pins s σ H x y v u Q I rx ry h
  obtain ⟨a, b, rfl, rfl, hab, q⟩ := h
  cases rx
  cases ry
  by_cases z : a = b
  · subst z
    exact wpAny_is_ref_self ⟨.bl _, H, I, by simp [RelV], q⟩
  · rcases hab with e | ⟨h1, h2⟩
    · exact absurd e z
    · obtain ⟨o1, e1, n1⟩ := cls_there h1
      obtain ⟨o2, e2, _⟩ := cls_there h2
      exact wpAny_is_ref_other z (I.kIn _ _ e1) (I.kIn _ _ e2) n1 ⟨.bl _, H, I, by simp [RelV, z], q⟩
theorem op_isnot_cls : OpR X (compareOp .IsNot) (fun x y H Q => ∃ a b, x = V.ref a ∧ y = V.ref b ∧ (a = b ∨ (PySem.W.makesIn X.K a = true ∧ PySem.W.makesIn X.K b = true)) ∧ Q (.bl (!decide (a = b))) H) := by
  intro pins s σ H x y v u Q I rx ry h
  obtain ⟨a, b, rfl, rfl, hab, q⟩ := h
  cases rx
  cases ry
  by_cases z : a = b
  · subst z
    exact wpAny_isNot_ref_self ⟨.bl _, H, I, by simp [RelV], q⟩
  · rcases hab with e | ⟨h1, h2⟩
    · exact absurd e z
    · obtain ⟨o1, e1, n1⟩ := cls_there h1
      obtain ⟨o2, e2, _⟩ := cls_there h2
      exact wpAny_isNot_ref_other z (I.kIn _ _ e1) (I.kIn _ _ e2) n1 ⟨.bl _, H, I, by simp [RelV, z], q⟩
end

/-! ### any(xs), all(xs) of a list of bools -/
theorem iter_any {prog : Program} {w : World} {A : Around} {E : Value → Shared → Prop} {s : Shared} {l : Addr} {items : Array Value} {Q : Value → Shared → Prop} (hl : s.heap.IsList l items)
    (h : ∀ s₂ : Shared, s₂ = { s with heap := s.heap.push { cls := .type "list_iterator", data := .fields #[.ref l, .int 0 0] } } →
      (s₂.heap.IsListIter s.heap.objs.size l 0 ∧ s₂.heap.IsList l items) → l ≠ s.heap.objs.size → Q (.ref s.heap.objs.size) s₂) : wpAny (model prog w) A (pyIter (.ref l)) Q E s := by
  have hlt : l < s.heap.objs.size := by obtain ⟨_, e, _⟩ := hl; exact Heap.lt_size e
  exact wpAny_pyIter_list hl (h _ rfl ⟨⟨_, Heap.get?_push_size _ rfl, rfl, rfl⟩, hl.push _⟩ (Nat.ne_of_lt hlt))
theorem truth_bools {prog : Program} {w : World} {A : Around} {bs : List Bool} {its : List Value} (e : its = bs.map Value.bool) :
    TruthOf prog w A (fun i v => its.toArray[i]? = some v) (fun i => bs.getD i false) := fun i v s Q E hv hq => by
  have hv' : its[i]? = some v := by simpa using hv
  rw [e, List.getElem?_map] at hv'
  obtain ⟨b, hb, rfl⟩ := Option.map_eq_some_iff.mp hv'
  have hg : bs.getD i false = b := by rw [List.getD_eq_getElem?_getD, hb] <;> rfl
  have hq' : Q (bs.getD i false) s := hq
  rw [hg] at hq'
  exact wpAny_truthy_bool hq'
theorem any_range : ∀ bs : List Bool, (List.range bs.length).any (fun i => bs.getD i false) = bs.any id
  | [] => rfl
  | b :: bs => by
    rw [List.length_cons, List.range_succ_eq_map, List.any_cons, List.any_map, List.any_cons, ← any_range bs]
    all_goals rfl
theorem all_range : ∀ bs : List Bool, (List.range bs.length).all (fun i => bs.getD i false) = bs.all id
  | [] => rfl
  | b :: bs => by
    rw [List.length_cons, List.range_succ_eq_map, List.all_cons, List.all_map, List.all_cons, ← all_range bs]
    all_goals rfl
section
variable {X : Cx}
def rAny (K : PySem.W.Frag) : List V → Hp → VK → Prop := fun vs H Q => ∃ (a : Addr) (bs : List Bool), vs = [V.ref a] ∧ SqL K H a (bs.map V.bl) ∧ Q (.bl (bs.any id)) H
def rAll (K : PySem.W.Frag) : List V → Hp → VK → Prop := fun vs H Q => ∃ (a : Addr) (bs : List Bool), vs = [V.ref a] ∧ SqL K H a (bs.map V.bl) ∧ Q (.bl (bs.all id)) H
theorem cr_any (hc : X.calm = true) : CallR X (.builtin "any") (rAny X.K) := by
  intro pins s σ H vs us Q I r h
  obtain ⟨a, bs, rfl, hs, q⟩ := h
  obtain ⟨its, rv, hl, _⟩ := I.list hs
  rw [Vals.ref1 r]
  have hb := rv.bls
  refine call_any_walk (iter_any hl.isList fun s₂ e2 st hne => ?_)
  subst e2
  refine ⟨_, _, _, _, _, _, _, rfl, Walks.list (A := X.A.in1) (I.ok.hd hc) _ a hne its.toArray, st, truth_bools hb, fun h' tk hk => ?_⟩
  refine ⟨.bl _, H, I.kept fun b o eo => hk b o (fun hmem => ?_) (Heap.get?_push_of_some _ eo), ?_, q⟩
  · rcases List.mem_cons.mp hmem with e1 | hmem
    · exact absurd (e1 ▸ Heap.lt_size eo) (Nat.lt_irrefl _)
    · cases hmem
  · show Value.bool _ = Value.bool _
    rw [← any_range, hb, List.size_toArray, List.length_map]
theorem cr_all (hc : X.calm = true) : CallR X (.builtin "all") (rAll X.K) := by
  intro pins s σ H vs us Q I r h
  obtain ⟨a, bs, rfl, hs, q⟩ := h
  obtain ⟨its, rv, hl, _⟩ := I.list hs
  rw [Vals.ref1 r]
  have hb := rv.bls
  refine call_all_walk (iter_any hl.isList fun s₂ e2 st hne => ?_)
  subst e2
  refine ⟨_, _, _, _, _, _, _, rfl, Walks.list (A := X.A.in1) (I.ok.hd hc) _ a hne its.toArray, st, truth_bools hb, fun h' tk hk => ?_⟩
  refine ⟨.bl _, H, I.kept fun b o eo => hk b o (fun hmem => ?_) (Heap.get?_push_of_some _ eo), ?_, q⟩
  · rcases List.mem_cons.mp hmem with e1 | hmem
    · exact absurd (e1 ▸ Heap.lt_size eo) (Nat.lt_irrefl _)
    · cases hmem
  · show Value.bool _ = Value.bool _
    rw [← all_range, hb, List.size_toArray, List.length_map]
end

/-! ### == and != of data at any depth: none, bools, ints, texts, lists, tuples -/
mutual
inductive Dp (K : PySem.W.Frag) (H : Hp) : V → PyData → Prop
  | non : Dp K H .non .none
  | bl (b : Bool) : Dp K H (.bl b) (.bool b)
  | int (i : Int) : Dp K H (.int i) (.int i)
  | str (x : Str) : Dp K H (.str x) (.str x)
  | lst {a : Addr} {xs : List V} {ds : List PyData} : SqL K H a xs → DpAll K H xs ds → Dp K H (.ref a) (.list ds)
  | tup {a : Addr} {xs : List V} {ds : List PyData} : SqT K H a xs → DpAll K H xs ds → Dp K H (.ref a) (.tuple ds)
inductive DpAll (K : PySem.W.Frag) (H : Hp) : List V → List PyData → Prop
  | nil : DpAll K H [] []
  | cons {v : V} {vs : List V} {d : PyData} {ds : List PyData} : Dp K H v d → DpAll K H vs ds → DpAll K H (v :: vs) (d :: ds)
end
section
variable {X : Cx} {pins : List (Addr × Obj)} {σ : St} {H : Hp} {s : Shared}
mutual
theorem Dp.reads (I : Inv X pins σ H s) : ∀ (d : PyData) (v : V) (u : Value), Dp X.K H v d → RelV v u → ∃ as, Reads s.heap u d as
  | .none, _, _, h, r => by
    cases h
    cases r
    exact ⟨_, Reads.none⟩
  | .bool b, _, _, h, r => by
    cases h
    cases r
    exact ⟨_, Reads.bool b⟩
  | .int i, _, _, h, r => by
    cases h
    obtain ⟨t, rfl⟩ := r
    exact ⟨_, Reads.int i t⟩
  | .str x, _, _, h, r => by
    cases h
    obtain ⟨t, rfl⟩ := r
    exact ⟨_, Reads.str x t⟩
  | .list ds, _, _, h, r => by
    cases h with
    | lst hs ha =>
      cases r
      obtain ⟨its, rv, ⟨o, n, ho, hc, _, hd⟩, _⟩ := I.list hs
      obtain ⟨as, hr⟩ := Dp.readsAll I ds _ its ha rv
      exact ⟨_, Reads.list ho hc hd hr⟩
  | .tuple ds, _, _, h, r => by
    cases h with
    | tup hs ha =>
      cases r
      obtain ⟨its, rv, ⟨o, ho, hc, n, hd⟩, _⟩ := I.tuple hs
      obtain ⟨as, hr⟩ := Dp.readsAll I ds _ its ha rv
      exact ⟨_, Reads.tuple ho hc hd hr⟩
  | .dict _, _, _, h, _ => by cases h
theorem Dp.readsAll (I : Inv X pins σ H s) : ∀ (ds : List PyData) (vs : List V) (us : List Value), DpAll X.K H vs ds → Vals vs us → ∃ as, ReadsAll s.heap us ds as
  | [], _, _, h, r => by
    cases h
    cases r
    exact ⟨_, ReadsAll.nil⟩
  | d :: ds, _, _, h, r => by
    cases h with
    | cons h1 h2 =>
      cases r with
      | cons r1 r2 =>
        obtain ⟨as, q1⟩ := Dp.reads I d _ _ h1 r1
        obtain ⟨bs, q2⟩ := Dp.readsAll I ds _ _ h2 r2
        exact ⟨_, ReadsAll.cons q1 q2⟩
end
end
section
variable {X : Cx}
def rEqD (K : PySem.W.Frag) : R2 := fun x y H Q => ∃ d e, Dp K H x d ∧ Dp K H y e ∧ SeqAt.shaped d = true ∧ SeqAt.shaped e = true ∧ Q (.bl (PyData.eqv d e)) H
def rNeD (K : PySem.W.Frag) : R2 := fun x y H Q => ∃ d e, Dp K H x d ∧ Dp K H y e ∧ SeqAt.shaped d = true ∧ SeqAt.shaped e = true ∧ Q (.bl (!PyData.eqv d e)) H
theorem op_eqD (hu : X.A.units + 64 < cLine) : OpR X (compareOp .Eq) (rEqD X.K) := by
  intro pins s σ H x y v u Q I rx ry h
  obtain ⟨d, e, hd, he, sd, se, q⟩ := h
  obtain ⟨as, r1⟩ := Dp.reads I d x v hd rx
  obtain ⟨bs, r2⟩ := Dp.reads I e y u he ry
  exact SeqAt.compareEq_shaped r1 r2 sd se hu ⟨.bl _, H, I, rfl, q⟩
theorem op_neD (hu : X.A.units + 64 < cLine) : OpR X (compareOp .NotEq) (rNeD X.K) := by
  intro pins s σ H x y v u Q I rx ry h
  obtain ⟨d, e, hd, he, sd, se, q⟩ := h
  obtain ⟨as, r1⟩ := Dp.reads I d x v hd rx
  obtain ⟨bs, r2⟩ := Dp.reads I e y u he ry
  exact SeqAt.compareNe_shaped r1 r2 sd se hu ⟨.bl _, H, I, rfl, q⟩
end
end L2

namespace L2
open PySem PySem.Spec PyProof.Rows
abbrev CellAt (h : Heap) (c : Addr) (v : Option Value) : Prop := h.IsCell c v
def relS (scope sc : Scope) : Scope :=
  { scope with names := scope.names.map fun (n, k) => if (k == .free && sc.kind == .function && sc.names.lookup n == some .cell) then (n, .cell) else (n, k) }

def cloFrom (cells : List (Str × Addr)) : List (Str × NameKind) → List (Str × Addr) → List (Str × Addr)
  | [], acc => acc
  | (n, k) :: r, acc => if k == .free then cloFrom cells r ((n, (cells.lookup n).getD 0) :: acc) else cloFrom cells r acc

theorem closure_loop (env : Env) (f : Str × NameKind → List (Str × Addr) → Sem (ForInStep (List (Str × Addr))))
    (hf : ∀ n k c, f (n, k) c = if k == .free then (do let a ← cellOf env n; pure (.yield ((n, a) :: c))) else pure (.yield c)) :
    ∀ (names : List (Str × NameKind)) (acc : List (Str × Addr)), (∀ y ∈ names, y.2 = .free → ∃ c, env.cells.lookup y.1 = some c) → forIn names acc f = pure (cloFrom env.cells names acc)
  | [], acc, _ => by rw [List.forIn_nil]; rfl
  | (n, k) :: r, acc, h => by
    rw [List.forIn_cons, hf]
    have ih := fun acc => closure_loop env f hf r acc fun y hy => h y (List.mem_cons_of_mem _ hy)
    unfold cloFrom
    by_cases hk : (k == NameKind.free) = true
    · rw [if_pos hk, if_pos hk]
      obtain ⟨c, hc⟩ := h (n, k) List.mem_cons_self (by simpa using hk)
      have e : cellOf env n = pure c := by unfold cellOf; rw [hc]
      rw [e]
      have e2 : (env.cells.lookup n).getD 0 = c := by rw [hc]; rfl
      rw [e2]
      exact ih _
    · rw [if_neg hk, if_neg hk]
      exact ih _
theorem closure_ok {scope : Scope} {env : Env} (h : ∀ y ∈ scope.names, y.2 = .free → ∃ c, env.cells.lookup y.1 = some c) : closureFor scope env = pure (cloFrom env.cells scope.names []) := by
  simp only [closureFor]
  rw [closure_loop env _ (fun n k c => rfl) scope.names [] h]
  rfl

theorem mem_lookup {α : Type} : ∀ {l : List (Str × α)} {n : Str} {c : α}, (n, c) ∈ l → ∃ c', l.lookup n = some c'
  | (k, v) :: r, n, c, h => by
    rw [List.lookup_cons]
    cases hb : n == k with
    | true => exact ⟨_, rfl⟩
    | false =>
      rcases List.mem_cons.mp h with e | h
      · cases e; simp at hb
      · exact mem_lookup h

theorem cloFrom_mem {cells : List (Str × Addr)} : ∀ {names : List (Str × NameKind)} {acc : List (Str × Addr)} {n : Str} {c : Addr}, (n, c) ∈ cloFrom cells names acc → (n, c) ∈ acc ∨ ((n, .free) ∈ names ∧ c = (cells.lookup n).getD 0)
  | [], _, _, _, h => .inl h
  | (m, k) :: r, acc, n, c, h => by
    unfold cloFrom at h
    split at h
    · rename_i hk
      have hk : k = .free := by simpa using hk
      rcases cloFrom_mem h with h | ⟨h1, h2⟩
      · rcases List.mem_cons.mp h with e | h
        · cases e; exact .inr ⟨hk ▸ List.mem_cons_self, rfl⟩
        · exact .inl h
      · exact .inr ⟨List.mem_cons_of_mem _ h1, h2⟩
    · rcases cloFrom_mem h with h | ⟨h1, h2⟩
      · exact .inl h
      · exact .inr ⟨List.mem_cons_of_mem _ h1, h2⟩
theorem cloFrom_acc {cells : List (Str × Addr)} : ∀ {names : List (Str × NameKind)} {acc : List (Str × Addr)} {p : Str × Addr}, p ∈ acc → p ∈ cloFrom cells names acc
  | [], _, _, h => h
  | (m, k) :: r, acc, p, h => by
    unfold cloFrom
    split
    · exact cloFrom_acc (List.mem_cons_of_mem _ h)
    · exact cloFrom_acc h
theorem cloFrom_has {cells : List (Str × Addr)} : ∀ {names : List (Str × NameKind)} {acc : List (Str × Addr)} {n : Str}, (n, .free) ∈ names → (n, (cells.lookup n).getD 0) ∈ cloFrom cells names acc
  | (m, k) :: r, acc, n, h => by
    unfold cloFrom
    rcases List.mem_cons.mp h with e | h
    · cases e
      exact cloFrom_acc List.mem_cons_self
    · split
      · exact cloFrom_has h
      · exact cloFrom_has h

theorem cells_mem : ∀ {names : List (Str × NameKind)} {h : Heap} {acc : List (Str × Addr)} {x : Str} {c : Addr}, (x, c) ∈ cellsFrom h.objs.size names acc →
    (x, c) ∈ acc ∨ ((x, .cell) ∈ names ∧ h.objs.size ≤ c ∧ CellAt (pushCells h names) c none)
  | [], _, _, _, _, h => .inl h
  | (n, k) :: r, h, acc, x, c, hm => by
    unfold cellsFrom at hm
    unfold pushCells
    split at hm
    · rename_i hk
      rw [if_pos hk]
      have hk : k = .cell := by simpa using hk
      rw [← Heap.size_push h { cls := .type "cell", data := .cell none }] at hm
      rcases cells_mem hm with hm | ⟨h1, h2, h3⟩
      · rcases List.mem_cons.mp hm with e | hm
        · cases e
          exact .inr ⟨hk ▸ List.mem_cons_self, Nat.le_refl _, _, pushCells_keeps r _ _ _ (Heap.get?_push_size _ rfl), rfl⟩
        · exact .inl hm
      · rw [Heap.size_push] at h2
        exact .inr ⟨List.mem_cons_of_mem _ h1, Nat.le_of_succ_le h2, h3⟩
    · rename_i hk
      rw [if_neg hk]
      rcases cells_mem hm with hm | ⟨h1, h2, h3⟩
      · exact .inl hm
      · exact .inr ⟨List.mem_cons_of_mem _ h1, h2, h3⟩
theorem cells_acc : ∀ {names : List (Str × NameKind)} {n : Nat} {acc : List (Str × Addr)} {p : Str × Addr}, p ∈ acc → p ∈ cellsFrom n names acc
  | [], _, _, _, h => h
  | (m, k) :: r, n, acc, p, h => by
    unfold cellsFrom
    split
    · exact cells_acc (List.mem_cons_of_mem _ h)
    · exact cells_acc h
theorem cells_has : ∀ {names : List (Str × NameKind)} {n : Nat} {acc : List (Str × Addr)} {x : Str}, (x, .cell) ∈ names → ∃ c, (x, c) ∈ cellsFrom n names acc
  | (m, k) :: r, n, acc, x, h => by
    unfold cellsFrom
    rcases List.mem_cons.mp h with e | h
    · cases e
      exact ⟨n, cells_acc List.mem_cons_self⟩
    · split
      · exact cells_has h
      · exact cells_has h
theorem cells_inj : ∀ {names : List (Str × NameKind)} {h : Heap} {acc : List (Str × Addr)} {x y : Str} {c : Addr}, (∀ p ∈ acc, p.2 < h.objs.size) → (∀ x y c, (x, c) ∈ acc → (y, c) ∈ acc → x = y) →
    (x, c) ∈ cellsFrom h.objs.size names acc → (y, c) ∈ cellsFrom h.objs.size names acc → x = y
  | [], _, _, _, _, _, _, hi, h1, h2 => hi _ _ _ h1 h2
  | (n, k) :: r, h, acc, x, y, c, hl, hi, h1, h2 => by
    unfold cellsFrom at h1 h2
    split at h1
    · rename_i hk
      rw [if_pos hk] at h2
      rw [← Heap.size_push h { cls := .type "cell", data := .cell none }] at h1 h2
      refine cells_inj (h := h.push _) (fun p hp => ?_) (fun x y c a b => ?_) h1 h2
      · rw [Heap.size_push]
        rcases List.mem_cons.mp hp with rfl | hp
        · exact Nat.lt_succ_self _
        · exact Nat.lt_succ_of_lt (hl p hp)
      · rcases List.mem_cons.mp a with e | a <;> rcases List.mem_cons.mp b with e' | b
        · cases e; cases e'; rfl
        · cases e; exact absurd (hl _ b) (Nat.lt_irrefl _)
        · cases e'; exact absurd (hl _ a) (Nat.lt_irrefl _)
        · exact hi _ _ _ a b
    · rename_i hk
      rw [if_neg hk] at h2
      exact cells_inj hl hi h1 h2

theorem newEnv_comp {M : Model} {A : Around} {E : Value → Shared → Prop} {s : Shared} {scope : Scope} {globals : Addr} {closure : List (Str × Addr)} {qual : Str} {func : Option Addr} {code : Value} {around : Env} {builtins : Addr} {Q : Env → Shared → Prop}
    (h : Q (newEnv scope s.heap.objs.size globals (cellsFrom (s.heap.objs.size + 1) scope.names closure) qual func code (some around) builtins)
      { s with heap := pushCells (s.heap.push { cls := .type "dict", data := .dict #[] }) scope.names }) :
    wpAny M A (newFunctionEnv scope globals closure [] qual func code (some around) builtins) Q E s := by
  simp only [newFunctionEnv, Option.isSome_some, if_true]
  refine wpAny_bind (wpAny_alloc ?_)
  refine wpAny_bind (wpAny_layCells _ (fun n k c => rfl) scope.names closure _ _ ?_)
  rw [show ({ s with heap := s.heap.push { cls := .type "dict", data := .dict #[] } } : Shared).heap.objs.size = s.heap.objs.size + 1 from Heap.size_push ..]
  rw [List.forIn_nil]
  exact wpAny_bind (wpAny_pure (wpAny_pure h))

/-- every name of the written scope, in the scope that runs -/
theorem lookup_relS {sc : Scope} : ∀ {names : List (Str × NameKind)} {x : Str} {k : NameKind},
    (names.map fun (n, k) => if (k == NameKind.free && sc.kind == .function && sc.names.lookup n == some .cell) then (n, NameKind.cell) else (n, k)).lookup x = some k →
    ∃ k', names.lookup x = some k' ∧ (k = k' ∨ (k' = .free ∧ k = .cell))
  | [], _, _, h => by simp at h
  | (n, k₀) :: r, x, k, h => by
    have ih := @lookup_relS sc r x k
    have h' : List.lookup x ((if (k₀ == NameKind.free && sc.kind == .function && sc.names.lookup n == some .cell) = true then (n, NameKind.cell) else (n, k₀)) :: (r.map _)) = some k := h
    cases hx : x == n with
    | true =>
      simp only [List.lookup_cons, hx]
      by_cases hc : (k₀ == NameKind.free && sc.kind == .function && sc.names.lookup n == some .cell) = true
      · rw [if_pos hc] at h'
        simp only [List.lookup_cons, hx] at h'
        cases h'
        simp only [Bool.and_eq_true, beq_iff_eq] at hc
        exact ⟨k₀, rfl, .inr ⟨hc.1.1, rfl⟩⟩
      · rw [if_neg hc] at h'
        simp only [List.lookup_cons, hx] at h'
        cases h'
        exact ⟨_, rfl, .inl rfl⟩
    | false =>
      simp only [List.lookup_cons, hx]
      by_cases hc : (k₀ == NameKind.free && sc.kind == .function && sc.names.lookup n == some .cell) = true
      · rw [if_pos hc] at h'
        simp only [List.lookup_cons, hx] at h'
        exact ih h'
      · rw [if_neg hc] at h'
        simp only [List.lookup_cons, hx] at h'
        exact ih h'
theorem lookup_relS_keep {sc : Scope} : ∀ {names : List (Str × NameKind)} {x : Str} {k : NameKind}, k ≠ .free → names.lookup x = some k →
    (names.map fun (n, k) => if (k == NameKind.free && sc.kind == .function && sc.names.lookup n == some .cell) then (n, NameKind.cell) else (n, k)).lookup x = some k
  | [], _, _, _, h => by simp at h
  | (n, k₀) :: r, x, k, hk, h => by
    have ih := @lookup_relS_keep sc r x k hk
    show List.lookup x ((if (k₀ == NameKind.free && sc.kind == .function && sc.names.lookup n == some .cell) = true then (n, NameKind.cell) else (n, k₀)) :: (r.map _)) = some k
    cases hx : x == n with
    | true =>
      simp only [List.lookup_cons, hx] at h
      cases h
      have : ¬ (k₀ == NameKind.free && sc.kind == .function && sc.names.lookup n == some .cell) = true := by simp [hk]
      rw [if_neg this]
      simp only [List.lookup_cons, hx]
    | false =>
      simp only [List.lookup_cons, hx] at h
      by_cases hc : (k₀ == NameKind.free && sc.kind == .function && sc.names.lookup n == some .cell) = true
      · rw [if_pos hc]; simp only [List.lookup_cons, hx]; exact ih h
      · rw [if_neg hc]; simp only [List.lookup_cons, hx]; exact ih h

theorem pushCells_size : ∀ (names : List (Str × NameKind)) (h : Heap), h.objs.size ≤ (pushCells h names).objs.size
  | [], _ => Nat.le_refl _
  | (_, k) :: r, h => by
    unfold pushCells
    split
    · refine Nat.le_trans ?_ (pushCells_size r _)
      rw [Heap.size_push]; exact Nat.le_succ _
    · exact pushCells_size r h


/-- the names of a comprehension's block: its own (with their places in N), or captured -/
structure BlkOk (N : List Str) (sc scope : Scope) (own : List (Str × Nat)) : Prop where
  kind : scope.kind = .function
  uniq : ∀ y ∈ scope.names, scope.names.lookup y.1 = some y.2
  ix : ∀ p ∈ own, N[p.2]? = some p.1
  free : ∀ y ∈ scope.names, y.2 = .free → sc.names.lookup y.1 = some .cell ∨ sc.names.lookup y.1 = some .free
  own : ∀ y ∈ scope.names, y.2 = .local ∨ y.2 = .cell → y.1 ∈ own.map (·.1) ∨ y.1 ∉ N
/-- the slots of the block's own names forgotten -/
def wipe (σ : St) : List Nat → St
  | [] => σ
  | v :: vs => (wipe σ vs).set v none
theorem wipe_length (σ : St) : ∀ vs : List Nat, (wipe σ vs).length = σ.length
  | [] => rfl
  | v :: vs => by unfold wipe; rw [List.length_set, wipe_length σ vs]
theorem wipe_some {σ : St} {i : Nat} {x : V} : ∀ {vs : List Nat}, (wipe σ vs)[i]? = some (some x) → σ[i]? = some (some x) ∧ i ∉ vs
  | [], h => ⟨h, by simp⟩
  | v :: vs, h => by
    unfold wipe at h
    by_cases hi : v = i
    · subst hi
      by_cases hv : v < (wipe σ vs).length
      · rw [List.getElem?_set_self hv] at h; cases h
      · rw [List.getElem?_eq_none (by simpa using hv)] at h; cases h
    · rw [List.getElem?_set_ne hi] at h
      obtain ⟨h1, h2⟩ := wipe_some h
      exact ⟨h1, by simp only [List.mem_cons, not_or]; exact ⟨fun e => hi e.symm, h2⟩⟩

/-- the context of a block that starts at s, its iterator's objects at fp -/
abbrev Cx.blk (X : Cx) (s : Shared) (H : Hp) (scope : Scope) (cenv : Env) (fp : List Addr) : Cx := { X with s_0 := s, H_0 := H, env := cenv, outer := X.stack, ex := fp, fn := fun x => scope.names.lookup x == some .cell, pn := [], xe := fun _ _ => False }
section
variable {X : Cx} {pins : List (Addr × Obj)} {σ : St} {H : Hp} {s : Shared}
theorem block_start {scope : Scope} {own : List (Str × Nat)} {fp : List Addr} (I : Inv X pins σ H s) (ok : BlkOk X.N X.env.scope scope own) (hN : X.N.Nodup) (hfp : ∀ b ∈ fp, FpOk X pins H b ∧ b < s.heap.objs.size) :
    Inv (X.blk s H scope (compEnvC scope (cellsFrom (s.heap.objs.size + 1) scope.names (cloFrom X.env.cells scope.names [])) s.heap.objs.size X.env) fp) [] (wipe σ (own.map (·.2))) H { s with heap := pushCells (s.heap.push { cls := .type "dict", data := .dict #[] }) scope.names } := by
  have hfree : ∀ y ∈ scope.names, y.2 = .free → ∃ c, X.env.cells.lookup y.1 = some c := fun y hy e => by
    rcases ok.free y hy e with k | k
    · exact I.ok.has _ (.inl k)
    · exact I.ok.has _ (.inr k)
  generalize hcenv : compEnvC scope (cellsFrom (s.heap.objs.size + 1) scope.names (cloFrom X.env.cells scope.names [])) s.heap.objs.size X.env = cenv
  have kp : ∀ b o, s.heap.get? b = some o → (pushCells (s.heap.push { cls := .type "dict", data := .dict #[] }) scope.names).get? b = some o := fun b o e => pushCells_keeps _ _ _ _ (Heap.get?_push_of_some _ e)
  have hL : cenv.locals = s.heap.objs.size := by rw [← hcenv]; rfl
  have hcl : cenv.cells = cellsFrom (s.heap.objs.size + 1) scope.names (cloFrom X.env.cells scope.names []) := by rw [← hcenv]; rfl
  have hsc : cenv.scope = relS scope X.env.scope := by rw [← hcenv]; rfl
  rw [← Heap.size_push s.heap { cls := .type "dict", data := .dict #[] }] at hcl
  have cm : ∀ {y c}, (y, c) ∈ cloFrom X.env.cells scope.names [] → X.env.cells.lookup y = some c ∧ c < s.heap.objs.size := fun {y c} hm => by
    rcases cloFrom_mem hm with hm | ⟨h1, rfl⟩
    · cases hm
    · obtain ⟨c, hc⟩ := hfree _ h1 rfl
      rw [hc]
      obtain ⟨w, z⟩ := I.cell _ _ hc
      exact ⟨rfl, z.lt⟩
  have mem : ∀ {y c}, cenv.cells.lookup y = some c → (X.env.cells.lookup y = some c ∧ c < s.heap.objs.size) ∨ (s.heap.objs.size + 1 ≤ c ∧ CellAt (pushCells (s.heap.push { cls := .type "dict", data := .dict #[] }) scope.names) c none) := fun {y c} e => by
    rw [hcl] at e
    rcases cells_mem (PySem.mem_of_lookup e) with hm | ⟨_, h2, h3⟩
    · exact .inl (cm hm)
    · rw [Heap.size_push] at h2; exact .inr ⟨h2, h3⟩
  have look : ∀ {y}, scope.names.lookup y = some .free → ∃ c, cenv.cells.lookup y = some c ∧ X.env.cells.lookup y = some c := fun {y} hl => by
    have hy : (y, NameKind.free) ∈ scope.names := PySem.mem_of_lookup hl
    obtain ⟨c', e'⟩ := mem_lookup (cells_acc (names := scope.names) (n := (s.heap.push { cls := .type "dict", data := .dict #[] }).objs.size) (cloFrom_has (cells := X.env.cells) (acc := []) hy))
    rw [← hcl] at e'
    refine ⟨c', e', ?_⟩
    rw [hcl] at e'
    rcases cells_mem (PySem.mem_of_lookup e') with hm | ⟨h1, _, _⟩
    · exact (cm hm).1
    · have := ok.uniq _ h1
      rw [hl] at this; cases this
  have okB : (X.blk s H scope cenv fp).Ok := by
    refine ⟨I.ok.mod, by show cenv.scope.kind = _; rw [hsc]; exact ok.kind, by show cenv.globals = _; rw [← hcenv]; exact I.ok.glob, by show cenv.builtins = _; rw [← hcenv]; exact I.ok.blt, by show s.heap.objs.size ≤ cenv.locals; rw [hL]; exact Nat.le_refl _,
      fun y z c e1 e2 => ?_, fun y hy => ?_, fun y c z e => ?_, I.ok.hd, I.ok.frames, .inl rfl, fun b hb => ⟨?_, fun y c e z => ?_⟩, I.bs, Nat.le_trans I.ok.bsz I.sz, fun b o e hb => ?_, fun b hb z => ?_, I.stack, I.stkFree⟩
    · have e1 : cenv.cells.lookup y = some c := e1
      have e2 : cenv.cells.lookup z = some c := e2
      rw [hcl] at e1 e2
      refine cells_inj (fun p hp => ?_) (fun y z c a b => I.ok.inj y z c (cm a).1 (cm b).1) (PySem.mem_of_lookup e1) (PySem.mem_of_lookup e2)
      rw [Heap.size_push]
      exact Nat.lt_succ_of_lt (cm (y := p.1) (c := p.2) hp).2
    · show ∃ c, cenv.cells.lookup y = some c
      have key : ∀ k, cenv.kindOf y = some k → (k = .cell ∨ k = .free) → ∃ c, cenv.cells.lookup y = some c := fun k hk hk' => by
        unfold Env.kindOf at hk
        rw [hsc] at hk
        obtain ⟨k', e, r⟩ := lookup_relS hk
        have : k' = .cell ∨ k' = .free := by
          rcases r with rfl | ⟨rfl, _⟩
          · exact hk'
          · exact .inr rfl
        rcases this with rfl | rfl
        · obtain ⟨c, hm⟩ := cells_has (n := (s.heap.push { cls := .type "dict", data := .dict #[] }).objs.size) (acc := cloFrom X.env.cells scope.names []) (PySem.mem_of_lookup e)
          obtain ⟨c', e'⟩ := mem_lookup hm
          exact ⟨c', by rw [hcl]; exact e'⟩
        · obtain ⟨c, h1, _⟩ := look e
          exact ⟨c, h1⟩
      rcases hy with hy | hy
      · exact key _ hy (.inl rfl)
      · exact key _ hy (.inr rfl)
    · have z : (scope.names.lookup y == some NameKind.cell) = true := z
      have z : scope.names.lookup y = some .cell := by simpa using z
      have e : cenv.cells.lookup y = some c := e
      rw [hcl] at e
      rcases cells_mem (PySem.mem_of_lookup e) with hm | ⟨_, h2, _⟩
      · rcases cloFrom_mem hm with hm | ⟨h1, _⟩
        · cases hm
        · have q := ok.uniq _ h1
          rw [z] at q; cases q
      · rw [Heap.size_push] at h2
        exact Nat.le_of_succ_le h2
    · show b ≠ cenv.locals
      rw [hL]; exact Nat.ne_of_lt (hfp b hb).2
    · have e : cenv.cells.lookup y = some c := e
      rcases mem e with ⟨h1, _⟩ | ⟨h1, _⟩
      · exact (hfp b hb).1.2.2.2.2.1 y c h1 z
      · have h2 : s.heap.objs.size + 1 ≤ b := by rw [← z]; exact h1
        exact absurd (Nat.lt_of_lt_of_le (hfp b hb).2 (Nat.le_of_succ_le h2)) (Nat.lt_irrefl _)
    · rcases (hfp b hb).1.2.2.2.1 with z | z
      · exact I.ok.noex b o e z
      · exact absurd (Nat.lt_of_lt_of_le (Heap.lt_size e) (Nat.le_trans I.ok.bsz z)) (Nat.lt_irrefl _)
    · rcases List.mem_cons.mp (I.stkSub b z) with z | z
      · exact (hfp b hb).1.2.1 z
      · exact (hfp b hb).1.2.2.1 z
  refine ⟨okB, rfl, I.bare, Un.kept kp, ⟨fun _ => none, ?_, fun i y av e1 e2 e3 => ?_⟩, fun y c e => ?_, ?_, fun y c e => ?_, fun p hp => ?_, I.hok.kept kp, by rw [wipe_length]; exact I.len⟩
  · show Heap.Ns _ cenv.locals _
    rw [hL]
    exact Heap.Ns.keeps (Heap.Ns.new ..) fun b o e => pushCells_keeps _ _ _ _ e
  · obtain ⟨e2, hne⟩ := wipe_some e2
    have hfr : scope.names.lookup y = some .free ∧ (cenv.kindOf y = some .cell ∨ cenv.kindOf y = some .free) := by
      have key : ∀ k, cenv.scope.names.lookup y = some k → k = .local ∨ k = .cell ∨ k = .free → scope.names.lookup y = some .free ∧ (cenv.kindOf y = some .cell ∨ cenv.kindOf y = some .free) := fun k hk hk' => by
        have hk0 := hk
        rw [hsc] at hk
        obtain ⟨k', e, r⟩ := lookup_relS hk
        have no : ¬ (k' = .local ∨ k' = .cell) := fun hh => by
          rcases ok.own _ (PySem.mem_of_lookup e) hh with e' | e'
          · obtain ⟨p, hp, hpy⟩ := List.mem_map.mp e'
            have e3 := ok.ix p hp
            have : p.1 = y := hpy
            rw [this] at e3
            exact hne (List.mem_map.mpr ⟨p, hp, nodup_ix hN e3 e1⟩)
          · exact e' (List.mem_of_getElem? e1)
        rcases r with rfl | ⟨rfl, rfl⟩
        · rcases hk' with rfl | rfl | rfl
          · exact absurd (.inl rfl) no
          · exact absurd (.inr rfl) no
          · exact ⟨e, .inr hk0⟩
        · exact ⟨e, .inl hk0⟩
      have e3 : Vis cenv.scope y := e3
      rcases e3 with e3 | e3 | e3
      · exact key _ e3 (.inl rfl)
      · exact key _ e3 (.inr (.inl rfl))
      · exact key _ e3 (.inr (.inr rfl))
    obtain ⟨m, hn, hl⟩ := I.loc
    have hvis : Vis X.env.scope y := (ok.free _ (PySem.mem_of_lookup hfr.1) rfl).elim (fun k => .inr (.inl k)) (fun k => .inr (.inr k))
    obtain ⟨w, r, q⟩ := hl i y av e1 e2 hvis
    refine ⟨w, r, .inr ⟨hfr.2, ?_⟩⟩
    obtain ⟨c, h1, h2⟩ := look hfr.1
    rcases q with ⟨k, _⟩ | ⟨_, c', e', z⟩
    · have k : X.env.scope.names.lookup y = some .local := k
      rcases ok.free _ (PySem.mem_of_lookup hfr.1) rfl with k' | k' <;> rw [show X.env.scope.names.lookup y = _ from k'] at k <;> cases k
    · rw [h2] at e'; cases e'
      exact ⟨c, h1, z.keeps kp⟩
  · have e : cenv.cells.lookup y = some c := e
    rcases mem e with ⟨h1, _⟩ | ⟨_, z⟩
    · obtain ⟨w, z⟩ := I.cell y c h1
      exact ⟨w, z.keeps kp⟩
    · exact ⟨_, z⟩
  · show H cenv.locals = none
    rw [hL]; exact I.hok.fresh (Nat.le_refl _)
  · have e : cenv.cells.lookup y = some c := e
    rcases mem e with ⟨h1, _⟩ | ⟨h1, _⟩
    · exact I.freeC y c h1
    · exact I.hok.fresh (Nat.le_of_succ_le h1)
  · exact absurd (show p ∈ ([] : List (Addr × Obj)) ++ [] from hp) (by simp)

/-- an item appended to a tracked list -/
theorem app_ok {E : Value → Shared → Prop} {D : Addr} {xs : List V} {y : V} {v : Value} {Q : Value → Shared → Prop} (I : Inv X pins σ H s) (hD : H D = some (.lst xs)) (hz : xs.length < sizeLine) (r : RelV y v)
    (h : ∀ s', Inv X pins σ (upd H D (.lst (xs ++ [y]))) s' → Q .none s') : wpAny (model X.prog X.w) X.A (call (.builtin "list.append") [.ref D, v]) Q E s := by
  obtain ⟨hz', its, n, ri, e⟩ := I.hok D _ hD
  have hl := ri.length
  refine append_at (hsz := by rw [List.size_toArray]; omega) e fun h' sb ho' => ?_
  refine h { s with heap := h' } (I.write (t' := s.toks) (by rw [hD]; trivial) (.inl rfl) (fun b u hb q => (sb.2 b hb).trans q) ⟨_, ho'⟩ ⟨by rw [List.length_append]; exact hz, its ++ [v], n + 1, ri.append (.cons r .nil), ?_⟩)
  rw [ho']
  simp

/-- a clause's tests -/
def PTs (X : Cx) (ifs : List Expr) (t : TT) : Prop :=
  ∀ (pins : List (Addr × Obj)) (s : Shared) (σ : St) (H : Hp) (Q : Bool → Hp → Prop), Inv X pins σ H s → t σ H Q →
    wpAny (model X.prog X.w) X.A (forIn ifs true fun c r => if r = true then do let ok ← isTrue c X.env (eval c X.env); pure (ForInStep.yield ok) else pure (ForInStep.yield r)) (TP X pins σ Q) X.xe s
def tYes : TT := fun _ H Q => Q true H
theorem pts_nil : PTs X [] tYes := fun _ _ _ H _ I h => wpAny_tests_nil ⟨H, I, h⟩
theorem pts_one {c : Expr} {t : TT} (h : PT X c t) : PTs X [c] t := fun pins s σ H Q I hw => wpAny_tests_one (h pins s σ H Q I hw)
end

theorem thnF {α : Type} {t : Sem α} {Q Q' : α → Shared → Prop} {M : Model} {A : Around} {E : Value → Shared → Prop} {s : Shared} (h : wpAny M A t Q (fun _ _ => False) s) (hQ : ∀ a s, Q a s → Q' a s) : wpAny M A t Q' E s := wpAny_mono h hQ fun _ _ z => False.elim z

/-- the loop of a list comprehension's block, the target of any form (codeAny_compLoop_tests asks a target that no tuple goes to; statement and proof follow it, PyProof/CompMap.lean:41-61, with the step letOwnedTupleGo kept) -/
theorem compLoop_any {prog : Program} {w : World} {A : Around} {R : Result → Shared → Prop} {s : Shared} {elt target iter : Expr} {ifs : List Expr} {scope : Scope} {pos : Pos} {it acc : Value} {env : Env} (I : Nat → Shared → Prop)
    (turn : ∀ n s, I n s → wpAny (model prog w) A (pyNext it) (fun r s₁ => match r with
      | none => R (.ok .next) s₁
      | some v => wpAny (model prog w) A (letOwnedTupleGo target it v) (fun _ s₁' => wpAny (model prog w) A (assign target env v) (fun _ s₂ =>
          wpAny (model prog w) A (forIn ifs true fun c r => if r = true then do let ok ← isTrue c env (eval c env); pure (ForInStep.yield ok) else pure (ForInStep.yield r)) (fun ok s₃ =>
            if ok = true then wpAny (model prog w) A (eval elt env) (fun x s₄ =>
              wpAny (model prog w) A (call (.builtin "list.append") [acc, x]) (fun _ s₅ => ∃ m, m < n ∧ I m s₅) (notedBy (model prog w) A env fun e s' => R (.error e) s') s₄) (notedBy (model prog w) A env fun e s' => R (.error e) s') s₃
            else ∃ m, m < n ∧ I m s₃) (notedBy (model prog w) A env fun e s' => R (.error e) s') s₂) (notedBy (model prog w) A env fun e s' => R (.error e) s') s₁') (notedBy (model prog w) A env fun e s' => R (.error e) s') s₁) (notedBy (model prog w) A env fun e s' => R (.error e) s') s)
    (n : Nat) (h : I n s) :
    codeAny (model prog w) A (.compLoop (.ListComp elt [⟨target, iter, ifs, 0⟩] scope pos) 0 it acc env) R s := by
  refine codeAny_loop rfl I (fun n s hI => ?_) n h
  show wpAny _ A ((compTurn (.ListComp elt [⟨target, iter, ifs, 0⟩] scope pos) 0 it acc env).onRaise (fun x => do noteFrame x env; theTreesLotGoes x)) _ _ s
  refine wpAny_noted ?_
  rw [compTurn_list]
  refine wpAny_bind (wpAny_standAt (wpAny_bind (wpAny_mono (turn n s hI) (fun r s₁ h₁ => ?_) fun _ _ h' => h')))
  cases r with
  | none => exact wpAny_pure h₁
  | some v =>
    refine wpAny_bind (wpAny_mono h₁ (fun _ s₁' h₁' => ?_) fun _ _ h' => h')
    refine wpAny_bind (wpAny_mono h₁' (fun _ s₂ h₂ => wpAny_bind (wpAny_mono h₂ (fun ok s₃ h₃ => ?_) fun _ _ h' => h')) fun _ _ h' => h')
    cases ok with
    | false => exact wpAny_pure ⟨rfl, h₃⟩
    | true =>
      exact wpAny_bind (wpAny_bind (wpAny_mono h₃ (fun x s₄ h₄ => wpAny_bind (wpAny_mono h₄ (fun _ s₅ h₅ => wpAny_pure (wpAny_pure ⟨rfl, h₅⟩)) fun _ _ h' => h')) fun _ _ h' => h'))

section
variable {X : Cx}
/-- [elt for target in iter if ..]: D the new list; W by the turn and a measure, Nx what a turn is to reach -/
def tLc (wi : TI) (g : TG) (tt : TT) (te : TE) (vs : List Nat) : TE := fun σ H Q => wi σ H fun J H1 => ∀ D, H1 D = none → ∃ W : Nat → Nat → Hp → Prop, (∃ m, W 0 m (upd H1 D (.lst []))) ∧ ∀ i m H, W i m H →
  (J.stop i H ∧ Q (.ref D) H) ∨ (J.go i H ∧ ∃ Nx : Hp → Prop, (∀ H', Nx H' → ∃ m', m' < m ∧ W (i + 1) m' H') ∧ ∀ x H', J.yld i H x H' → g x (wipe σ vs) H' fun σ2 H2 => wipe σ2 vs = wipe σ vs ∧ tt σ2 H2 fun b H3 =>
    if b = true then te σ2 H3 fun y H4 => ∃ acc, H4 D = some (.lst acc) ∧ acc.length < sizeLine ∧ Nx (upd H4 D (.lst (acc ++ [y]))) else Nx H3)
theorem lc_core {pins : List (Addr × Obj)} {s : Shared} {σ : St} {H : Hp} {Q : VK} {elt tg iter : Expr} {ifs : List Expr} {scope : Scope} {own : List (Str × Nat)} {pos pos' : Pos} {wi : TI} {g : TG} {tt : TT} {te : TE} {use : Option (Value → Sem Unit)} {Qf : Value → Shared → Prop}
    (hc : X.calm = true) (hN : X.N.Nodup) (I : Inv X pins σ H s) (hi : PI X tg iter wi) (ok : BlkOk X.N X.env.scope scope own)
    (hg : ∀ (s : Shared) (H : Hp) (C : Addr) (cl : List (Str × Addr)) (fp : List Addr), PG (X.blk s H scope (compEnvC scope cl C X.env) fp) tg g) (ht : ∀ (s : Shared) (H : Hp) (C : Addr) (cl : List (Str × Addr)) (fp : List Addr), PTs (X.blk s H scope (compEnvC scope cl C X.env) fp) ifs tt)
    (he : ∀ (s : Shared) (H : Hp) (C : Addr) (cl : List (Str × Addr)) (fp : List Addr), PE (X.blk s H scope (compEnvC scope cl C X.env) fp) elt te) (hs : ∀ x, foldedSetIterable iter X.env x = pure x)
    (h : tLc wi g tt te (own.map (·.2)) σ H Q)
    (hRR : ∀ D C s' m H', Inv X pins σ H' s' → Q (.ref D) H' → s'.heap.Ns C m → FpOk X pins H' C → compPost (model X.prog X.w) X.A X.xe use Qf (.ref D) C (.ok .next) s') :
    wpAny (model X.prog X.w) X.A (comprehension (.ListComp elt [⟨tg, iter, ifs, 0⟩] scope pos) scope X.env pos' (newList []) false (eval iter X.env) use) Qf X.xe s := by
  have hfree : ∀ y ∈ scope.names, y.2 = .free → ∃ c, X.env.cells.lookup y.1 = some c := fun y hy e => by
    rcases ok.free y hy e with k | k
    · exact I.ok.has _ (.inl k)
    · exact I.ok.has _ (.inr k)
  refine wpAny_comprehension_free (use := use) rfl hs (closure_ok hfree) ok.kind (fun y hy e => by rw [ok.uniq y hy, e])
    (thn (hi pins s σ H _ I h) fun xv s1 hx => thn hx fun itv s2 h2 => ?_)
  obtain ⟨it, fp, tn, J, H2, e, I2, T, st2, f2, q⟩ := h2
  subst e
  refine wpAny_newObj_type (newEnv_comp ?_) (by show 0 ≤ sizeLine; decide)
  generalize hD : s2.heap.objs.size = D
  have hDn : H2 D = none := I2.hok.fresh (Nat.le_of_eq hD)
  obtain ⟨W, ⟨m0, w0⟩, turn⟩ := q D hDn
  -- the new list
  generalize hs3 : ({ s2 with heap := s2.heap.push { cls := .type "list", data := .seq ([] : List Value).toArray } } : Shared) = s3
  have I3 : Inv X pins σ (upd H2 D (.lst [])) s3 := by
    rw [← hs3]
    refine I2.laid (t' := s2.toks) (fun b o e => Heap.get?_push_of_some _ e) (Nat.le_of_eq hD) ⟨Nat.zero_le _, [], 0, .nil, ?_⟩
    rw [← hD]
    exact Heap.get?_push_size _ rfl
  have h3 : s3.heap = s2.heap.push { cls := .type "list", data := .seq ([] : List Value).toArray } := by rw [← hs3]
  have sz : ∀ b ∈ fp, b < s2.heap.objs.size := fun b hb => by
    obtain ⟨o, e, _⟩ := T.obj _ _ st2 b hb
    exact Heap.lt_size e
  have f3 : ∀ b ∈ fp, FpOk X pins (upd H2 D (.lst [])) b ∧ b < s3.heap.objs.size := fun b hb => by
    have hlt := sz b hb
    refine ⟨⟨?_, (f2 b hb).2⟩, by rw [h3, Heap.size_push]; exact Nat.lt_succ_of_lt hlt⟩
    rw [upd_ne (by rw [← hD]; exact Nat.ne_of_lt hlt)]
    exact (f2 b hb).1
  have st3 : tn 0 s3.heap := T.keep _ _ _ st2 fun b _ o e => by rw [h3]; exact Heap.get?_push_of_some _ e
  have I4 := block_start I3 ok hN f3
  have pg := hg s3 (upd H2 D (.lst [])) s3.heap.objs.size (cellsFrom (s3.heap.objs.size + 1) scope.names (cloFrom X.env.cells scope.names [])) fp
  have pt := ht s3 (upd H2 D (.lst [])) s3.heap.objs.size (cellsFrom (s3.heap.objs.size + 1) scope.names (cloFrom X.env.cells scope.names [])) fp
  have pe := he s3 (upd H2 D (.lst [])) s3.heap.objs.size (cellsFrom (s3.heap.objs.size + 1) scope.names (cloFrom X.env.cells scope.names [])) fp
  show codeAny _ _ (.compStart (.ListComp elt [⟨tg, iter, ifs, 0⟩] scope pos) 0 (.ref it) (.ref D) (compEnvC scope (cellsFrom (s3.heap.objs.size + 1) scope.names (cloFrom X.env.cells scope.names [])) s3.heap.objs.size X.env)) (compPost (model X.prog X.w) X.A X.xe use Qf (.ref D) s3.heap.objs.size) { s3 with heap := pushCells (s3.heap.push { cls := .type "dict", data := .dict #[] }) scope.names }
  have nfp : ∀ b ∈ fp, (upd H2 D (.lst [])) b = none := fun b hb => (f3 b hb).1.1
  generalize hce : compEnvC scope (cellsFrom (s3.heap.objs.size + 1) scope.names (cloFrom X.env.cells scope.names [])) s3.heap.objs.size X.env = ce at I4 pg pt pe ⊢
  have cL : ce.locals = s3.heap.objs.size := by subst hce; rfl
  generalize hH3 : upd H2 D (.lst []) = H3 at I3 I4 pg pt pe w0 nfp f3
  generalize hs4 : ({ s3 with heap := pushCells (s3.heap.push { cls := .type "dict", data := .dict #[] }) scope.names } : Shared) = s4 at I4 ⊢
  have st4 : tn 0 s4.heap := T.keep _ _ _ st3 fun b _ o e => by rw [← hs4]; exact pushCells_keeps _ _ _ _ (Heap.get?_push_of_some _ e)
  have stat : ∀ {σ' : St} {H' : Hp} {s' : Shared}, Inv (X.blk s3 H3 scope ce fp) [] σ' H' s' → (∀ b ∈ fp, H' b = none) → ∀ b ∈ fp, FpOk (X.blk s3 H3 scope ce fp) [] H' b := fun {σ' H' s'} I' hn b hb =>
    ⟨hn b hb, (I'.ok.exf b hb).1, I'.ok.exfs b hb, .inl hb, fun x c e => (I'.ok.exf b hb).2 x c e, fun p hp => absurd (show p ∈ ([] : List (Addr × Obj)) ++ [] from hp) (by simp)⟩
  have loop : codeAny (model X.prog X.w) X.A (.compLoop (.ListComp elt [⟨tg, iter, ifs, 0⟩] scope pos) 0 (.ref it) (.ref D) ce) (compPost (model X.prog X.w) X.A X.xe use Qf (.ref D) s3.heap.objs.size) s4 := by
    refine compLoop_any (fun n s' => ∃ i H', Inv (X.blk s3 H3 scope ce fp) [] (wipe σ (own.map (·.2))) H' s' ∧ tn i s'.heap ∧ (∀ b ∈ fp, H' b = none) ∧ W i n H') ?_ m0 ⟨0, H3, I4, st4, nfp, w0⟩
    rintro n s5 ⟨i, H5, I5, st5, n5, w5⟩
    rcases turn i n H5 w5 with ⟨stop, qq⟩ | ⟨go, Nx, hNx, step⟩
    · have td := T.done (X.blk s3 H3 scope ce fp) rfl rfl rfl hc i [] s5 _ H5 (fun _ _ => False) I5 (stat I5 n5) st5 stop
      refine thnF td fun r s6 ⟨hr, I6⟩ => ?_
      subst hr
      -- back in the def's context
      have I7 : Inv X pins σ H5 s6 := I3.call' (ch := fp) I6.os I6.base I6.hok I6.bare fun b hb => ⟨(f3 b hb).1.2.2.2.1, (f3 b hb).1.2.1, (f3 b hb).1.2.2.2.2.1, (f3 b hb).1.2.2.2.2.2⟩
      have nC : H5 s3.heap.objs.size = none := by
        have z : H5 ce.locals = none := I6.free
        rw [cL] at z
        exact z
      obtain ⟨m, hn, _⟩ := I6.loc
      have hn : s6.heap.Ns ce.locals m := hn
      rw [cL] at hn
      exact hRR D s3.heap.objs.size s6 m H5 I7 qq hn (I3.fpOk (Nat.le_refl _) nC)
    · have ti := T.item (X.blk s3 H3 scope ce fp) rfl rfl rfl hc i [] s5 _ H5 (fun _ _ => False) I5 (stat I5 n5) st5 go
      refine thnF ti fun r s6 ⟨u, hr, h6⟩ => ?_
      subst hr
      refine thnF h6 fun _ s7 ⟨x, H7, I7, r7, y7, st7, n7⟩ => ?_
      have I7' := I7.pinned (stat I7 n7) (T.obj _ _ st7)
      refine thnF (pg _ s7 _ H7 x u _ I7' r7 (step x H7 y7)) fun _ s8 ⟨σ8, H8, I8, hw8, q8⟩ => ?_
      refine thnF (pt _ s8 σ8 H8 _ I8 q8) fun b s9 ⟨H9, I9, q9⟩ => ?_
      -- the turn's end
      have fin : ∀ {s' : Shared} {H' : Hp}, Inv (X.blk s3 H3 scope ce fp) ([] ++ pinsAt fp s7.heap) σ8 H' s' → Nx H' → ∃ m, m < n ∧ ∃ i H', Inv (X.blk s3 H3 scope ce fp) [] (wipe σ (own.map (·.2))) H' s' ∧ tn i s'.heap ∧ (∀ b ∈ fp, H' b = none) ∧ W i m H' := fun {s' H'} I' nx => by
        obtain ⟨m', hm, w'⟩ := hNx H' nx
        have pin' : ∀ b ∈ fp, ∀ o, s7.heap.get? b = some o → s'.heap.get? b = some o ∧ H' b = none := fun b hb o e =>
          let z := I'.pin (b, o) (List.mem_append_right _ (List.mem_append_right _ (mem_pinsAt hb e)))
          ⟨z.1, z.2.1⟩
        have hl : (wipe σ (own.map (·.2))).length = σ8.length := by rw [← hw8, wipe_length]
        refine ⟨m', hm, i + 1, H', (I'.unpinned (pins := [])).weak hl (fun j v e => ?_), T.keep _ _ _ st7 fun b hb o e => (pin' b hb o e).1, fun b hb => ?_, w'⟩
        · rw [← hw8] at e
          exact (wipe_some e).1
        · obtain ⟨o, e, _⟩ := T.obj _ _ st7 b hb
          exact (pin' b hb o e).2
      cases b with
      | false =>
        simp only [Bool.false_eq_true, if_false] at q9 ⊢
        exact fin I9 q9
      | true =>
        simp only [if_true] at q9 ⊢
        refine thnF (pe _ s9 σ8 H9 _ I9 q9) fun z s10 ⟨yv, H10, I10, r10, acc, hD10, hz10, nx⟩ => ?_
        exact app_ok (X := X.blk s3 H3 scope ce fp) I10 hD10 hz10 r10 fun s11 I11 => fin I11 nx
  exact codeAny_compStart_list loop (T.self X.A 0 _ _ _ st4 loop)
/-- as a value -/
theorem pe_lc {elt tg iter : Expr} {ifs : List Expr} {scope : Scope} {own : List (Str × Nat)} {pos : Pos} {wi : TI} {g : TG} {tt : TT} {te : TE} (hc : X.calm = true) (hN : X.N.Nodup) (hi : PI X tg iter wi) (ok : BlkOk X.N X.env.scope scope own)
    (hg : ∀ (s : Shared) (H : Hp) (C : Addr) (cl : List (Str × Addr)) (fp : List Addr), PG (X.blk s H scope (compEnvC scope cl C X.env) fp) tg g) (ht : ∀ (s : Shared) (H : Hp) (C : Addr) (cl : List (Str × Addr)) (fp : List Addr), PTs (X.blk s H scope (compEnvC scope cl C X.env) fp) ifs tt)
    (he : ∀ (s : Shared) (H : Hp) (C : Addr) (cl : List (Str × Addr)) (fp : List Addr), PE (X.blk s H scope (compEnvC scope cl C X.env) fp) elt te) (hs : ∀ x, foldedSetIterable iter X.env x = pure x := by intro _; rfl) :
    PE X (.ListComp elt [⟨tg, iter, ifs, 0⟩] scope pos) (tLc wi g tt te (own.map (·.2))) := by
  intro pins s σ H Q I h
  rw [eval_ListComp]
  refine lc_core hc hN I hi ok hg ht he hs h fun D C s' m H' I' q hn f => ⟨m, hn, fun h'' sb => ?_⟩
  obtain ⟨f0, f1, f2, f3, f4, f5⟩ := f
  exact ⟨.ref D, H', I'.turned (t' := s'.toks) (fun b o hb e => (sb.2 b hb).trans e) f0 f1 f3 f4 f5, rfl, q⟩
/-- name = [..] on one line, the name a local -/
theorem ps_setLc {i : Nat} {y : Str} {py : Pos} {elt tg iter : Expr} {ifs : List Expr} {scope : Scope} {own : List (Str × Nat)} {pos spos : Pos} {wi : TI} {g : TG} {tt : TT} {te : TE} (hc : X.calm = true) (hN : X.N.Nodup) (hy : X.N[i]? = some y) (hyl : X.env.scope.names.lookup y = some .local)
    (hsw : swapsWith (.ListComp elt [⟨tg, iter, ifs, 0⟩] scope pos) (some (.Name y py)) spos.line X.env = pure true) (hi : PI X tg iter wi) (ok : BlkOk X.N X.env.scope scope own)
    (hg : ∀ (s : Shared) (H : Hp) (C : Addr) (cl : List (Str × Addr)) (fp : List Addr), PG (X.blk s H scope (compEnvC scope cl C X.env) fp) tg g) (ht : ∀ (s : Shared) (H : Hp) (C : Addr) (cl : List (Str × Addr)) (fp : List Addr), PTs (X.blk s H scope (compEnvC scope cl C X.env) fp) ifs tt)
    (he : ∀ (s : Shared) (H : Hp) (C : Addr) (cl : List (Str × Addr)) (fp : List Addr), PE (X.blk s H scope (compEnvC scope cl C X.env) fp) elt te) (hs : ∀ x, foldedSetIterable iter X.env x = pure x := by intro _; rfl) :
    PS X (.Assign [.Name y py] (.ListComp elt [⟨tg, iter, ifs, 0⟩] scope pos) spos) (tAsg (tLc wi g tt te (own.map (·.2))) (gName i)) := by
  intro pins s σ H D I h
  rw [exec_Assign_Name_used _ _ _ _ hsw]
  refine wpAny_bind (wpAny_standAt (wpAny_bind ?_))
  show wpAny _ X.A (do let _ ← comprehension (.ListComp elt [⟨tg, iter, ifs, 0⟩] scope pos) scope X.env (firstIterPos [⟨tg, iter, ifs, 0⟩] pos) (newList []) false (eval iter X.env) (some (assign (.Name y py) X.env))) _ _ s
  have h : tLc wi g tt te (own.map (·.2)) σ H (fun x H1 => gName i x σ H1 D.nx) := h
  refine wpAny_bind (thn (lc_core (Qf := fun _ s' => SP X pins D .next s') hc hN I hi ok hg ht he hs h fun L C s' m H' I' q hn f => ?_) fun _ s' hq => wpAny_pure (wpAny_pure hq))
  show wpAny _ _ (assign (.Name y py) X.env (.ref L)) _ _ _
  refine wpAny_assign_Name (store_ok2 (v := V.ref L) I' hN hy (.inl hyl) rfl (fun s2 I2 ⟨a, sb, ha⟩ => ?_) (.inr hyl))
  obtain ⟨f0, f1, f2, f3, f4, f5⟩ := f
  have haC : C ≠ a := by
    rcases ha with z | z
    · rw [z]; exact f1
    · exact fun e => f4 y a z e.symm
  refine ⟨m, hn.sameBut sb haC, fun h3 sb3 => ?_⟩
  exact ⟨_, H', I2.turned (t' := s2.toks) (fun b o hb e => (sb3.2 b hb).trans e) f0 f1 f3 f4 f5, q⟩
theorem sw_true {elt : Expr} {gs : List Comprehension} {scope : Scope} {pos py : Pos} {y : Str} {l : Nat} {env : Env} (hk : env.scope.kind = .function) (hy : env.scope.names.lookup y = some .local) (hl : (py.line == pos.line) = true)
    (ha : (scope.names.any fun (n, k) => n == y && (k == .local || k == .cell)) = false) : swapsWith (.ListComp elt gs scope pos) (some (.Name y py)) l env = pure true := by
  have ky : env.kindOf y = some .local := hy
  have hb : env.blockKind = .function := by unfold Env.blockKind; rw [hk]; rfl
  unfold swapsWith
  simp only [hb, ky, ha, Expr.pos, hl]
  rfl
end

/-! ### the forms one uses -/
/-- over a range: Pv by the turn and the heap (the new list at D within) -/
theorem lc_range {lo : Int} {n : Nat} {g : TG} {tt : TT} {te : TE} {vs : List Nat} {σ : St} {H1 : Hp} {D : Addr} {Qd : Hp → Prop} (Pv : Nat → Hp → Prop) (h0 : Pv 0 (upd H1 D (.lst [])))
    (hs : ∀ i H, i < n → Pv i H → g (.int (lo + i)) (wipe σ vs) H fun σ2 H2 => wipe σ2 vs = wipe σ vs ∧ tt σ2 H2 fun b H3 =>
      if b = true then te σ2 H3 fun y H4 => ∃ acc, H4 D = some (.lst acc) ∧ acc.length < sizeLine ∧ Pv (i + 1) (upd H4 D (.lst (acc ++ [y]))) else Pv (i + 1) H3) (hd : ∀ H, Pv n H → Qd H) :
    ∃ W : Nat → Nat → Hp → Prop, (∃ m, W 0 m (upd H1 D (.lst []))) ∧ ∀ i m H, W i m H →
      ((Itr lo n).stop i H ∧ Qd H) ∨ ((Itr lo n).go i H ∧ ∃ Nx : Hp → Prop, (∀ H', Nx H' → ∃ m', m' < m ∧ W (i + 1) m' H') ∧ ∀ x H', (Itr lo n).yld i H x H' → g x (wipe σ vs) H' fun σ2 H2 => wipe σ2 vs = wipe σ vs ∧ tt σ2 H2 fun b H3 =>
        if b = true then te σ2 H3 fun y H4 => ∃ acc, H4 D = some (.lst acc) ∧ acc.length < sizeLine ∧ Nx (upd H4 D (.lst (acc ++ [y]))) else Nx H3) := by
  refine ⟨fun i m H => m = n - i ∧ i ≤ n ∧ Pv i H, ⟨n, by simp, Nat.zero_le _, h0⟩, ?_⟩
  rintro i m H ⟨rfl, hi, p⟩
  by_cases hlt : i < n
  · refine .inr ⟨hlt, Pv (i + 1), fun H' p' => ⟨n - (i + 1), by omega, rfl, hlt, p'⟩, fun x H' y => ?_⟩
    obtain ⟨e, y⟩ := y
    subst e y
    exact hs i _ hlt p
  · have e : i = n := by omega
    subst e
    exact .inl ⟨Nat.le_refl _, hd H p⟩
/-- over a list that the block leaves as it is -/
theorem lc_list {K : PySem.W.Frag} {a : Addr} {xs : List V} {g : TG} {tt : TT} {te : TE} {vs : List Nat} {σ : St} {H1 : Hp} {D : Addr} {Qd : Hp → Prop} (Pv : Nat → Hp → Prop) (h0 : Pv 0 (upd H1 D (.lst []))) (hl : ∀ i H, i ≤ xs.length → Pv i H → SqL K H a xs)
    (hs : ∀ i x H, xs[i]? = some x → Pv i H → g x (wipe σ vs) H fun σ2 H2 => wipe σ2 vs = wipe σ vs ∧ tt σ2 H2 fun b H3 =>
      if b = true then te σ2 H3 fun y H4 => ∃ acc, H4 D = some (.lst acc) ∧ acc.length < sizeLine ∧ Pv (i + 1) (upd H4 D (.lst (acc ++ [y]))) else Pv (i + 1) H3) (hd : ∀ H, Pv xs.length H → Qd H) :
    ∃ W : Nat → Nat → Hp → Prop, (∃ m, W 0 m (upd H1 D (.lst []))) ∧ ∀ i m H, W i m H →
      ((Itl K a).stop i H ∧ Qd H) ∨ ((Itl K a).go i H ∧ ∃ Nx : Hp → Prop, (∀ H', Nx H' → ∃ m', m' < m ∧ W (i + 1) m' H') ∧ ∀ x H', (Itl K a).yld i H x H' → g x (wipe σ vs) H' fun σ2 H2 => wipe σ2 vs = wipe σ vs ∧ tt σ2 H2 fun b H3 =>
        if b = true then te σ2 H3 fun y H4 => ∃ acc, H4 D = some (.lst acc) ∧ acc.length < sizeLine ∧ Nx (upd H4 D (.lst (acc ++ [y]))) else Nx H3) := by
  refine ⟨fun i m H => m = xs.length - i ∧ i ≤ xs.length ∧ Pv i H, ⟨xs.length, by simp, Nat.zero_le _, h0⟩, ?_⟩
  rintro i m H ⟨rfl, hi, p⟩
  have q := hl i H hi p
  by_cases hlt : i < xs.length
  · refine .inr ⟨⟨xs, xs[i], q, by simp [hlt]⟩, Pv (i + 1), fun H' p' => ⟨xs.length - (i + 1), by omega, rfl, hlt, p'⟩, fun x H' y => ?_⟩
    obtain ⟨e, y⟩ := y
    subst e
    exact hs i x _ (y xs q) p
  · have e : i = xs.length := by omega
    subst e
    exact .inl ⟨⟨xs, q, Nat.le_refl _⟩, hd H p⟩
/-- over a tuple -/
theorem lc_tup {K : PySem.W.Frag} {a : Addr} {xs : List V} {g : TG} {tt : TT} {te : TE} {vs : List Nat} {σ : St} {H1 : Hp} {D : Addr} {Qd : Hp → Prop} (Pv : Nat → Hp → Prop) (h0 : Pv 0 (upd H1 D (.lst []))) (hl : ∀ i H, i ≤ xs.length → Pv i H → SqT K H a xs)
    (hs : ∀ i x H, xs[i]? = some x → Pv i H → g x (wipe σ vs) H fun σ2 H2 => wipe σ2 vs = wipe σ vs ∧ tt σ2 H2 fun b H3 =>
      if b = true then te σ2 H3 fun y H4 => ∃ acc, H4 D = some (.lst acc) ∧ acc.length < sizeLine ∧ Pv (i + 1) (upd H4 D (.lst (acc ++ [y]))) else Pv (i + 1) H3) (hd : ∀ H, Pv xs.length H → Qd H) :
    ∃ W : Nat → Nat → Hp → Prop, (∃ m, W 0 m (upd H1 D (.lst []))) ∧ ∀ i m H, W i m H →
      ((Itt K a).stop i H ∧ Qd H) ∨ ((Itt K a).go i H ∧ ∃ Nx : Hp → Prop, (∀ H', Nx H' → ∃ m', m' < m ∧ W (i + 1) m' H') ∧ ∀ x H', (Itt K a).yld i H x H' → g x (wipe σ vs) H' fun σ2 H2 => wipe σ2 vs = wipe σ vs ∧ tt σ2 H2 fun b H3 =>
        if b = true then te σ2 H3 fun y H4 => ∃ acc, H4 D = some (.lst acc) ∧ acc.length < sizeLine ∧ Nx (upd H4 D (.lst (acc ++ [y]))) else Nx H3) := by
  refine ⟨fun i m H => m = xs.length - i ∧ i ≤ xs.length ∧ Pv i H, ⟨xs.length, by simp, Nat.zero_le _, h0⟩, ?_⟩
  rintro i m H ⟨rfl, hi, p⟩
  have q := hl i H hi p
  by_cases hlt : i < xs.length
  · refine .inr ⟨⟨xs, xs[i], q, by simp [hlt]⟩, Pv (i + 1), fun H' p' => ⟨xs.length - (i + 1), by omega, rfl, hlt, p'⟩, fun x H' y => ?_⟩
    obtain ⟨e, y⟩ := y
    subst e
    exact hs i x _ (y xs q) p
  · have e : i = xs.length := by omega
    subst e
    exact .inl ⟨⟨xs, q, Nat.le_refl _⟩, hd H p⟩
def blkC (N : List Str) (sc scope : Scope) (own : List (Str × Nat)) : Bool :=
  (match scope.kind with | .function => true | _ => false) && (scope.names.all fun y => decide (scope.names.lookup y.1 = some y.2)) && (own.all fun p => decide (N[p.2]? = some p.1)) &&
    (scope.names.all fun y => match y.2 with
      | .free => (match sc.names.lookup y.1 with | some .cell => true | some .free => true | _ => false)
      | .local => decide (y.1 ∈ own.map (·.1)) || decide (y.1 ∉ N)
      | .cell => decide (y.1 ∈ own.map (·.1)) || decide (y.1 ∉ N)
      | _ => true)
theorem blkOk_by {N : List Str} {sc scope : Scope} {own : List (Str × Nat)} (h : blkC N sc scope own = true) : BlkOk N sc scope own := by
  unfold blkC at h
  simp only [Bool.and_eq_true, List.all_eq_true, decide_eq_true_eq] at h
  obtain ⟨⟨⟨h1, h2⟩, h3⟩, h4⟩ := h
  refine ⟨?_, h2, h3, fun y hy e => ?_, fun y hy e => ?_⟩
  · split at h1
    · assumption
    · cases h1
  · have q := h4 y hy
    simp only [e] at q
    split at q <;> first | exact .inl (by assumption) | exact .inr (by assumption) | cases q
  · have q := h4 y hy
    rcases e with e | e <;> (simp only [e, Bool.or_eq_true, decide_eq_true_eq] at q; exact q)
end L2

namespace L2
open PySem PySem.Spec PyProof.Rows

theorem compTurn2_out (elt t0 i0 t1 i1 : Expr) (ifs0 ifs1 : List Expr) (scope : Scope) (pos : Pos) (it acc : Value) (env : Env) :
    compTurn (.ListComp elt [⟨t0, i0, ifs0, 0⟩, ⟨t1, i1, ifs1, 0⟩] scope pos) 0 it acc env = (do
      standAt i0.pos
      match ← pyNext it with
      | none => pure (.done .next)
      | some v =>
        letOwnedTupleGo t0 it v
        assign t0 env v
        let mut ok := true
        for c in ifs0 do
          if ok then ok ← isTrue c env (eval c env)
        if ok then
          let x ← eval i1 env
          standAt i1.pos
          let x ← foldedSetIterable i1 env x
          let _ ← runOwn (.compStart (.ListComp elt [⟨t0, i0, ifs0, 0⟩, ⟨t1, i1, ifs1, 0⟩] scope pos) 1 (← holding [x] (pyIter x)) acc env) env
        again (.compLoop (.ListComp elt [⟨t0, i0, ifs0, 0⟩, ⟨t1, i1, ifs1, 0⟩] scope pos) 0 it acc env)) := by rfl
theorem compTurn2_in (elt t0 i0 t1 i1 : Expr) (ifs0 ifs1 : List Expr) (scope : Scope) (pos : Pos) (it acc : Value) (env : Env) :
    compTurn (.ListComp elt [⟨t0, i0, ifs0, 0⟩, ⟨t1, i1, ifs1, 0⟩] scope pos) 1 it acc env = (do
      standAt i1.pos
      match ← pyNext it with
      | none => pure (.done .next)
      | some v =>
        letOwnedTupleGo t1 it v
        assign t1 env v
        let mut ok := true
        for c in ifs1 do
          if ok then ok ← isTrue c env (eval c env)
        if ok then
          (do let _ ← call (.builtin "list.append") [acc, ← eval elt env])
        again (.compLoop (.ListComp elt [⟨t0, i0, ifs0, 0⟩, ⟨t1, i1, ifs1, 0⟩] scope pos) 1 it acc env)) := by rfl

section
variable {prog : Program} {w : World} {A : Around} {R : Result → Shared → Prop} {s : Shared} {elt t0 i0 t1 i1 : Expr} {ifs0 ifs1 : List Expr} {scope : Scope} {pos : Pos} {it acc : Value} {env : Env}
/-- the loop of the first clause -/
theorem compLoop2_out (hs : ∀ x, foldedSetIterable i1 env x = pure x) (I : Nat → Shared → Prop)
    (turn : ∀ n s, I n s → wpAny (model prog w) A (pyNext it) (fun r s₁ => match r with
      | none => R (.ok .next) s₁
      | some v => wpAny (model prog w) A (letOwnedTupleGo t0 it v) (fun _ s₁' => wpAny (model prog w) A (assign t0 env v) (fun _ s₂ =>
          wpAny (model prog w) A (forIn ifs0 true fun c r => if r = true then do let ok ← isTrue c env (eval c env); pure (ForInStep.yield ok) else pure (ForInStep.yield r)) (fun ok s₃ =>
            if ok = true then wpAny (model prog w) A (eval i1 env) (fun x s₄ => wpAny (model prog w) A (pyIter x) (fun it1 s₅ =>
              codeAny (model prog w) A (.compStart (.ListComp elt [⟨t0, i0, ifs0, 0⟩, ⟨t1, i1, ifs1, 0⟩] scope pos) 1 it1 acc env) (fun r s' => match r with
                | .ok _ => ∃ m, m < n ∧ I m s'
                | .error _ => False) s₅) (notedBy (model prog w) A env fun e s' => R (.error e) s') s₄) (notedBy (model prog w) A env fun e s' => R (.error e) s') s₃
            else ∃ m, m < n ∧ I m s₃) (notedBy (model prog w) A env fun e s' => R (.error e) s') s₂) (notedBy (model prog w) A env fun e s' => R (.error e) s') s₁') (notedBy (model prog w) A env fun e s' => R (.error e) s') s₁) (notedBy (model prog w) A env fun e s' => R (.error e) s') s)
    (n : Nat) (h : I n s) :
    codeAny (model prog w) A (.compLoop (.ListComp elt [⟨t0, i0, ifs0, 0⟩, ⟨t1, i1, ifs1, 0⟩] scope pos) 0 it acc env) R s := by
  refine codeAny_loop rfl I (fun n s hI => ?_) n h
  show wpAny _ A ((compTurn (.ListComp elt [⟨t0, i0, ifs0, 0⟩, ⟨t1, i1, ifs1, 0⟩] scope pos) 0 it acc env).onRaise (fun x => do noteFrame x env; theTreesLotGoes x)) _ _ s
  refine wpAny_noted ?_
  rw [compTurn2_out]
  refine wpAny_bind (wpAny_standAt (wpAny_bind (wpAny_mono (turn n s hI) (fun r s₁ h₁ => ?_) fun _ _ h' => h')))
  cases r with
  | none => exact wpAny_pure h₁
  | some v =>
    refine wpAny_bind (wpAny_mono h₁ (fun _ s₁' h₁' => ?_) fun _ _ h' => h')
    refine wpAny_bind (wpAny_mono h₁' (fun _ s₂ h₂ => wpAny_bind (wpAny_mono h₂ (fun ok s₃ h₃ => ?_) fun _ _ h' => h')) fun _ _ h' => h')
    cases ok with
    | false => exact wpAny_pure ⟨rfl, h₃⟩
    | true =>
      refine wpAny_bind (wpAny_mono h₃ (fun x s₄ h₄ => ?_) fun _ _ h' => h')
      refine wpAny_bind (wpAny_standAt (wpAny_bind (wpAny_of_eq (hs x) (wpAny_bind (wpAny_holding (wpAny_mono h₄ (fun it1 s₅ h₅ => ?_) fun _ _ h' => h'))))))
      refine wpAny_bind (wpAny_runOwn ?_)
      rw [Around.mark_none]
      refine codeAny_mono h₅ fun r s' hr => ?_
      cases r with
      | ok f =>
        first
          | exact wpAny_pure ⟨rfl, hr⟩
          | exact wpAny_bind (wpAny_pure (wpAny_pure ⟨rfl, hr⟩))
      | error e => exact hr.elim
/-- the loop of the second -/
theorem compLoop2_in (I : Nat → Shared → Prop)
    (turn : ∀ n s, I n s → wpAny (model prog w) A (pyNext it) (fun r s₁ => match r with
      | none => R (.ok .next) s₁
      | some v => wpAny (model prog w) A (letOwnedTupleGo t1 it v) (fun _ s₁' => wpAny (model prog w) A (assign t1 env v) (fun _ s₂ =>
          wpAny (model prog w) A (forIn ifs1 true fun c r => if r = true then do let ok ← isTrue c env (eval c env); pure (ForInStep.yield ok) else pure (ForInStep.yield r)) (fun ok s₃ =>
            if ok = true then wpAny (model prog w) A (eval elt env) (fun x s₄ =>
              wpAny (model prog w) A (call (.builtin "list.append") [acc, x]) (fun _ s₅ => ∃ m, m < n ∧ I m s₅) (notedBy (model prog w) A env fun e s' => R (.error e) s') s₄) (notedBy (model prog w) A env fun e s' => R (.error e) s') s₃
            else ∃ m, m < n ∧ I m s₃) (notedBy (model prog w) A env fun e s' => R (.error e) s') s₂) (notedBy (model prog w) A env fun e s' => R (.error e) s') s₁') (notedBy (model prog w) A env fun e s' => R (.error e) s') s₁) (notedBy (model prog w) A env fun e s' => R (.error e) s') s)
    (n : Nat) (h : I n s) :
    codeAny (model prog w) A (.compLoop (.ListComp elt [⟨t0, i0, ifs0, 0⟩, ⟨t1, i1, ifs1, 0⟩] scope pos) 1 it acc env) R s := by
  refine codeAny_loop rfl I (fun n s hI => ?_) n h
  show wpAny _ A ((compTurn (.ListComp elt [⟨t0, i0, ifs0, 0⟩, ⟨t1, i1, ifs1, 0⟩] scope pos) 1 it acc env).onRaise (fun x => do noteFrame x env; theTreesLotGoes x)) _ _ s
  refine wpAny_noted ?_
  rw [compTurn2_in]
  refine wpAny_bind (wpAny_standAt (wpAny_bind (wpAny_mono (turn n s hI) (fun r s₁ h₁ => ?_) fun _ _ h' => h')))
  cases r with
  | none => exact wpAny_pure h₁
  | some v =>
    refine wpAny_bind (wpAny_mono h₁ (fun _ s₁' h₁' => ?_) fun _ _ h' => h')
    refine wpAny_bind (wpAny_mono h₁' (fun _ s₂ h₂ => wpAny_bind (wpAny_mono h₂ (fun ok s₃ h₃ => ?_) fun _ _ h' => h')) fun _ _ h' => h')
    cases ok with
    | false => exact wpAny_pure ⟨rfl, h₃⟩
    | true =>
      exact wpAny_bind (wpAny_bind (wpAny_mono h₃ (fun x s₄ h₄ => wpAny_bind (wpAny_mono h₄ (fun _ s₅ h₅ => wpAny_pure (wpAny_pure ⟨rfl, h₅⟩)) fun _ _ h' => h')) fun _ _ h' => h'))
/-- the second clause's start -/
theorem compStart1_ok (h0 : codeAny (model prog w) A (.compLoop (.ListComp elt [⟨t0, i0, ifs0, 0⟩, ⟨t1, i1, ifs1, 0⟩] scope pos) 1 it acc env) R s)
    (h : wpAny (model prog w) A (pyIter it) (fun it' s' => codeAny (model prog w) A (.compLoop (.ListComp elt [⟨t0, i0, ifs0, 0⟩, ⟨t1, i1, ifs1, 0⟩] scope pos) 1 it' acc env) R s')
      (notedBy (model prog w) A env fun x s' => R (.error x) s') s) :
    codeAny (model prog w) A (.compStart (.ListComp elt [⟨t0, i0, ifs0, 0⟩, ⟨t1, i1, ifs1, 0⟩] scope pos) 1 it acc env) R s := by
  refine codeAny_of_tree ?_
  show wpAny _ _ ((compStart (.ListComp elt [⟨t0, i0, ifs0, 0⟩, ⟨t1, i1, ifs1, 0⟩] scope pos) 1 it acc env).onRaise (fun x => do noteFrame x env; standAt theWindowsPlace)) _ _ s
  refine wpAny_notedAt ?_
  unfold compStart
  show wpAny _ _ (ask >>= _) _ _ s
  refine wpAny_bind (wpAny_askSetting (wpAny_ite ?_))
  split
  · first
      | exact wpAny_bind (wpAny_pure (wpAny_pure (And.intro rfl h0)))
      | exact wpAny_pure (And.intro rfl h0)
  · first
      | exact wpAny_bind (wpAny_rule (wpAny_bind (wpAny_standAt (wpAny_bind (wpAny_mono h (fun it' s' h' => wpAny_pure (And.intro rfl h')) fun _ _ x => x)))))
      | (refine wpAny_bind (wpAny_rule ?_); show wpAny _ _ (standAt i1.pos >>= _) _ _ s; exact wpAny_bind (wpAny_standAt (wpAny_bind (wpAny_mono h (fun it' s' h' => wpAny_pure (And.intro rfl h')) fun _ _ x => x))))
end

theorem wipe_out {σ : St} {i : Nat} : ∀ {vs : List Nat}, i ∉ vs → (wipe σ vs)[i]? = σ[i]?
  | [], _ => rfl
  | v :: vs, h => by
    have h1 : v ≠ i := fun e => h (by rw [e]; exact List.mem_cons_self)
    have h2 : i ∉ vs := fun m => h (List.mem_cons_of_mem _ m)
    unfold wipe
    rw [List.getElem?_set_ne h1]
    exact wipe_out h2
section
variable {X : Cx}
/-- [elt for tg in iter if .. for tg1 in iter1 if ..]: behind the first clause's store and tests the second source's own loop, from which Nx is reached. vs: the block's names; vs1: those of the second target -/
def tLc2 (wi : TI) (g : TG) (tt : TT) (wi1 : TI) (g1 : TG) (tt1 : TT) (te : TE) (vs vs1 : List Nat) : TE := fun σ H Q => wi σ H fun J H1 => ∀ D, H1 D = none → ∃ W : Nat → Nat → Hp → Prop, (∃ m, W 0 m (upd H1 D (.lst []))) ∧ ∀ i m H, W i m H →
  (J.stop i H ∧ Q (.ref D) H) ∨ (J.go i H ∧ ∃ Nx : Hp → Prop, (∀ H', Nx H' → ∃ m', m' < m ∧ W (i + 1) m' H') ∧ ∀ x H', J.yld i H x H' → g x (wipe σ vs) H' fun σ2 H2 => wipe σ2 vs = wipe σ vs ∧ tt σ2 H2 fun b H3 =>
    if b = true then wi1 σ2 H3 fun J1 H4 => ∃ W1 : Nat → Nat → Hp → Prop, (∃ m, W1 0 m H4) ∧ ∀ j k H, W1 j k H →
      (J1.stop j H ∧ Nx H) ∨ (J1.go j H ∧ ∃ Nx1 : Hp → Prop, (∀ H', Nx1 H' → ∃ k', k' < k ∧ W1 (j + 1) k' H') ∧ ∀ x H', J1.yld j H x H' → g1 x (wipe σ2 vs1) H' fun σ3 H5 => wipe σ3 vs1 = wipe σ2 vs1 ∧ tt1 σ3 H5 fun b H6 =>
        if b = true then te σ3 H6 fun y H7 => ∃ acc, H7 D = some (.lst acc) ∧ acc.length < sizeLine ∧ Nx1 (upd H7 D (.lst (acc ++ [y]))) else Nx1 H6)
    else Nx H3)
theorem lc2_core {pins : List (Addr × Obj)} {s : Shared} {σ : St} {H : Hp} {Q : VK} {elt tg iter tg1 iter1 : Expr} {ifs ifs1 : List Expr} {scope : Scope} {own : List (Str × Nat)} {vs1 : List Nat} {pos pos' : Pos} {wi wi1 : TI} {g g1 : TG} {tt tt1 : TT} {te : TE} {use : Option (Value → Sem Unit)} {Qf : Value → Shared → Prop}
    (hc : X.calm = true) (hN : X.N.Nodup) (I : Inv X pins σ H s) (hi : PI X tg iter wi) (ok : BlkOk X.N X.env.scope scope own) (hv : ∀ i ∈ vs1, i ∈ own.map (·.2))
    (hg : ∀ (s : Shared) (H : Hp) (C : Addr) (cl : List (Str × Addr)) (fp : List Addr), PG (X.blk s H scope (compEnvC scope cl C X.env) fp) tg g) (ht : ∀ (s : Shared) (H : Hp) (C : Addr) (cl : List (Str × Addr)) (fp : List Addr), PTs (X.blk s H scope (compEnvC scope cl C X.env) fp) ifs tt)
    (he : ∀ (s : Shared) (H : Hp) (C : Addr) (cl : List (Str × Addr)) (fp : List Addr), PE (X.blk s H scope (compEnvC scope cl C X.env) fp) elt te) (hs : ∀ x, foldedSetIterable iter X.env x = pure x)
    (hi1 : ∀ (s : Shared) (H : Hp) (C : Addr) (cl : List (Str × Addr)) (fp : List Addr), PI (X.blk s H scope (compEnvC scope cl C X.env) fp) tg1 iter1 wi1)
    (hg1 : ∀ (s : Shared) (H : Hp) (C : Addr) (cl : List (Str × Addr)) (fp : List Addr), PG (X.blk s H scope (compEnvC scope cl C X.env) fp) tg1 g1)
    (ht1 : ∀ (s : Shared) (H : Hp) (C : Addr) (cl : List (Str × Addr)) (fp : List Addr), PTs (X.blk s H scope (compEnvC scope cl C X.env) fp) ifs1 tt1)
    (hs1 : ∀ env x, foldedSetIterable iter1 env x = pure x)
    (h : tLc2 wi g tt wi1 g1 tt1 te (own.map (·.2)) vs1 σ H Q)
    (hRR : ∀ D C s' m H', Inv X pins σ H' s' → Q (.ref D) H' → s'.heap.Ns C m → FpOk X pins H' C → compPost (model X.prog X.w) X.A X.xe use Qf (.ref D) C (.ok .next) s') :
    wpAny (model X.prog X.w) X.A (comprehension (.ListComp elt [⟨tg, iter, ifs, 0⟩, ⟨tg1, iter1, ifs1, 0⟩] scope pos) scope X.env pos' (newList []) false (eval iter X.env) use) Qf X.xe s := by
  have hfree : ∀ y ∈ scope.names, y.2 = .free → ∃ c, X.env.cells.lookup y.1 = some c := fun y hy e => by
    rcases ok.free y hy e with k | k
    · exact I.ok.has _ (.inl k)
    · exact I.ok.has _ (.inr k)
  refine wpAny_comprehension_free (use := use) rfl hs (closure_ok hfree) ok.kind (fun y hy e => by rw [ok.uniq y hy, e])
    (thn (hi pins s σ H _ I h) fun xv s1 hx => thn hx fun itv s2 h2 => ?_)
  obtain ⟨it, fp, tn, J, H2, e, I2, T, st2, f2, q⟩ := h2
  subst e
  refine wpAny_newObj_type (newEnv_comp ?_) (by show 0 ≤ sizeLine; decide)
  generalize hD : s2.heap.objs.size = D
  have hDn : H2 D = none := I2.hok.fresh (Nat.le_of_eq hD)
  obtain ⟨W, ⟨m0, w0⟩, turn⟩ := q D hDn
  -- the new list
  generalize hs3 : ({ s2 with heap := s2.heap.push { cls := .type "list", data := .seq ([] : List Value).toArray } } : Shared) = s3
  have I3 : Inv X pins σ (upd H2 D (.lst [])) s3 := by
    rw [← hs3]
    refine I2.laid (t' := s2.toks) (fun b o e => Heap.get?_push_of_some _ e) (Nat.le_of_eq hD) ⟨Nat.zero_le _, [], 0, .nil, ?_⟩
    rw [← hD]
    exact Heap.get?_push_size _ rfl
  have h3 : s3.heap = s2.heap.push { cls := .type "list", data := .seq ([] : List Value).toArray } := by rw [← hs3]
  have sz : ∀ b ∈ fp, b < s2.heap.objs.size := fun b hb => by
    obtain ⟨o, e, _⟩ := T.obj _ _ st2 b hb
    exact Heap.lt_size e
  have f3 : ∀ b ∈ fp, FpOk X pins (upd H2 D (.lst [])) b ∧ b < s3.heap.objs.size := fun b hb => by
    have hlt := sz b hb
    refine ⟨⟨?_, (f2 b hb).2⟩, by rw [h3, Heap.size_push]; exact Nat.lt_succ_of_lt hlt⟩
    rw [upd_ne (by rw [← hD]; exact Nat.ne_of_lt hlt)]
    exact (f2 b hb).1
  have st3 : tn 0 s3.heap := T.keep _ _ _ st2 fun b _ o e => by rw [h3]; exact Heap.get?_push_of_some _ e
  have I4 := block_start I3 ok hN f3
  have pg := hg s3 (upd H2 D (.lst [])) s3.heap.objs.size (cellsFrom (s3.heap.objs.size + 1) scope.names (cloFrom X.env.cells scope.names [])) fp
  have pt := ht s3 (upd H2 D (.lst [])) s3.heap.objs.size (cellsFrom (s3.heap.objs.size + 1) scope.names (cloFrom X.env.cells scope.names [])) fp
  have pe := he s3 (upd H2 D (.lst [])) s3.heap.objs.size (cellsFrom (s3.heap.objs.size + 1) scope.names (cloFrom X.env.cells scope.names [])) fp
  have pi1 := hi1 s3 (upd H2 D (.lst [])) s3.heap.objs.size (cellsFrom (s3.heap.objs.size + 1) scope.names (cloFrom X.env.cells scope.names [])) fp
  have pg1 := hg1 s3 (upd H2 D (.lst [])) s3.heap.objs.size (cellsFrom (s3.heap.objs.size + 1) scope.names (cloFrom X.env.cells scope.names [])) fp
  have pt1 := ht1 s3 (upd H2 D (.lst [])) s3.heap.objs.size (cellsFrom (s3.heap.objs.size + 1) scope.names (cloFrom X.env.cells scope.names [])) fp
  show codeAny _ _ (.compStart (.ListComp elt [⟨tg, iter, ifs, 0⟩, ⟨tg1, iter1, ifs1, 0⟩] scope pos) 0 (.ref it) (.ref D) (compEnvC scope (cellsFrom (s3.heap.objs.size + 1) scope.names (cloFrom X.env.cells scope.names [])) s3.heap.objs.size X.env)) (compPost (model X.prog X.w) X.A X.xe use Qf (.ref D) s3.heap.objs.size) { s3 with heap := pushCells (s3.heap.push { cls := .type "dict", data := .dict #[] }) scope.names }
  have nfp : ∀ b ∈ fp, (upd H2 D (.lst [])) b = none := fun b hb => (f3 b hb).1.1
  generalize hce : compEnvC scope (cellsFrom (s3.heap.objs.size + 1) scope.names (cloFrom X.env.cells scope.names [])) s3.heap.objs.size X.env = ce at I4 pg pt pe pi1 pg1 pt1 ⊢
  have cL : ce.locals = s3.heap.objs.size := by subst hce; rfl
  generalize hH3 : upd H2 D (.lst []) = H3 at I3 I4 pg pt pe pi1 pg1 pt1 w0 nfp f3
  generalize hs4 : ({ s3 with heap := pushCells (s3.heap.push { cls := .type "dict", data := .dict #[] }) scope.names } : Shared) = s4 at I4 ⊢
  have st4 : tn 0 s4.heap := T.keep _ _ _ st3 fun b _ o e => by rw [← hs4]; exact pushCells_keeps _ _ _ _ (Heap.get?_push_of_some _ e)
  have stat : ∀ {σ' : St} {H' : Hp} {s' : Shared}, Inv (X.blk s3 H3 scope ce fp) [] σ' H' s' → (∀ b ∈ fp, H' b = none) → ∀ b ∈ fp, FpOk (X.blk s3 H3 scope ce fp) [] H' b := fun {σ' H' s'} I' hn b hb =>
    ⟨hn b hb, (I'.ok.exf b hb).1, I'.ok.exfs b hb, .inl hb, fun x c e => (I'.ok.exf b hb).2 x c e, fun p hp => absurd (show p ∈ ([] : List (Addr × Obj)) ++ [] from hp) (by simp)⟩
  have loop : codeAny (model X.prog X.w) X.A (.compLoop (.ListComp elt [⟨tg, iter, ifs, 0⟩, ⟨tg1, iter1, ifs1, 0⟩] scope pos) 0 (.ref it) (.ref D) ce) (compPost (model X.prog X.w) X.A X.xe use Qf (.ref D) s3.heap.objs.size) s4 := by
    refine compLoop2_out (hs1 ce) (fun n s' => ∃ i H', Inv (X.blk s3 H3 scope ce fp) [] (wipe σ (own.map (·.2))) H' s' ∧ tn i s'.heap ∧ (∀ b ∈ fp, H' b = none) ∧ W i n H') ?_ m0 ⟨0, H3, I4, st4, nfp, w0⟩
    rintro n s5 ⟨i, H5, I5, st5, n5, w5⟩
    rcases turn i n H5 w5 with ⟨stop, qq⟩ | ⟨go, Nx, hNx, step⟩
    · have td := T.done (X.blk s3 H3 scope ce fp) rfl rfl rfl hc i [] s5 _ H5 (fun _ _ => False) I5 (stat I5 n5) st5 stop
      refine thnF td fun r s6 ⟨hr, I6⟩ => ?_
      subst hr
      -- back in the def's context
      have I7 : Inv X pins σ H5 s6 := I3.call' (ch := fp) I6.os I6.base I6.hok I6.bare fun b hb => ⟨(f3 b hb).1.2.2.2.1, (f3 b hb).1.2.1, (f3 b hb).1.2.2.2.2.1, (f3 b hb).1.2.2.2.2.2⟩
      have nC : H5 s3.heap.objs.size = none := by
        have z : H5 ce.locals = none := I6.free
        rw [cL] at z
        exact z
      obtain ⟨m, hn, _⟩ := I6.loc
      have hn : s6.heap.Ns ce.locals m := hn
      rw [cL] at hn
      exact hRR D s3.heap.objs.size s6 m H5 I7 qq hn (I3.fpOk (Nat.le_refl _) nC)
    · have ti := T.item (X.blk s3 H3 scope ce fp) rfl rfl rfl hc i [] s5 _ H5 (fun _ _ => False) I5 (stat I5 n5) st5 go
      refine thnF ti fun r s6 ⟨u, hr, h6⟩ => ?_
      subst hr
      refine thnF h6 fun _ s7 ⟨x, H7, I7, r7, y7, st7, n7⟩ => ?_
      have I7' := I7.pinned (stat I7 n7) (T.obj _ _ st7)
      refine thnF (pg _ s7 _ H7 x u _ I7' r7 (step x H7 y7)) fun _ s8 ⟨σ8, H8, I8, hw8, q8⟩ => ?_
      refine thnF (pt _ s8 σ8 H8 _ I8 q8) fun b s9 ⟨H9, I9, q9⟩ => ?_
      -- the turn's end, from any slots that know what the block knew at its start
      have fin : ∀ {σ9 : St} {s' : Shared} {H' : Hp}, Inv (X.blk s3 H3 scope ce fp) ([] ++ pinsAt fp s7.heap) σ9 H' s' → (wipe σ (own.map (·.2))).length = σ9.length → (∀ (j : Nat) v, (wipe σ (own.map (·.2)))[j]? = some (some v) → σ9[j]? = some (some v)) → Nx H' →
          ∃ m, m < n ∧ ∃ i H', Inv (X.blk s3 H3 scope ce fp) [] (wipe σ (own.map (·.2))) H' s' ∧ tn i s'.heap ∧ (∀ b ∈ fp, H' b = none) ∧ W i m H' := fun {σ9 s' H'} I' hl hk nx => by
        obtain ⟨m', hm, w'⟩ := hNx H' nx
        have pin' : ∀ b ∈ fp, ∀ o, s7.heap.get? b = some o → s'.heap.get? b = some o ∧ H' b = none := fun b hb o e =>
          let z := I'.pin (b, o) (List.mem_append_right _ (List.mem_append_right _ (mem_pinsAt hb e)))
          ⟨z.1, z.2.1⟩
        refine ⟨m', hm, i + 1, H', (I'.unpinned (pins := [])).weak hl hk, T.keep _ _ _ st7 fun b hb o e => (pin' b hb o e).1, fun b hb => ?_, w'⟩
        obtain ⟨o, e, _⟩ := T.obj _ _ st7 b hb
        exact (pin' b hb o e).2
      have hl8 : (wipe σ (own.map (·.2))).length = σ8.length := by rw [← hw8, wipe_length]
      have hk8 : ∀ (j : Nat) v, (wipe σ (own.map (·.2)))[j]? = some (some v) → σ8[j]? = some (some v) := fun j v e => by
        rw [← hw8] at e
        exact (wipe_some e).1
      have hk9 : ∀ (j : Nat) v, (wipe σ (own.map (·.2)))[j]? = some (some v) → (wipe σ8 vs1)[j]? = some (some v) := fun j v e => by
        rw [← hw8] at e
        obtain ⟨e1, e2⟩ := wipe_some e
        rw [wipe_out fun z => e2 (hv j z)]
        exact e1
      cases b with
      | false =>
        simp only [Bool.false_eq_true, if_false] at q9 ⊢
        exact fin I9 hl8 hk8 q9
      | true =>
        simp only [if_true] at q9 ⊢
        refine thnF (pi1 _ s9 σ8 H9 _ I9 q9) fun xv s10 hx => thnF hx fun itv s11 h11 => ?_
        obtain ⟨it1, fp1, tn1, J1, H11, e1, I11, T1, st11, f11, W1, ⟨m1, w1⟩, turn1⟩ := h11
        subst e1
        -- the inner loop
        have stat1 : ∀ {H' : Hp}, (∀ b ∈ fp1, H' b = none) → ∀ b ∈ fp1, FpOk (X.blk s3 H3 scope ce fp) ([] ++ pinsAt fp s7.heap) H' b := fun hn b hb => ⟨hn b hb, (f11 b hb).2⟩
        have loop1 : codeAny (model X.prog X.w) X.A (.compLoop (.ListComp elt [⟨tg, iter, ifs, 0⟩, ⟨tg1, iter1, ifs1, 0⟩] scope pos) 1 (.ref it1) (.ref D) ce)
            (fun r s' => match r with
              | .ok _ => ∃ m, m < n ∧ ∃ i H', Inv (X.blk s3 H3 scope ce fp) [] (wipe σ (own.map (·.2))) H' s' ∧ tn i s'.heap ∧ (∀ b ∈ fp, H' b = none) ∧ W i m H'
              | .error _ => False) s11 := by
          refine compLoop2_in (fun k s' => ∃ j H', Inv (X.blk s3 H3 scope ce fp) ([] ++ pinsAt fp s7.heap) (wipe σ8 vs1) H' s' ∧ tn1 j s'.heap ∧ (∀ b ∈ fp1, H' b = none) ∧ W1 j k H') ?_ m1 ⟨0, H11, I11.weak (wipe_length _ _) (fun j v e => (wipe_some e).1), st11, fun b hb => (f11 b hb).1, w1⟩
          rintro k s12 ⟨j, H12, I12, st12, n12, w12⟩
          rcases turn1 j k H12 w12 with ⟨stop1, nx1⟩ | ⟨go1, Nx1, hNx1, step1⟩
          · refine thnF (T1.done (X.blk s3 H3 scope ce fp) rfl rfl rfl hc j _ s12 (wipe σ8 vs1) H12 (fun _ _ => False) I12 (stat1 n12) st12 stop1) fun r s13 ⟨hr, I13⟩ => ?_
            subst hr
            exact fin I13 (hl8.trans (wipe_length σ8 vs1).symm) hk9 nx1
          · refine thnF (T1.item (X.blk s3 H3 scope ce fp) rfl rfl rfl hc j _ s12 (wipe σ8 vs1) H12 (fun _ _ => False) I12 (stat1 n12) st12 go1) fun r s13 ⟨u1, hr, h13⟩ => ?_
            subst hr
            refine thnF h13 fun _ s14 ⟨x1, H14, I14, r14, y14, st14, n14⟩ => ?_
            have I14' := I14.pinned (stat1 n14) (T1.obj _ _ st14)
            refine thnF (pg1 _ s14 (wipe σ8 vs1) H14 x1 u1 _ I14' r14 (step1 x1 H14 y14)) fun _ s15 ⟨σ15, H15, I15, hw15, q15⟩ => ?_
            refine thnF (pt1 _ s15 σ15 H15 _ I15 q15) fun b1 s16 ⟨H16, I16, q16⟩ => ?_
            have fin1 : ∀ {s' : Shared} {H' : Hp}, Inv (X.blk s3 H3 scope ce fp) (([] ++ pinsAt fp s7.heap) ++ pinsAt fp1 s14.heap) σ15 H' s' → Nx1 H' → ∃ m, m < k ∧ ∃ j H', Inv (X.blk s3 H3 scope ce fp) ([] ++ pinsAt fp s7.heap) (wipe σ8 vs1) H' s' ∧ tn1 j s'.heap ∧ (∀ b ∈ fp1, H' b = none) ∧ W1 j m H' := fun {s' H'} I' nx => by
              obtain ⟨m', hm, w'⟩ := hNx1 H' nx
              have pin' : ∀ b ∈ fp1, ∀ o, s14.heap.get? b = some o → s'.heap.get? b = some o ∧ H' b = none := fun b hb o e =>
                let z := I'.pin (b, o) (List.mem_append_right _ (List.mem_append_right _ (mem_pinsAt hb e)))
                ⟨z.1, z.2.1⟩
              refine ⟨m', hm, j + 1, H', I'.unpinned.weak (by rw [← hw15, wipe_length]) (fun j v e => by rw [← hw15] at e; exact (wipe_some e).1), T1.keep _ _ _ st14 fun b hb o e => (pin' b hb o e).1, fun b hb => ?_, w'⟩
              obtain ⟨o, e, _⟩ := T1.obj _ _ st14 b hb
              exact (pin' b hb o e).2
            cases b1 with
            | false =>
              simp only [Bool.false_eq_true, if_false] at q16 ⊢
              exact fin1 I16 q16
            | true =>
              simp only [if_true] at q16 ⊢
              refine thnF (pe _ s16 σ15 H16 _ I16 q16) fun z s17 ⟨yv, H17, I17, r17, acc, hD17, hz17, nx⟩ => ?_
              exact app_ok (X := X.blk s3 H3 scope ce fp) I17 hD17 hz17 r17 fun s18 I18 => fin1 I18 nx
        exact compStart1_ok loop1 (T1.self X.A 0 _ _ _ st11 loop1)
  exact codeAny_compStart_list loop (T.self X.A 0 _ _ _ st4 loop)
/-- as a value -/
theorem pe_lc2 {elt tg iter tg1 iter1 : Expr} {ifs ifs1 : List Expr} {scope : Scope} {own : List (Str × Nat)} {vs1 : List Nat} {pos : Pos} {wi wi1 : TI} {g g1 : TG} {tt tt1 : TT} {te : TE} (hc : X.calm = true) (hN : X.N.Nodup) (hi : PI X tg iter wi) (ok : BlkOk X.N X.env.scope scope own) (hv : ∀ i ∈ vs1, i ∈ own.map (·.2))
    (hg : ∀ (s : Shared) (H : Hp) (C : Addr) (cl : List (Str × Addr)) (fp : List Addr), PG (X.blk s H scope (compEnvC scope cl C X.env) fp) tg g) (ht : ∀ (s : Shared) (H : Hp) (C : Addr) (cl : List (Str × Addr)) (fp : List Addr), PTs (X.blk s H scope (compEnvC scope cl C X.env) fp) ifs tt)
    (hi1 : ∀ (s : Shared) (H : Hp) (C : Addr) (cl : List (Str × Addr)) (fp : List Addr), PI (X.blk s H scope (compEnvC scope cl C X.env) fp) tg1 iter1 wi1)
    (hg1 : ∀ (s : Shared) (H : Hp) (C : Addr) (cl : List (Str × Addr)) (fp : List Addr), PG (X.blk s H scope (compEnvC scope cl C X.env) fp) tg1 g1) (ht1 : ∀ (s : Shared) (H : Hp) (C : Addr) (cl : List (Str × Addr)) (fp : List Addr), PTs (X.blk s H scope (compEnvC scope cl C X.env) fp) ifs1 tt1)
    (he : ∀ (s : Shared) (H : Hp) (C : Addr) (cl : List (Str × Addr)) (fp : List Addr), PE (X.blk s H scope (compEnvC scope cl C X.env) fp) elt te) (hs : ∀ x, foldedSetIterable iter X.env x = pure x := by intro _; rfl) (hs1 : ∀ env x, foldedSetIterable iter1 env x = pure x := by intro _ _; rfl) :
    PE X (.ListComp elt [⟨tg, iter, ifs, 0⟩, ⟨tg1, iter1, ifs1, 0⟩] scope pos) (tLc2 wi g tt wi1 g1 tt1 te (own.map (·.2)) vs1) := by
  intro pins s σ H Q I h
  rw [eval_ListComp]
  refine lc2_core hc hN I hi ok hv hg ht he hs hi1 hg1 ht1 hs1 h fun D C s' m H' I' q hn f => ⟨m, hn, fun h'' sb => ?_⟩
  obtain ⟨f0, f1, f2, f3, f4, f5⟩ := f
  exact ⟨.ref D, H', I'.turned (t' := s'.toks) (fun b o hb e => (sb.2 b hb).trans e) f0 f1 f3 f4 f5, rfl, q⟩
theorem ps_setLc2 {i : Nat} {y : Str} {py : Pos} {elt tg iter tg1 iter1 : Expr} {ifs ifs1 : List Expr} {scope : Scope} {own : List (Str × Nat)} {vs1 : List Nat} {pos spos : Pos} {wi wi1 : TI} {g g1 : TG} {tt tt1 : TT} {te : TE} (hc : X.calm = true) (hN : X.N.Nodup) (hy : X.N[i]? = some y) (hyl : X.env.scope.names.lookup y = some .local)
    (hsw : swapsWith (.ListComp elt [⟨tg, iter, ifs, 0⟩, ⟨tg1, iter1, ifs1, 0⟩] scope pos) (some (.Name y py)) spos.line X.env = pure true) (hi : PI X tg iter wi) (ok : BlkOk X.N X.env.scope scope own) (hv : ∀ i ∈ vs1, i ∈ own.map (·.2))
    (hg : ∀ (s : Shared) (H : Hp) (C : Addr) (cl : List (Str × Addr)) (fp : List Addr), PG (X.blk s H scope (compEnvC scope cl C X.env) fp) tg g) (ht : ∀ (s : Shared) (H : Hp) (C : Addr) (cl : List (Str × Addr)) (fp : List Addr), PTs (X.blk s H scope (compEnvC scope cl C X.env) fp) ifs tt)
    (hi1 : ∀ (s : Shared) (H : Hp) (C : Addr) (cl : List (Str × Addr)) (fp : List Addr), PI (X.blk s H scope (compEnvC scope cl C X.env) fp) tg1 iter1 wi1)
    (hg1 : ∀ (s : Shared) (H : Hp) (C : Addr) (cl : List (Str × Addr)) (fp : List Addr), PG (X.blk s H scope (compEnvC scope cl C X.env) fp) tg1 g1) (ht1 : ∀ (s : Shared) (H : Hp) (C : Addr) (cl : List (Str × Addr)) (fp : List Addr), PTs (X.blk s H scope (compEnvC scope cl C X.env) fp) ifs1 tt1)
    (he : ∀ (s : Shared) (H : Hp) (C : Addr) (cl : List (Str × Addr)) (fp : List Addr), PE (X.blk s H scope (compEnvC scope cl C X.env) fp) elt te) (hs : ∀ x, foldedSetIterable iter X.env x = pure x := by intro _; rfl) (hs1 : ∀ env x, foldedSetIterable iter1 env x = pure x := by intro _ _; rfl) :
    PS X (.Assign [.Name y py] (.ListComp elt [⟨tg, iter, ifs, 0⟩, ⟨tg1, iter1, ifs1, 0⟩] scope pos) spos) (tAsg (tLc2 wi g tt wi1 g1 tt1 te (own.map (·.2)) vs1) (gName i)) := by
  intro pins s σ H D I h
  rw [exec_Assign_Name_used _ _ _ _ hsw]
  refine wpAny_bind (wpAny_standAt (wpAny_bind ?_))
  show wpAny _ X.A (do let _ ← comprehension (.ListComp elt [⟨tg, iter, ifs, 0⟩, ⟨tg1, iter1, ifs1, 0⟩] scope pos) scope X.env (firstIterPos [⟨tg, iter, ifs, 0⟩, ⟨tg1, iter1, ifs1, 0⟩] pos) (newList []) false (eval iter X.env) (some (assign (.Name y py) X.env))) _ _ s
  have h : tLc2 wi g tt wi1 g1 tt1 te (own.map (·.2)) vs1 σ H (fun x H1 => gName i x σ H1 D.nx) := h
  refine wpAny_bind (thn (lc2_core (Qf := fun _ s' => SP X pins D .next s') hc hN I hi ok hv hg ht he hs hi1 hg1 ht1 hs1 h fun L C s' m H' I' q hn f => ?_) fun _ s' hq => wpAny_pure (wpAny_pure hq))
  show wpAny _ _ (assign (.Name y py) X.env (.ref L)) _ _ _
  refine wpAny_assign_Name (store_ok2 (v := V.ref L) I' hN hy (.inl hyl) rfl (fun s2 I2 ⟨a, sb, ha⟩ => ?_) (.inr hyl))
  obtain ⟨f0, f1, f2, f3, f4, f5⟩ := f
  have haC : C ≠ a := by
    rcases ha with z | z
    · rw [z]; exact f1
    · exact fun e => f4 y a z e.symm
  refine ⟨m, hn.sameBut sb haC, fun h3 sb3 => ?_⟩
  exact ⟨_, H', I2.turned (t' := s2.toks) (fun b o hb e => (sb3.2 b hb).trans e) f0 f1 f3 f4 f5, q⟩
end
end L2

namespace L2
open PySem PySem.Spec PyProof.Rows

/-! ### lists of pairs as tables -/
section
variable {κ : Type} [DecidableEq κ]
def valV (kvs : List (κ × V)) (k : κ) : Option V := (kvs.find? fun kv => decide (kv.1 = k)).map (·.2)
/-- in its place, or at the end -/
def putK (kvs : List (κ × V)) (k : κ) (v : V) : List (κ × V) :=
  if (kvs.any fun kv => decide (kv.1 = k)) = true then kvs.map (fun kv => if kv.1 = k then (kv.1, v) else kv) else kvs ++ [(k, v)]
def dropK (kvs : List (κ × V)) (k : κ) : List (κ × V) := kvs.filter fun kv => decide (kv.1 ≠ k)

theorem valV_nil {k : κ} : valV ([] : List (κ × V)) k = none := rfl
theorem valV_pos {p : κ × V} {r : List (κ × V)} {k : κ} (e : p.1 = k) : valV (p :: r) k = some p.2 := by simp [valV, List.find?_cons, e]
theorem valV_neg {p : κ × V} {r : List (κ × V)} {k : κ} (e : ¬ p.1 = k) : valV (p :: r) k = valV r k := by simp [valV, List.find?_cons, e]
theorem valV_any (k : κ) : ∀ kvs : List (κ × V), (kvs.any fun kv => decide (kv.1 = k)) = (valV kvs k).isSome
  | [] => rfl
  | p :: r => by
    rw [List.any_cons]
    by_cases e : p.1 = k
    · simp only [valV_pos e, decide_eq_true e, Bool.true_or, Option.isSome_some]
    · rw [valV_neg e, decide_eq_false e, Bool.false_or]; exact valV_any k r
theorem valV_map (k j : κ) (y : V) : ∀ kvs : List (κ × V), valV (kvs.map fun kv => if kv.1 = k then (kv.1, y) else kv) j = (valV kvs j).map fun x => if j = k then y else x
  | [] => rfl
  | p :: r => by
    have ih := valV_map k j y r
    rw [List.map_cons]
    by_cases h : p.1 = k
    · rw [if_pos h]
      by_cases e : p.1 = j
      · rw [valV_pos (p := (p.1, y)) e, valV_pos e, Option.map_some, if_pos (e.symm.trans h)]
      · rw [valV_neg (p := (p.1, y)) e, valV_neg e, ih]
    · rw [if_neg h]
      by_cases e : p.1 = j
      · rw [valV_pos (p := p) e, valV_pos e, Option.map_some, if_neg (fun z => h (e.trans z))]
      · rw [valV_neg (p := p) e, valV_neg e, ih]
theorem valV_snoc (k j : κ) (y : V) : ∀ kvs : List (κ × V), valV kvs k = none → valV (kvs ++ [(k, y)]) j = if j = k then some y else valV kvs j
  | [], _ => by
    by_cases e : k = j
    · rw [if_pos e.symm]; exact valV_pos (p := (k, y)) e
    · rw [if_neg (fun z => e z.symm)]; exact valV_neg (p := (k, y)) e
  | p :: r, hn => by
    rw [List.cons_append]
    have hk : ¬ p.1 = k := fun z => by rw [valV_pos z] at hn; cases hn
    rw [valV_neg hk] at hn
    have ih := valV_snoc k j y r hn
    by_cases e : p.1 = j
    · rw [valV_pos e, valV_pos e, if_neg (fun z => hk (e.trans z))]
    · rw [valV_neg e, valV_neg e, ih]
theorem valV_put (kvs : List (κ × V)) (k j : κ) (y : V) : valV (putK kvs k y) j = if j = k then some y else valV kvs j := by
  unfold putK
  by_cases a : (kvs.any fun kv => decide (kv.1 = k)) = true
  · rw [if_pos a, valV_map]
    rw [valV_any] at a
    by_cases e : j = k
    · obtain ⟨x, hx⟩ := Option.isSome_iff_exists.mp a
      rw [if_pos e, e, hx, Option.map_some, if_pos rfl]
    · rw [if_neg e]
      cases valV kvs j with
      | none => rfl
      | some x => rw [Option.map_some, if_neg e]
  · rw [if_neg a]
    refine valV_snoc k j y kvs ?_
    rw [valV_any] at a
    cases q : valV kvs k with
    | none => rfl
    | some x => rw [q] at a; exact (a rfl).elim
theorem length_putK (kvs : List (κ × V)) (k : κ) (v : V) : (putK kvs k v).length ≤ kvs.length + 1 := by
  unfold putK
  split
  · rw [List.length_map]; omega
  · rw [List.length_append, List.length_cons, List.length_nil]; omega
theorem putK_new {kvs : List (κ × V)} {k : κ} (v : V) (h : valV kvs k = none) : putK kvs k v = kvs ++ [(k, v)] := by
  unfold putK
  rw [valV_any, h]
  exact if_neg (by decide)

theorem RelO.isSome_eq {o : Option V} {u : Option Value} (r : RelO o u) : o.isSome = u.isSome := by
  cases o with
  | none => cases u with
    | none => rfl
    | some _ => exact (show False from r).elim
  | some _ => cases u with
    | none => exact (show False from r).elim
    | some _ => rfl
theorem RelO.getD {o : Option V} {u : Option Value} {d : V} {d' : Value} (r : RelO o u) (rd : RelV d d') : RelV (o.getD d) (u.getD d') := by
  cases o with
  | none => cases u with
    | none => exact rd
    | some _ => exact (show False from r).elim
  | some _ => cases u with
    | none => exact (show False from r).elim
    | some _ => exact r

/-- raw tables of the same keys -/
theorem KV.val {kvs : List (κ × V)} {vs : List (κ × Value)} (r : KV kvs vs) (k : κ) : RelO (valV kvs k) (valueAt vs k) := by
  unfold KV at r
  induction r with
  | nil => exact True.intro
  | @cons p q ps qs h t ih =>
    obtain ⟨h1, h2⟩ := h
    by_cases e : p.1 = k
    · have e' : q.1 = k := h1.symm.trans e
      have b : valueAt (q :: qs) k = some q.2 := by simp [valueAt, List.find?_cons, e']
      rw [valV_pos e, b]; exact h2
    · have e' : ¬ q.1 = k := fun z => e (h1.trans z)
      have b : valueAt (q :: qs) k = valueAt qs k := by simp [valueAt, List.find?_cons, e']
      rw [valV_neg e, b]; exact ih
theorem KV.any {kvs : List (κ × V)} {vs : List (κ × Value)} (r : KV kvs vs) (k : κ) : (kvs.any fun kv => decide (kv.1 = k)) = vs.any fun kv => decide (kv.1 = k) := by
  unfold KV at r
  induction r with
  | nil => rfl
  | cons h t ih => rw [List.any_cons, List.any_cons, ih, h.1]
theorem KV.repl {kvs : List (κ × V)} {vs : List (κ × Value)} (r : KV kvs vs) (k : κ) {y : V} {u : Value} (ry : RelV y u) :
    KV (kvs.map fun kv => if kv.1 = k then (kv.1, y) else kv) (vs.map fun kv => if kv.1 = k then (kv.1, u) else kv) := by
  unfold KV at r ⊢
  induction r with
  | nil => exact .nil
  | @cons p q ps qs h t ih =>
    rw [List.map_cons, List.map_cons]
    refine .cons ?_ ih
    obtain ⟨h1, h2⟩ := h
    by_cases e : p.1 = k
    · rw [if_pos e, if_pos (h1.symm.trans e)]; exact ⟨h1, ry⟩
    · rw [if_neg e, if_neg (fun z => e (h1.trans z))]; exact ⟨h1, h2⟩
theorem KV.put {kvs : List (κ × V)} {vs : List (κ × Value)} (r : KV kvs vs) (k : κ) {y : V} {u : Value} (ry : RelV y u) : KV (putK kvs k y) (stored vs k u) := by
  unfold putK stored
  rw [r.any k]
  by_cases e : (vs.any fun kv => decide (kv.1 = k)) = true
  · rw [if_pos e, if_pos e]; exact r.repl k ry
  · rw [if_neg e, if_neg e]; exact Paired.snoc r ⟨rfl, ry⟩
theorem KV.drop {kvs : List (κ × V)} {vs : List (κ × Value)} (r : KV kvs vs) (k : κ) : KV (dropK kvs k) (without vs k) := by
  unfold KV at r ⊢
  unfold dropK without
  induction r with
  | nil => exact .nil
  | @cons p q ps qs h t ih =>
    obtain ⟨h1, h2⟩ := h
    rw [List.filter_cons, List.filter_cons]
    by_cases e : p.1 = k
    · have a : ¬ decide (p.1 ≠ k) = true := by simp [e]
      have b : ¬ decide (q.1 ≠ k) = true := by simp [h1.symm.trans e]
      rw [if_neg a, if_neg b]; exact ih
    · have e' : ¬ q.1 = k := fun z => e (h1.trans z)
      have a : decide (p.1 ≠ k) = true := by simp [e]
      have b : decide (q.1 ≠ k) = true := by simp [e']
      rw [if_pos a, if_pos b]; exact .cons ⟨h1, h2⟩ ih
theorem KV.keys {kvs : List (κ × V)} {vs : List (κ × Value)} (r : KV kvs vs) : kvs.map (·.1) = vs.map (·.1) := by
  unfold KV at r
  induction r with
  | nil => rfl
  | cons h t ih => rw [List.map_cons, List.map_cons, ih, h.1]
theorem KV.length {kvs : List (κ × V)} {vs : List (κ × Value)} (r : KV kvs vs) : kvs.length = vs.length := Paired.length r
theorem dropK_le (kvs : List (κ × V)) (k : κ) : (dropK kvs k).length ≤ kvs.length := List.length_filter_le _ _
end


/-! ### a tracked dict, its keys ints and texts or tuples of these -/
theorem kV_is {P : Program} {w : World} {k : Key} {u : Value} (r : RelV (kV k) u) : (mixKind P w).is k u = true := by
  cases k with
  | inl i => obtain ⟨t, e⟩ := (show ∃ t, u = Value.int i t from r); subst e; exact mixKind_int P w i t
  | inr x => obtain ⟨t, e⟩ := (show ∃ t, u = Value.str x t from r); subst e; exact mixKind_str P w x t
theorem kV_inj {a b : Key} (e : kV a = kV b) : a = b := by
  cases a with
  | inl i => cases b with
    | inl j => have e' : V.int i = V.int j := e; injection e' with e'; rw [e']
    | inr y => exact nomatch (show V.int i = V.str y from e)
  | inr x => cases b with
    | inl j => exact nomatch (show V.str x = V.int j from e)
    | inr y => have e' : V.str x = V.str y := e; injection e' with e'; rw [e']
theorem kVs_inj : ∀ {a b : List Key}, a.map kV = b.map kV → a = b
  | [], [], _ => rfl
  | [], _ :: _, e => by simp at e
  | _ :: _, [], e => by simp at e
  | x :: xs, y :: ys, e => by
    rw [List.map_cons, List.map_cons] at e
    injection e with e1 e2
    rw [kV_inj e1, kVs_inj e2]
theorem items_are {P : Program} {w : World} : ∀ {ks : List Key} {us : List Value}, Vals (ks.map kV) us → ItemsAre (mixKind P w) ks us
  | [], _, r => by rw [List.map_nil] at r; cases r; exact .nil
  | k :: ks, _, r => by
    rw [List.map_cons] at r
    cases r with
    | cons h t => exact .cons (kV_is h) (items_are t)

/-- raw entries of a dict with tuple keys -/
abbrev KT (H : Hp) : List (List Key × V) → List (List Key × Addr × Value) → Prop := Paired fun p q => p.1 = q.1 ∧ H q.2.1 = some (.tup (p.1.map kV)) ∧ RelV p.2 q.2.2
theorem KT.val {H : Hp} {kvs : List (List Key × V)} {xs : List (List Key × Addr × Value)} (r : KT H kvs xs) (k : List Key) : RelO (valV kvs k) ((atKey xs k).map (·.2)) := by
  induction r with
  | nil => exact True.intro
  | @cons p q ps qs h t ih =>
    obtain ⟨h1, _, h2⟩ := h
    by_cases e : p.1 = k
    · have e' : q.1 = k := h1.symm.trans e
      have b : atKey (q :: qs) k = some q.2 := by simp [atKey, List.find?_cons, e']
      rw [valV_pos e, b]; exact h2
    · have e' : ¬ q.1 = k := fun z => e (h1.trans z)
      have b : atKey (q :: qs) k = atKey qs k := by simp [atKey, List.find?_cons, e']
      rw [valV_neg e, b]; exact ih
theorem KT.repl {H : Hp} {kvs : List (List Key × V)} {xs : List (List Key × Addr × Value)} (r : KT H kvs xs) (k : List Key) {y : V} {u : Value} (ry : RelV y u) :
    KT H (kvs.map fun kv => if kv.1 = k then (kv.1, y) else kv) (xs.map (putAt k u)) := by
  induction r with
  | nil => exact .nil
  | @cons p q ps qs h t ih =>
    rw [List.map_cons, List.map_cons]
    refine .cons ?_ ih
    obtain ⟨h1, h2, h3⟩ := h
    unfold putAt
    by_cases e : p.1 = k
    · rw [if_pos e, if_pos (h1.symm.trans e)]; exact ⟨h1, h2, ry⟩
    · rw [if_neg e, if_neg (fun z => e (h1.trans z))]; exact ⟨h1, h2, h3⟩
theorem KT.put {H : Hp} {kvs : List (List Key × V)} {xs : List (List Key × Addr × Value)} (r : KT H kvs xs) (k : List Key) {b : Addr} {y : V} {u : Value} (hb : H b = some (.tup (k.map kV))) (ry : RelV y u) :
    KT H (putK kvs k y) (storedH xs k b u) := by
  have e : (kvs.any fun kv => decide (kv.1 = k)) = (atKey xs k).isSome := by
    rw [valV_any, (r.val k).isSome_eq, Option.isSome_map]
  unfold putK storedH
  rw [e]
  by_cases q : (atKey xs k).isSome = true
  · rw [if_pos q, if_pos q]; exact r.repl k ry
  · rw [if_neg q, if_neg q]; exact Paired.snoc r ⟨rfl, hb, ry⟩
theorem KT.keeps {H H' : Hp} {kvs : List (List Key × V)} {xs : List (List Key × Addr × Value)} (r : KT H kvs xs) (ht : ∀ b ys, H b = some (.tup ys) → H' b = some (.tup ys)) : KT H' kvs xs :=
  Paired.mapP r fun _ _ z => ⟨z.1, ht _ _ z.2.1, z.2.2⟩

section
variable {P : Program} {w : World} {H : Hp} {h : Heap} {a : Addr}
theorem rd_of {u : HO} (ok : HOk P w H h) (e : Rd H a u) : ObjOk P w H h a u := e.ok ok
theorem dk_rd {kvs : List (Key × V)} (ok : HOk P w H h) (e : Rd H a (.dK kvs)) : kvs.length ≤ sizeLine ∧ (a == sysModules) = false ∧ ∃ vs, KV kvs vs ∧ h.DictOf (mixKind P w) a vs :=
  show ObjOk P w H h a (.dK kvs) from rd_of ok e
theorem dk_of {kvs : List (Key × V)} (ok : HOk P w H h) (e : H a = some (.dK kvs)) : kvs.length ≤ sizeLine ∧ (a == sysModules) = false ∧ ∃ vs, KV kvs vs ∧ h.DictOf (mixKind P w) a vs := dk_rd ok (.inl e)
/-- a tracked tuple of ints and texts is a key -/
theorem key_of {ks : List Key} (ok : HOk P w H h) (e : H a = some (.tup (ks.map kV))) : (tupleKind (mixKind P w)).is h ks a := by
  obtain ⟨_, its, r, o, h1, h2, n, h3⟩ := (show ObjOk P w H h a (.tup (ks.map kV)) from ok a _ e)
  exact ⟨o, its.toArray, n, h1, h2, h3, by simpa using items_are r⟩
theorem dt_rd {kvs : List (List Key × V)} (ok : HOk P w H h) (e : Rd H a (.dT kvs)) : kvs.length ≤ sizeLine ∧ (a == sysModules) = false ∧
    ∃ xs, KT H kvs xs ∧ h.DictOfH (tupleKind (mixKind P w)) a xs := by
  obtain ⟨z, y, xs, r, o, es, ep, h1, h2, h3, h4, h5⟩ := (show ObjOk P w H h a (.dT kvs) from rd_of ok e)
  refine ⟨z, y, xs, r, o, es, ep, h1, h2, h3, h4, fun x hx => ?_, h5⟩
  have all : ∀ {l : List (List Key × V)} {m : List (List Key × Addr × Value)}, KT H l m → ∀ x ∈ m, (tupleKind (mixKind P w)).is h x.1 x.2.1 := by
    intro l m q
    induction q with
    | nil => intro x hx; exact nomatch hx
    | @cons p q ps qs hq t ih =>
      intro x hx
      rcases List.mem_cons.mp hx with e | hx
      · subst e
        exact key_of ok (by rw [← hq.1]; exact hq.2.1)
      · exact ih x hx
  exact all r x hx
theorem dt_of {kvs : List (List Key × V)} (ok : HOk P w H h) (e : H a = some (.dT kvs)) : kvs.length ≤ sizeLine ∧ (a == sysModules) = false ∧
    ∃ xs, KT H kvs xs ∧ h.DictOfH (tupleKind (mixKind P w)) a xs := dt_rd ok (.inl e)
end

/-- what the dict at a holds at the key y -/
def DGet (H : Hp) (a : Addr) (y : V) (r : Option V) : Prop :=
  (∃ kvs k, Rd H a (.dK kvs) ∧ y = kV k ∧ r = valV kvs k) ∨ ∃ kvs k b, Rd H a (.dT kvs) ∧ y = .ref b ∧ H b = some (.tup (k.map kV)) ∧ r = valV kvs k
/-- the heap behind a[y] = v -/
def DPut (H : Hp) (a : Addr) (y v : V) (H' : Hp) : Prop :=
  (∃ kvs k, H a = some (.dK kvs) ∧ y = kV k ∧ kvs.length < sizeLine ∧ H' = upd H a (.dK (putK kvs k v))) ∨
  ∃ kvs k b, H a = some (.dT kvs) ∧ y = .ref b ∧ H b = some (.tup (k.map kV)) ∧ kvs.length < sizeLine ∧ H' = upd H a (.dT (putK kvs k v))
theorem DGet.k {H : Hp} {a : Addr} {kvs : List (Key × V)} {k : Key} (e : H a = some (.dK kvs)) : DGet H a (kV k) (valV kvs k) := .inl ⟨kvs, k, .inl e, rfl, rfl⟩
theorem DGet.t {H : Hp} {a b : Addr} {kvs : List (List Key × V)} {k : List Key} (e : H a = some (.dT kvs)) (eb : H b = some (.tup (k.map kV))) : DGet H a (.ref b) (valV kvs k) := .inr ⟨kvs, k, b, .inl e, rfl, eb, rfl⟩
theorem DPut.k {H : Hp} {a : Addr} {kvs : List (Key × V)} {k : Key} {v : V} (e : H a = some (.dK kvs)) (hl : kvs.length < sizeLine) : DPut H a (kV k) v (upd H a (.dK (putK kvs k v))) := .inl ⟨kvs, k, e, rfl, hl, rfl⟩
theorem DPut.t {H : Hp} {a b : Addr} {kvs : List (List Key × V)} {k : List Key} {v : V} (e : H a = some (.dT kvs)) (eb : H b = some (.tup (k.map kV))) (hl : kvs.length < sizeLine) :
    DPut H a (.ref b) v (upd H a (.dT (putK kvs k v))) := .inr ⟨kvs, k, b, e, rfl, eb, hl, rfl⟩


section
variable {X : Cx} {pins : List (Addr × Obj)} {σ : St} {H : Hp} {s : Shared} {a : Addr} {y v : V} {u r : Value} {o : Option V} {A : Around} {E : Value → Shared → Prop}

theorem Inv.big (I : Inv X pins σ H s) : sysModules < s.heap.objs.size := by
  have h : mainGlobals < s.heap.objs.size := (I.mod.glob.keeps I.bk).lt
  exact Nat.lt_trans (by decide) h

/-- d[y], there -/
theorem d_getItem {Q : Value → Shared → Prop} (hu : A.units + 1 < cLine) (I : Inv X pins σ H s) (g : DGet H a y (some v)) (ry : RelV y u) (h : ∀ w' s', Inv X pins σ H s' → RelV v w' → Q w' s') :
    wpAny (model X.prog X.w) A (getItem (.ref a) u) Q E s := by
  rcases g with ⟨kvs, k, e, ey, l⟩ | ⟨kvs, k, b, e, ey, eb, l⟩
  · subst ey
    obtain ⟨z, hd, vs, rel, dd⟩ := dk_rd I.hok e
    obtain ⟨w', hw, rw'⟩ := RelO.some_of (v := v) (o := valueAt vs k) (by rw [l]; exact rel.val k)
    exact wpAny_getItem_of (kV_is ry) dd.mapOf hw (h w' _ (I.tok _) rw')
  · subst ey
    cases (show u = Value.ref b from ry)
    obtain ⟨z, hd, xs, rel, dd⟩ := dt_rd I.hok e
    obtain ⟨w', hw, rw'⟩ := RelO.some_of (v := v) (o := (atKey xs k).map (·.2)) (by rw [l]; exact rel.val k)
    obtain ⟨p, hp, hp2⟩ := Option.map_eq_some_iff.mp hw
    refine wpAny_getItem_heap (tupleKind_room_in1 hu) (key_of I.hok eb) dd hp ?_
    rw [hp2]
    exact h w' _ (I.tok _) rw'
/-- y in d -/
theorem d_in {Q : Value → Shared → Prop} (hu : A.units + 1 < cLine) (I : Inv X pins σ H s) (g : DGet H a y o) (ry : RelV y u) (h : ∀ s', Inv X pins σ H s' → Q (.bool o.isSome) s') :
    wpAny (model X.prog X.w) A (compareOp .In u (.ref a)) Q E s := by
  rcases g with ⟨kvs, k, e, ey, l⟩ | ⟨kvs, k, b, e, ey, eb, l⟩
  · subst ey
    obtain ⟨z, hd, vs, rel, dd⟩ := dk_rd I.hok e
    refine wpAny_in_of (kV_is ry) hd dd.mapOf ?_
    rw [← (rel.val k).isSome_eq, ← l]
    exact h _ (I.tok _)
  · subst ey
    cases (show u = Value.ref b from ry)
    obtain ⟨z, hd, xs, rel, dd⟩ := dt_rd I.hok e
    refine wpAny_in_heap (tupleKind_room_in1 hu) (key_of I.hok eb) hd dd ?_
    have q := (rel.val k).isSome_eq
    rw [Option.isSome_map] at q
    rw [← q, ← l]
    exact h _ (I.tok _)
theorem d_notIn {Q : Value → Shared → Prop} (hu : A.units + 1 < cLine) (I : Inv X pins σ H s) (g : DGet H a y o) (ry : RelV y u) (h : ∀ s', Inv X pins σ H s' → Q (.bool (!o.isSome)) s') :
    wpAny (model X.prog X.w) A (compareOp .NotIn u (.ref a)) Q E s := by
  rcases g with ⟨kvs, k, e, ey, l⟩ | ⟨kvs, k, b, e, ey, eb, l⟩
  · subst ey
    obtain ⟨z, hd, vs, rel, dd⟩ := dk_rd I.hok e
    refine wpAny_notIn_of (kV_is ry) hd dd.mapOf ?_
    rw [← (rel.val k).isSome_eq, ← l]
    exact h _ (I.tok _)
  · subst ey
    cases (show u = Value.ref b from ry)
    obtain ⟨z, hd, xs, rel, dd⟩ := dt_rd I.hok e
    refine wpAny_notIn_heap (tupleKind_room_in1 hu) (key_of I.hok eb) hd dd ?_
    have q := (rel.val k).isSome_eq
    rw [Option.isSome_map] at q
    rw [← q, ← l]
    exact h _ (I.tok _)
/-- a dict's object is replaced -/
theorem d_write {h' : Heap} {t' : Nat} {ob : HO} (I : Inv X pins σ H s) (mu : Mut (H a)) (hs : Heap.SameBut a s.heap h') (he : ∃ q, h'.get? a = some q) (new : ObjOk X.prog X.w (upd H a ob) h' a ob) :
    Inv X pins σ (upd H a ob) { s with heap := h', toks := t' } :=
  I.write (x := a) (e := a) mu (.inl rfl) (fun b q hb z => (hs.2 b hb).trans z) he new
theorem dk_new {P : Program} {w : World} {H' : Hp} {h' : Heap} {kvs : List (Key × V)} {vs : List (Key × Value)} (z : kvs.length ≤ sizeLine) (hd : (a == sysModules) = false) (rel : KV kvs vs) (dd : h'.DictOf (mixKind P w) a vs) :
    ObjOk P w H' h' a (.dK kvs) := ⟨z, hd, vs, rel, dd⟩
/-- d[y] = v -/
theorem d_setItem {H' : Hp} {Q : Unit → Shared → Prop} (hu : A.units + 1 < cLine) (I : Inv X pins σ H s) (g : DPut H a y v H') (ry : RelV y u) (rv : RelV v r) (h : ∀ s', Inv X pins σ H' s' → Q () s') :
    wpAny (model X.prog X.w) A (setItem (.ref a) u r) Q E s := by
  rcases g with ⟨kvs, k, e, ey, l, eH⟩ | ⟨kvs, k, b, e, ey, eb, l, eH⟩
  · subst ey eH
    obtain ⟨z, hd, vs, rel, dd⟩ := dk_of I.hok e
    have hz : vs.length ≤ sizeLine := by rw [← rel.length]; exact z
    have hl : (putK kvs k v).length ≤ sizeLine := by have := length_putK kvs k v; omega
    refine wpAny_setItem_pairs (hsz := hz) (kV_is ry) dd fun h' dd' hs => h _ ?_
    have he : ∃ q, h'.get? a = some q := let ⟨q, _, _, hq, _⟩ := dd'; ⟨q, hq⟩
    exact d_write I (by rw [e]; exact True.intro) hs he (dk_new hl hd (rel.put k rv) dd')
  · subst ey eH
    cases (show u = Value.ref b from ry)
    obtain ⟨z, hd, xs, rel, dd⟩ := dt_of I.hok e
    have hz : xs.length ≤ sizeLine := by rw [← Paired.length rel]; exact z
    have hl : (putK kvs k v).length ≤ sizeLine := by have := length_putK kvs k v; omega
    refine wpAny_setItem_heap (hsz := hz) (tupleKind_room_in1 hu) (key_of I.hok eb) dd fun h' dd' hs => h _ ?_
    obtain ⟨q, es, ep, hq, h2, h3, h4, _, h5⟩ := dd'
    refine d_write I (by rw [e]; exact True.intro) hs ⟨q, hq⟩ ⟨hl, hd, _, (rel.put k eb rv).keeps fun c ys ec => ?_, q, es, ep, hq, h2, h3, h4, h5⟩
    rw [upd_ne (ne_of ec e (fun z => nomatch z))]
    exact ec
end

section
variable {X : Cx} {pins : List (Addr × Obj)} {σ : St} {H : Hp} {s : Shared} {a : Addr} {kvs : List (Key × V)} {k : Key} {u : Value} {A : Around} {E : Value → Shared → Prop}
/-- del d[k] -/
theorem d_delItem {Q : Unit → Shared → Prop} (I : Inv X pins σ H s) (e : H a = some (.dK kvs)) (ry : RelV (kV k) u) (l : (valV kvs k).isSome = true) (h : ∀ s', Inv X pins σ (upd H a (.dK (dropK kvs k))) s' → Q () s') :
    wpAny (model X.prog X.w) A (delItem (.ref a) u) Q E s := by
  obtain ⟨z, hd, vs, rel, dd⟩ := dk_of I.hok e
  refine wpAny_delItem_slot dd.typeIs (by decide) PySem.F.slot_dict_delitem
    (call_meetsIn PySem.F.slot_dict_delitem dd.typeIs PySem.F.entry_dict_delitem (PySem.F.args_dict_delitem_2 _ _) (meets_dict_delitem_pairs (mixKind X.prog X.w) a (kV_is ry)) ⟨vs, dd, by rw [← rel.length]; exact z, by rw [← (rel.val k).isSome_eq]; exact l, fun h' dd' hs => h _ ?_⟩)
  have he : ∃ q, h'.get? a = some q := let ⟨q, _, _, hq, _⟩ := dd'; ⟨q, hq⟩
  exact d_write I (by rw [e]; exact True.intro) hs he (dk_new (Nat.le_trans (dropK_le kvs k) z) hd (rel.drop k) dd')
/-- d.pop(k[, x]), there -/
theorem d_pop {v : V} {more : List Value} {Q : Value → Shared → Prop} (I : Inv X pins σ H s) (e : H a = some (.dK kvs)) (ry : RelV (kV k) u) (l : valV kvs k = some v) (hm : more = [] ∨ ∃ x, more = [x])
    (h : ∀ w' s', Inv X pins σ (upd H a (.dK (dropK kvs k))) s' → RelV v w' → Q w' s') : wpAny (model X.prog X.w) A (call (.builtin "dict.pop") (.ref a :: u :: more)) Q E s := by
  obtain ⟨z, hd, vs, rel, dd⟩ := dk_of I.hok e
  obtain ⟨w', hw, rw'⟩ := RelO.some_of (v := v) (o := valueAt vs k) (by rw [← l]; exact rel.val k)
  have hp : (keyPart u).isSome = true := by
    cases k with
    | inl i => obtain ⟨t, q⟩ := (show ∃ t, u = Value.int i t from ry); subst q; rfl
    | inr x => obtain ⟨t, q⟩ := (show ∃ t, u = Value.str x t from ry); subst q; rfl
  have ha : argsOk "dict.pop" ⟨.ref a :: u :: more, []⟩ := by
    rcases hm with q | ⟨x, q⟩
    · subst q; exact PySem.F.args_dict_pop_2 _ _
    · subst q; exact PySem.F.args_dict_pop_3 _ _ _
  refine call_meetsIn PySem.F.slot_dict_pop dd.typeIs PySem.F.entry_dict_pop ha (meets_dict_pop_there (mixKind X.prog X.w) a (kV_is ry) more hm hp)
    ⟨vs, w', dd, by rw [← rel.length]; exact z, hw, fun h' dd' hs => h w' _ ?_ rw'⟩
  have he : ∃ q, h'.get? a = some q := let ⟨q, _, _, hq, _⟩ := dd'; ⟨q, hq⟩
  exact d_write I (by rw [e]; exact True.intro) hs he (dk_new (Nat.le_trans (dropK_le kvs k) z) hd (rel.drop k) dd')
/-- d.pop(k, x), not there -/
theorem d_popD {r : Value} {Q : Value → Shared → Prop} (I : Inv X pins σ H s) (e : H a = some (.dK kvs)) (ry : RelV (kV k) u) (l : valV kvs k = none) (h : ∀ s', Inv X pins σ H s' → Q r s') :
    wpAny (model X.prog X.w) A (call (.builtin "dict.pop") [.ref a, u, r]) Q E s := by
  obtain ⟨z, hd, vs, rel, dd⟩ := dk_of I.hok e
  have hn : valueAt vs k = none := RelO.none_of (by rw [← l]; exact rel.val k)
  have hp : (keyPart u).isSome = true := by
    cases k with
    | inl i => obtain ⟨t, q⟩ := (show ∃ t, u = Value.int i t from ry); subst q; rfl
    | inr x => obtain ⟨t, q⟩ := (show ∃ t, u = Value.str x t from ry); subst q; rfl
  exact call_meetsIn PySem.F.slot_dict_pop dd.typeIs PySem.F.entry_dict_pop (PySem.F.args_dict_pop_3 _ _ _) (meets_dict_pop_default (mixKind X.prog X.w) a (kV_is ry) hd hp r) ⟨vs, dd, hn, h _ (I.tok _)⟩
/-- d.clear() -/
theorem d_clear {Q : Value → Shared → Prop} (I : Inv X pins σ H s) (e : H a = some (.dK kvs)) (h : ∀ s', Inv X pins σ (upd H a (.dK [])) s' → Q .none s') : wpAny (model X.prog X.w) A (call (.builtin "dict.clear") [.ref a]) Q E s := by
  obtain ⟨z, hd, vs, rel, dd⟩ := dk_of I.hok e
  refine call_meetsIn PySem.F.slot_dict_clear dd.typeIs PySem.F.entry_dict_clear (PySem.F.args_dict_clear_1 _) (meets_dict_clear (mixKind X.prog X.w) a) ⟨vs, dd, by rw [← rel.length]; exact z, fun h' dd' hs => h _ ?_⟩
  have he : ∃ q, h'.get? a = some q := let ⟨q, _, _, hq, _⟩ := dd'; ⟨q, hq⟩
  exact d_write (t' := s.toks) I (by rw [e]; exact True.intro) hs he (dk_new (Nat.zero_le _) hd .nil dd')
/-- len(d) -/
theorem d_len {Q : Value → Shared → Prop} (I : Inv X pins σ H s) (e : Rd H a (.dK kvs)) (h : ∀ t s', Inv X pins σ H s' → Q (.int kvs.length t) s') : wpAny (model X.prog X.w) A (call (.builtin "len") [.ref a]) Q E s := by
  obtain ⟨z, hd, vs, rel, dd⟩ := dk_rd I.hok e
  refine call_len_dict hd dd (by rw [← rel.length]; rw [sizeLine_eq] at z; omega) ?_
  rw [← rel.length]
  exact h _ _ (I.tok _)
/-- if d -/
theorem d_truth {Q : Bool → Shared → Prop} (I : Inv X pins σ H s) (e : Rd H a (.dK kvs)) (h : ∀ s', Inv X pins σ H s' → Q (!kvs.isEmpty) s') : wpAny (model X.prog X.w) A (truthy (.ref a)) Q E s := by
  obtain ⟨z, hd, vs, rel, dd⟩ := dk_rd I.hok e
  refine wpAny_truthy_dict hd dd (by rw [← rel.length]; rw [sizeLine_eq] at z; omega) ?_
  have q : kvs.isEmpty = vs.isEmpty := by cases rel <;> rfl
  rw [← q]
  exact h _ (I.tok _)
end


/-! ### readings and rules -/
/-- the element of a subscription, not a slice -/
def NoSl (i : Expr) : Prop := ∀ ov iv, subscripted i false ov iv = operate [ov, iv] (getItem ov iv)
theorem subD_of {prog : Program} {w : World} {A : Around} {E : Value → Shared → Prop} {s : Shared} {env : Env} {value slice : Expr} {pos : Pos} {T id : String} {Q : Value → Shared → Prop}
    (hl : typeLookup (.type T) "__getitem__" = pure (some (.builtin id))) (hs : NoSl slice)
    (h : wpAny (model prog w) A (eval value env) (fun o s₁ => wpAny (model prog w) A (eval slice env) (fun i s₂ => s₂.TypeIs o T ∧ wpAny (model prog w) A (getItem o i) Q E s₂) E s₁) E s) :
    wpAny (model prog w) A (eval (.Subscript value slice pos) env) Q E s := by
  refine Subscript_ (wpAny_mono h (fun o s₁ h₁ => wpAny_mono h₁ (fun i s₂ h₂ => ?_) fun _ _ x => x) fun _ _ x => x)
  obtain ⟨hT, h₂⟩ := h₂
  unfold subscriptTail
  refine wpAny_bind ?_
  rw [getitemInPython_of_ne hT.not_modules]
  refine wpAny_bind (wpAny_specialOf hT hl ?_)
  have fin : wpAny (model prog w) A (subscripted slice false o i) (fun r s₃ => wpAny (model prog w) A (letTemporaryGo value o r >>= fun _ => pure r) Q E s₃) E s₂ := by
    rw [hs o i]
    exact wpAny_operating (wpAny_mono h₂ (fun r s₃ h₃ => wpAny_bind (wpAny_letTemporaryGo (wpAny_pure h₃))) fun _ _ x => x)
  first
    | exact wpAny_pure (wpAny_bind fin)
    | exact wpAny_bind (wpAny_pure (wpAny_bind fin))
    | exact wpAny_bind fin

theorem dict_typeIs {X : Cx} {pins : List (Addr × Obj)} {σ : St} {H : Hp} {s : Shared} {a : Addr} {y : V} {o : Option V} (I : Inv X pins σ H s) (g : DGet H a y o) : s.TypeIs (.ref a) "dict" := by
  rcases g with ⟨kvs, k, e, _, _⟩ | ⟨kvs, k, b, e, _, _, _⟩
  · obtain ⟨_, _, vs, _, dd⟩ := dk_rd I.hok e
    exact dd.typeIs
  · obtain ⟨_, _, xs, _, dd⟩ := dt_rd I.hok e
    exact dd.typeIs
theorem dict_noDict {X : Cx} {pins : List (Addr × Obj)} {σ : St} {H : Hp} {s : Shared} {a : Addr} {y : V} {o : Option V} (I : Inv X pins σ H s) (g : DGet H a y o) :
    ∀ b, Value.ref a = .ref b → ∃ ob, s.heap.get? b = some ob ∧ ob.dict = none := fun b q => by
  cases q
  rcases g with ⟨kvs, k, e, _, _⟩ | ⟨kvs, k, b, e, _, _, _⟩
  · obtain ⟨_, _, vs, _, ob, _, _, h1, h2, _⟩ := dk_rd I.hok e
    exact ⟨ob, h1, h2.2.1⟩
  · obtain ⟨_, _, xs, _, ob, _, _, h1, h2, _⟩ := dt_rd I.hok e
    exact ⟨ob, h1, h2.2.1⟩

/-- d[y] -/
def tDGet (td ty : TE) : TE := fun σ H Q => td σ H fun x H1 => ty σ H1 fun y H2 => ∃ a v, x = .ref a ∧ DGet H2 a y (some v) ∧ Q v H2
/-- y in d, y not in d -/
def tDIn (ty td : TE) : TE := fun σ H Q => ty σ H fun y H1 => td σ H1 fun x H2 => ∃ a o, x = .ref a ∧ DGet H2 a y o ∧ Q (.bl o.isSome) H2
def tDNotIn (ty td : TE) : TE := fun σ H Q => ty σ H fun y H1 => td σ H1 fun x H2 => ∃ a o, x = .ref a ∧ DGet H2 a y o ∧ Q (.bl (!o.isSome)) H2
/-- d[y] = v -/
def sDPut (td ty tv : TE) : TS := fun D σ H => tv σ H fun v H1 => td σ H1 fun x H2 => ty σ H2 fun y H3 => ∃ a H4, x = .ref a ∧ DPut H3 a y v H4 ∧ D.nx σ H4
/-- d[y] op= v -/
def sDAug (td ty tv : TE) (rd : V → V → Hp → VK → Prop) : TS := fun D σ H => td σ H fun x H1 => ty σ H1 fun y H2 => ∃ a v, x = .ref a ∧ DGet H2 a y (some v) ∧
  tv σ H2 fun y2 H3 => rd v y2 H3 fun z H4 => ∃ H5, DPut H4 a y z H5 ∧ D.nx σ H5
/-- del d[y] -/
def sDDel (td ty : TE) : TS := fun D σ H => td σ H fun x H1 => ty σ H1 fun y H2 => ∃ a kvs k, x = .ref a ∧ H2 a = some (.dK kvs) ∧ y = kV k ∧ (valV kvs k).isSome = true ∧ D.nx σ (upd H2 a (.dK (dropK kvs k)))

section
variable {X : Cx} {o i e value : Expr} {pos pos' tpos : Pos} {td ty tv : TE}
theorem pe_dget (hu : X.A.units + 1 < cLine) (ho : PE X o td) (hi : PE X i ty) (hs : NoSl i) : PE X (.Subscript o i pos) (tDGet td ty) := by
  intro pins s σ H Q I h
  refine subD_of PySem.F.slot_dict_getitem.lookup hs (thn (ho pins s σ H _ I h) fun u s1 ⟨x, H1, I1, rx, q1⟩ => thn (hi pins s1 σ H1 _ I1 q1) fun iv s2 ⟨y, H2, I2, ry, a, v, ex, g, q2⟩ => ?_)
  subst ex
  obtain rfl : u = Value.ref a := rx
  exact ⟨dict_typeIs I2 g, d_getItem hu I2 g ry fun w' s3 I3 rw' => ⟨v, H2, I3, rw', q2⟩⟩
theorem pc_din (hu : X.A.units + 1 < cLine) (hi : PE X i ty) (ho : PE X o td) : PC X .In i o (tDIn ty td) := by
  intro pins s σ H Q I h
  refine thn (hi pins s σ H _ I h) fun iv s1 ⟨y, H1, I1, ry, q1⟩ => thn (ho pins s1 σ H1 _ I1 q1) fun u s2 ⟨x, H2, I2, rx, a, ov, ex, g, q2⟩ => ?_
  subst ex
  obtain rfl : u = Value.ref a := rx
  exact d_in hu I2 g ry fun s3 I3 => ⟨.bl ov.isSome, H2, I3, rfl, q2⟩
theorem pc_dnotin (hu : X.A.units + 1 < cLine) (hi : PE X i ty) (ho : PE X o td) : PC X .NotIn i o (tDNotIn ty td) := by
  intro pins s σ H Q I h
  refine thn (hi pins s σ H _ I h) fun iv s1 ⟨y, H1, I1, ry, q1⟩ => thn (ho pins s1 σ H1 _ I1 q1) fun u s2 ⟨x, H2, I2, rx, a, ov, ex, g, q2⟩ => ?_
  subst ex
  obtain rfl : u = Value.ref a := rx
  exact d_notIn hu I2 g ry fun s3 I3 => ⟨.bl (!ov.isSome), H2, I3, rfl, q2⟩
theorem ps_dput (hu : X.A.units + 1 < cLine) (ho : PE X o td) (hi : PE X i ty) (hv : PE X value tv) (hs : swapsWith value (some (.Subscript o i pos')) pos.line X.env = pure false) :
    PS X (.Assign [.Subscript o i pos'] value pos) (sDPut td ty tv) := by
  intro pins s σ H D I h
  refine wpAny_Assign_Subscript (thn (hv pins s σ H _ I h) fun r s1 ⟨v, H1, I1, rv, q1⟩ => thn (ho pins s1 σ H1 _ I1 q1) fun u s2 ⟨x, H2, I2, rx, q2⟩ => thn (hi pins s2 σ H2 _ I2 q2) fun iv s3 ⟨y, H3, I3, ry, a, H4, ex, g, q3⟩ => ?_) hs
  subst ex
  obtain rfl : u = Value.ref a := rx
  exact d_setItem hu I3 g ry rv fun s4 I4 => ⟨σ, H4, I4, q3⟩
theorem ps_daug {op : Operator} {rd : V → V → Hp → VK → Prop} (hu : X.A.units + 1 < cLine) (ho : PE X o td) (hi : PE X i ty) (hv : PE X value tv) (hop : InOp X op rd)
    (ha : ∀ ov iv new, augStore i ov iv new = (do holding [new, ov, iv] (setItem ov iv new); release [new, ov, iv] []; pure .next)) : PS X (.AugAssign (.Subscript o i tpos) op value pos) (sDAug td ty tv rd) := by
  intro pins s σ H D I h
  refine wpAny_AugAssign_SubscriptAny (thn (ho pins s σ H _ I h) fun u s1 ⟨x, H1, I1, rx, q1⟩ => thn (hi pins s1 σ H1 _ I1 q1) fun iv s2 ⟨y, H2, I2, ry, a, v, ex, g, q2⟩ => ?_) ha
  subst ex
  obtain rfl : u = Value.ref a := rx
  refine d_getItem hu I2 g ry fun w' s3 I3 rw' => thn (hv pins s3 σ H2 _ I3 q2) fun w2 s4 ⟨y2, H3, I4, ry2, q3⟩ => thn (hop pins s4 σ H3 v y2 w' w2 _ I4 rw' ry2 q3) fun w3 s5 ⟨z, H4, I5, rz, H5, g5, q4⟩ => ?_
  exact d_setItem hu I5 g5 ry rz fun s6 I6 => ⟨σ, H5, I6, q4⟩
theorem ps_ddel (ho : PE X o td) (hi : PE X i ty) : PS X (.Delete [.Subscript o i tpos] pos) (sDDel td ty) := by
  intro pins s σ H D I h
  refine wpAny_Delete (wpAny_deleteEach_cons (wpAny_delete_Subscript (thn (ho pins s σ H _ I h) fun u s1 ⟨x, H1, I1, rx, q1⟩ => thn (hi pins s1 σ H1 _ I1 q1) fun iv s2 ⟨y, H2, I2, ry, a, kvs, k, ex, e, ey, l, q2⟩ => ?_)))
  subst ex ey
  obtain rfl : u = Value.ref a := rx
  exact d_delItem I2 e ry l fun s3 I3 => wpAny_deleteEach_nil ⟨σ, _, I3, q2⟩
end


/-! ### displays -/
theorem dk_empty {P : Program} {w : World} {H : Hp} (h : Heap) (hb : sysModules < h.objs.size) : ObjOk P w H (h.push { cls := .type "dict", data := .dict #[] }) h.objs.size (.dK []) :=
  ⟨Nat.zero_le _, beq_eq_false_iff_ne.mpr (Ne.symm (Nat.ne_of_lt hb)), [], .nil, Heap.DictOf.new h⟩
theorem dt_empty {P : Program} {w : World} {H : Hp} (h : Heap) (hb : sysModules < h.objs.size) : ObjOk P w H (h.push { cls := .type "dict", data := .dict #[] }) h.objs.size (.dT []) :=
  ⟨Nat.zero_le _, beq_eq_false_iff_ne.mpr (Ne.symm (Nat.ne_of_lt hb)), [], .nil, _, #[], 0, Heap.get?_push_size _ rfl, ⟨rfl, rfl, rfl⟩, rfl, rfl, List.nodup_nil⟩
/-- {}, to be a dict of the kind that is wanted -/
def tDNewK : TE := fun _ H Q => ∀ p, H p = none → Q (.ref p) (upd H p (.dK []))
def tDNewT : TE := fun _ H Q => ∀ p, H p = none → Q (.ref p) (upd H p (.dT []))
section
variable {X : Cx} {pos : Pos}
theorem pe_dnewK : PE X (.Dict [] [] pos) tDNewK := fun pins s σ H Q I h =>
  wpAny_Dict_empty ⟨.ref s.heap.objs.size, _, I.laid (a := s.heap.objs.size) (o := .dK []) (t' := s.toks) (fun _ _ q => Heap.get?_push_of_some _ q) (Nat.le_refl _) (dk_empty s.heap I.big), rfl, h _ (I.hok.fresh (Nat.le_refl _))⟩
theorem pe_dnewT : PE X (.Dict [] [] pos) tDNewT := fun pins s σ H Q I h =>
  wpAny_Dict_empty ⟨.ref s.heap.objs.size, _, I.laid (a := s.heap.objs.size) (o := .dT []) (t' := s.toks) (fun _ _ q => Heap.get?_push_of_some _ q) (Nat.le_refl _) (dt_empty s.heap I.big), rfl, h _ (I.hok.fresh (Nat.le_refl _))⟩
end

/-- the pairs of a display, from the left -/
def tPairs : List (TE × TE) → St → Hp → (List (V × V) → Hp → Prop) → Prop
  | [], _, H, Q => Q [] H
  | (tk, tv) :: r, σ, H, Q => tk σ H fun x H1 => tv σ H1 fun y H2 => tPairs r σ H2 fun ps H3 => Q ((x, y) :: ps) H3
abbrev VV : List (V × V) → List (Value × Value) → Prop := Paired fun p q => RelV p.1 q.1 ∧ RelV p.2 q.2
def PPs (X : Cx) (pos : Pos) (keys : List (Option Expr)) (values : List Expr) (trs : List (TE × TE)) : Prop :=
  ∀ (pins : List (Addr × Obj)) (s : Shared) (σ : St) (H : Hp) (Q : List (V × V) → Hp → Prop), Inv X pins σ H s → tPairs trs σ H Q →
    wpAny (model X.prog X.w) X.A (evalPairs (pairTrees keys values X.env pos)) (fun vs s' => ∃ ps H', Inv X pins σ H' s' ∧ VV ps vs ∧ Q ps H') X.xe s
theorem pps_nil {X : Cx} {pos : Pos} : PPs X pos [] [] [] := fun pins s σ H Q I h => pairTrees_nil_walk ⟨[], H, I, .nil, h⟩
theorem pps_cons {X : Cx} {pos : Pos} {k v : Expr} {ks : List (Option Expr)} {vs : List Expr} {tk tv : TE} {trs : List (TE × TE)} (hk : PE X k tk) (hv : PE X v tv) (hr : PPs X pos ks vs trs) :
    PPs X pos (some k :: ks) (v :: vs) ((tk, tv) :: trs) := fun pins s σ H Q I h =>
  pairTrees_cons_walk (thn (hk pins s σ H _ I h) fun u s1 ⟨x, H1, I1, rx, q1⟩ => thn (hv pins s1 σ H1 _ I1 q1) fun w2 s2 ⟨y, H2, I2, ry, q2⟩ =>
    thn (hr pins s2 σ H2 _ I2 q2) fun ws s3 ⟨ps, H3, I3, rel, q3⟩ => ⟨(x, y) :: ps, H3, I3, .cons ⟨rx, ry⟩ rel, q3⟩)

def mergeK (kvs more : List (Key × V)) : List (Key × V) := more.foldl (fun acc kv => putK acc kv.1 kv.2) kvs
theorem KV.merge : ∀ {more : List (Key × V)} {rs : List (Key × Value)} {kvs : List (Key × V)} {vs : List (Key × Value)}, KV more rs → KV kvs vs → KV (mergeK kvs more) (merged vs rs) := by
  intro more rs kvs vs r
  unfold KV at r
  induction r generalizing kvs vs with
  | nil => intro q; exact q
  | @cons p q ps qs h t ih =>
    intro r0
    have e : KV (putK kvs p.1 p.2) (stored vs q.1 q.2) := by
      have := r0.put p.1 h.2
      rw [← h.1]; exact this
    exact ih e
theorem length_mergeK : ∀ (more kvs : List (Key × V)), (mergeK kvs more).length ≤ kvs.length + more.length
  | [], kvs => by show kvs.length ≤ kvs.length + 0; omega
  | p :: r, kvs => by
    have h1 := length_mergeK r (putK kvs p.1 p.2)
    have h2 := length_putK kvs p.1 p.2
    show (mergeK (putK kvs p.1 p.2) r).length ≤ _
    rw [List.length_cons]; omega
theorem carries_of {P : Program} {w : World} : ∀ {kvs : List (Key × V)} {ws : List (Value × Value)}, VV (kvs.map fun kv => (kV kv.1, kv.2)) ws → ∃ rs, Carries (mixKind P w) ws rs ∧ KV kvs rs
  | [], _, r => by rw [List.map_nil] at r; cases r; exact ⟨[], True.intro, .nil⟩
  | p :: kvs, _, r => by
    rw [List.map_cons] at r
    cases r with
    | @cons a b as bs h t =>
      obtain ⟨rs, c, q⟩ := carries_of (P := P) (w := w) t
      obtain ⟨b1, b2⟩ := b
      exact ⟨(p.1, b2) :: rs, ⟨kV_is h.1, rfl, c⟩, .cons ⟨rfl, h.2⟩ q⟩
/-- {k: v, ..} with keys ints and texts; the new dict stands empty while the pairs are made -/
def tDisp (trs : List (TE × TE)) : TE := fun σ H Q => ∀ p, H p = none → tPairs trs σ (upd H p (.dK [])) fun ps H2 => H2 p = some (.dK []) ∧ ∃ kvs : List (Key × V), ps = kvs.map (fun kv => (kV kv.1, kv.2)) ∧ kvs.length ≤ 15 ∧ Q (.ref p) (upd H2 p (.dK (mergeK [] kvs)))
theorem pe_disp {X : Cx} {pos : Pos} {keys : List (Option Expr)} {values : List Expr} {trs : List (TE × TE)} (h : PPs X pos keys values trs) (hall : keys.all (·.isSome) = true) (hl : keys.length = values.length) (h0 : keys ≠ [])
    (h15 : keys.length ≤ 15) : PE X (.Dict keys values pos) (tDisp trs) := by
  intro pins s σ H Q I q
  have hn := I.hok.fresh (Nat.le_refl s.heap.objs.size)
  have I1 := I.laid (a := s.heap.objs.size) (o := .dK []) (h' := s.heap.push { cls := .type "dict", data := .dict #[] }) (t' := s.toks) (fun _ _ q => Heap.get?_push_of_some _ q) (Nat.le_refl _) (dk_empty s.heap I.big)
  refine wpAny_Dict_walk (knd := mixKind X.prog X.w) hall hl h0 h15 (thn (h pins _ σ _ _ I1 (q _ hn)) fun ws s2 ⟨ps, H2, I2, rel, e, kvs, ep, lk, q2⟩ => ?_)
  subst ep
  obtain ⟨rs, c, rk⟩ := carries_of (P := X.prog) (w := X.w) rel
  obtain ⟨z, hd, vs0, r0, dd⟩ := dk_of I2.hok e
  cases r0
  refine ⟨rs, c, dd, fun h' dd' hs => ⟨.ref s.heap.objs.size, _, ?_, rfl, q2⟩⟩
  have hz : (mergeK [] kvs).length ≤ sizeLine := by
    have h1 := length_mergeK kvs []
    rw [List.length_nil] at h1
    rw [sizeLine_eq]; omega
  have he : ∃ q, h'.get? s.heap.objs.size = some q := let ⟨q, _, _, hq, _⟩ := dd'; ⟨q, hq⟩
  exact d_write I2 (by rw [e]; exact True.intro) hs he (dk_new hz hd (rk.merge .nil) dd')


/-! ### methods -/
/-- a method call o.m(e) of a built-in, with one argument: what must be seen of the text -/
structure M1 (X : Cx) (o : Expr) (m : Str) (apos : Pos) (e : Expr) (cpos : Pos) : Prop where
  base : attributeBase o m X.env (eval o X.env) = eval o X.env
  few : ((backTo cpos (starEach [e] X.env)).all (fun x => !x.1) && (backToKw cpos (keywordEach [] X.env)).all (fun x => x.1.isSome)
    && decide (([e] : List Expr).length + ([] : List Keyword).length + (if ([] : List Keyword).isEmpty then 0 else 1) < 30)) = true
  line : (apos.endLine == cpos.line) = true
  trees : backTo cpos (starEach [e] X.env) = [(false, eval e X.env)]
structure M2 (X : Cx) (o : Expr) (m : Str) (apos : Pos) (e f : Expr) (cpos : Pos) : Prop where
  base : attributeBase o m X.env (eval o X.env) = eval o X.env
  few : ((backTo cpos (starEach [e, f] X.env)).all (fun x => !x.1) && (backToKw cpos (keywordEach [] X.env)).all (fun x => x.1.isSome)
    && decide (([e, f] : List Expr).length + ([] : List Keyword).length + (if ([] : List Keyword).isEmpty then 0 else 1) < 30)) = true
  line : (apos.endLine == cpos.line) = true
  trees : backTo cpos (starEach [e, f] X.env) = [(false, eval e X.env), (false, eval f X.env)]

/-- a is a dict, whatever its keys -/
def IsD (H : Hp) (a : Addr) : Prop := (∃ kvs, Rd H a (.dK kvs)) ∨ ∃ kvs, Rd H a (.dT kvs)
theorem isD_at {X : Cx} {pins : List (Addr × Obj)} {σ : St} {H : Hp} {s : Shared} {a : Addr} (I : Inv X pins σ H s) (d : IsD H a) :
    s.TypeIs (.ref a) "dict" ∧ (∀ b, Value.ref a = .ref b → ∃ ob, s.heap.get? b = some ob ∧ ob.dict = none) ∧ (a == sysModules) = false := by
  rcases d with ⟨kvs, e⟩ | ⟨kvs, e⟩
  · obtain ⟨_, hd, vs, _, dd⟩ := dk_rd I.hok e
    refine ⟨dd.typeIs, fun b q => ?_, hd⟩
    cases q
    obtain ⟨ob, _, _, h1, h2, _⟩ := dd
    exact ⟨ob, h1, h2.2.1⟩
  · obtain ⟨_, hd, xs, _, dd⟩ := dt_rd I.hok e
    refine ⟨dd.typeIs, fun b q => ?_, hd⟩
    cases q
    obtain ⟨ob, _, _, h1, h2, _⟩ := dd
    exact ⟨ob, h1, h2.2.1⟩

section
variable {X : Cx} {pins : List (Addr × Obj)} {σ : St} {H : Hp} {s : Shared} {a : Addr} {y d : V} {u r : Value} {o : Option V} {A : Around} {E : Value → Shared → Prop}
/-- d.get(y) -/
theorem d_get1 {Q : Value → Shared → Prop} (hu : A.units + 1 < cLine) (I : Inv X pins σ H s) (g : DGet H a y o) (ry : RelV y u) (h : ∀ w' s', Inv X pins σ H s' → RelV (o.getD .non) w' → Q w' s') :
    wpAny (model X.prog X.w) A (call (.builtin "dict.get") [.ref a, u]) Q E s := by
  rcases g with ⟨kvs, k, e, ey, l⟩ | ⟨kvs, k, b, e, ey, eb, l⟩
  · subst ey
    obtain ⟨z, hd, vs, rel, dd⟩ := dk_rd I.hok e
    refine call_meetsIn PySem.F.slot_dict_get dd.typeIs PySem.F.entry_dict_get (PySem.F.args_dict_get_2 _ _) (meets_dict_get (mixKind X.prog X.w) a (kV_is ry) hd) ⟨_, dd.mapOf, h _ _ (I.tok _) ?_⟩
    rw [l]
    exact (rel.val k).getD rfl
  · subst ey
    cases (show u = Value.ref b from ry)
    obtain ⟨z, hd, xs, rel, dd⟩ := dt_rd I.hok e
    refine call_meetsIn PySem.F.slot_dict_get dd.typeIs PySem.F.entry_dict_get (PySem.F.args_dict_get_2 _ _) (meetsH_dict_get (tupleKind (mixKind X.prog X.w)) a b hd) ⟨tupleKind_room_in1 hu, k, xs, key_of I.hok eb, dd, h _ _ (I.tok _) ?_⟩
    rw [l]
    exact (rel.val k).getD rfl
/-- d.get(y, x) -/
theorem d_get2 {Q : Value → Shared → Prop} (hu : A.units + 1 < cLine) (I : Inv X pins σ H s) (g : DGet H a y o) (ry : RelV y u) (rd : RelV d r) (h : ∀ w' s', Inv X pins σ H s' → RelV (o.getD d) w' → Q w' s') :
    wpAny (model X.prog X.w) A (call (.builtin "dict.get") [.ref a, u, r]) Q E s := by
  rcases g with ⟨kvs, k, e, ey, l⟩ | ⟨kvs, k, b, e, ey, eb, l⟩
  · subst ey
    obtain ⟨z, hd, vs, rel, dd⟩ := dk_rd I.hok e
    refine call_meetsIn PySem.F.slot_dict_get dd.typeIs PySem.F.entry_dict_get (PySem.F.args_dict_get_3 _ _ _) (meets_dict_get_default (mixKind X.prog X.w) a (kV_is ry) hd r) ⟨_, dd.mapOf, h _ _ (I.tok _) ?_⟩
    rw [l]
    exact (rel.val k).getD rd
  · subst ey
    cases (show u = Value.ref b from ry)
    obtain ⟨z, hd, xs, rel, dd⟩ := dt_rd I.hok e
    refine call_meetsIn PySem.F.slot_dict_get dd.typeIs PySem.F.entry_dict_get (PySem.F.args_dict_get_3 _ _ _) (meetsH_dict_get_default (tupleKind (mixKind X.prog X.w)) a b hd r) ⟨tupleKind_room_in1 hu, k, xs, key_of I.hok eb, dd, h _ _ (I.tok _) ?_⟩
    rw [l]
    exact (rel.val k).getD rd
end

def tDGet1 (td ty : TE) : TE := fun σ H Q => td σ H fun x H1 => ∃ a, x = .ref a ∧ IsD H1 a ∧ ty σ H1 fun y H2 => ∃ o, DGet H2 a y o ∧ Q (o.getD .non) H2
def tDGet2 (td ty tx : TE) : TE := fun σ H Q => td σ H fun x H1 => ∃ a, x = .ref a ∧ IsD H1 a ∧ ty σ H1 fun y H2 => tx σ H2 fun z H3 => ∃ o, DGet H3 a y o ∧ Q (o.getD z) H3
/-- d.pop(k): there; d.pop(k, x): there or not -/
def tDPop1 (td ty : TE) : TE := fun σ H Q => td σ H fun x H1 => ∃ a, x = .ref a ∧ IsD H1 a ∧ ty σ H1 fun y H2 => ∃ kvs k v, H2 a = some (.dK kvs) ∧ y = kV k ∧ valV kvs k = some v ∧ Q v (upd H2 a (.dK (dropK kvs k)))
def tDPop2 (td ty tx : TE) : TE := fun σ H Q => td σ H fun x H1 => ∃ a, x = .ref a ∧ IsD H1 a ∧ ty σ H1 fun y H2 => tx σ H2 fun z H3 => ∃ kvs k, H3 a = some (.dK kvs) ∧ y = kV k ∧
  (∀ v, valV kvs k = some v → Q v (upd H3 a (.dK (dropK kvs k)))) ∧ (valV kvs k = none → Q z H3)
section
variable {X : Cx} {o e f : Expr} {apos cpos : Pos} {td ty tx : TE}
theorem pe_dget1 (hu : X.A.units + 1 < cLine) (ho : PE X o td) (he : PE X e ty) (m : M1 X o "get" apos e cpos) : PE X (.Call (.Attribute o "get" apos) [e] [] cpos) (tDGet1 td ty) := by
  intro pins s σ H Q I h
  refine wpAny_Call_method m.base m.few m.line PySem.F.plainAttrs_dict PySem.F.slot_dict_get PySem.F.type_dict_get (thn (ho pins s σ H _ I h) fun u s1 ⟨x, H1, I1, rx, a, ex, d, q1⟩ => ?_)
  subst ex
  obtain rfl : u = Value.ref a := rx
  obtain ⟨t1, t2, _⟩ := isD_at I1 d
  refine ⟨t1, t2, ?_⟩
  rw [m.trees]
  refine Calls.callWith_builtin rfl (Calls.evalArgs_plain (Calls.spliced_cons (thn (he pins s1 σ H1 _ I1 q1) fun iv s2 ⟨y, H2, I2, ry, ov, g, q2⟩ => Calls.spliced_nil ?_)))
  exact d_get1 hu I2 g ry fun w' s3 I3 rw' => ⟨_, H2, I3, rw', q2⟩
theorem pe_dget2 (hu : X.A.units + 1 < cLine) (ho : PE X o td) (he : PE X e ty) (hf : PE X f tx) (m : M2 X o "get" apos e f cpos) : PE X (.Call (.Attribute o "get" apos) [e, f] [] cpos) (tDGet2 td ty tx) := by
  intro pins s σ H Q I h
  refine wpAny_Call_method m.base m.few m.line PySem.F.plainAttrs_dict PySem.F.slot_dict_get PySem.F.type_dict_get (thn (ho pins s σ H _ I h) fun u s1 ⟨x, H1, I1, rx, a, ex, d, q1⟩ => ?_)
  subst ex
  obtain rfl : u = Value.ref a := rx
  obtain ⟨t1, t2, _⟩ := isD_at I1 d
  refine ⟨t1, t2, ?_⟩
  rw [m.trees]
  refine Calls.callWith_builtin rfl (Calls.evalArgs_plain (Calls.spliced_cons (thn (he pins s1 σ H1 _ I1 q1) fun iv s2 ⟨y, H2, I2, ry, q2⟩ =>
    Calls.spliced_cons (thn (hf pins s2 σ H2 _ I2 q2) fun fv s3 ⟨z, H3, I3, rz, ov, g, q3⟩ => Calls.spliced_nil ?_))))
  exact d_get2 hu I3 g ry rz fun w' s4 I4 rw' => ⟨_, H3, I4, rw', q3⟩
theorem pe_dpop1 (ho : PE X o td) (he : PE X e ty) (m : M1 X o "pop" apos e cpos) : PE X (.Call (.Attribute o "pop" apos) [e] [] cpos) (tDPop1 td ty) := by
  intro pins s σ H Q I h
  refine wpAny_Call_method m.base m.few m.line PySem.F.plainAttrs_dict PySem.F.slot_dict_pop PySem.F.type_dict_pop (thn (ho pins s σ H _ I h) fun u s1 ⟨x, H1, I1, rx, a, ex, d, q1⟩ => ?_)
  subst ex
  obtain rfl : u = Value.ref a := rx
  obtain ⟨t1, t2, _⟩ := isD_at I1 d
  refine ⟨t1, t2, ?_⟩
  rw [m.trees]
  refine Calls.callWith_builtin rfl (Calls.evalArgs_plain (Calls.spliced_cons (thn (he pins s1 σ H1 _ I1 q1) fun iv s2 ⟨y, H2, I2, ry, kvs, k, v, ea, ey, l, q2⟩ => Calls.spliced_nil ?_)))
  subst ey
  exact d_pop I2 ea ry l (.inl rfl) fun w' s3 I3 rw' => ⟨v, _, I3, rw', q2⟩
theorem pe_dpop2 (ho : PE X o td) (he : PE X e ty) (hf : PE X f tx) (m : M2 X o "pop" apos e f cpos) : PE X (.Call (.Attribute o "pop" apos) [e, f] [] cpos) (tDPop2 td ty tx) := by
  intro pins s σ H Q I h
  refine wpAny_Call_method m.base m.few m.line PySem.F.plainAttrs_dict PySem.F.slot_dict_pop PySem.F.type_dict_pop (thn (ho pins s σ H _ I h) fun u s1 ⟨x, H1, I1, rx, a, ex, d, q1⟩ => ?_)
  subst ex
  obtain rfl : u = Value.ref a := rx
  obtain ⟨t1, t2, _⟩ := isD_at I1 d
  refine ⟨t1, t2, ?_⟩
  rw [m.trees]
  refine Calls.callWith_builtin rfl (Calls.evalArgs_plain (Calls.spliced_cons (thn (he pins s1 σ H1 _ I1 q1) fun iv s2 ⟨y, H2, I2, ry, q2⟩ =>
    Calls.spliced_cons (thn (hf pins s2 σ H2 _ I2 q2) fun fv s3 ⟨z, H3, I3, rz, kvs, k, ea, ey, q3, q4⟩ => Calls.spliced_nil ?_))))
  subst ey
  cases l : valV kvs k with
  | some v => exact d_pop I3 ea ry l (.inr ⟨fv, rfl⟩) fun w' s4 I4 rw' => ⟨v, _, I4, rw', q3 v l⟩
  | none => exact d_popD I3 ea ry l fun s4 I4 => ⟨z, H3, I4, rz, q4 l⟩
end

/-! ### dict(d): a copy -/
section
variable {X : Cx} {pins : List (Addr × Obj)} {σ : St} {H : Hp} {s : Shared} {a : Addr} {kvs : List (Key × V)} {A : Around} {E : Value → Shared → Prop}
theorem d_copyOf {Q : Value → Shared → Prop} (I : Inv X pins σ H s) (e : Rd H a (.dK kvs)) (h : ∀ p s', H p = none → Inv X pins σ (upd H p (.dK kvs)) s' → Q (.ref p) s') : wpAny (model X.prog X.w) A (call (.type "dict") [.ref a]) Q E s := by
  obtain ⟨z, hd, vs, rel, dd⟩ := dk_rd I.hok e
  refine kt_call_dict hd dd (by rw [← rel.length]; exact z) fun h' dd' hs => ?_
  refine h _ _ (I.hok.fresh (Nat.le_refl _)) (I.laid (a := s.heap.objs.size) (o := .dK kvs) (t' := s.toks) (fun b q hq => ?_) (Nat.le_refl _) (dk_new z (beq_eq_false_iff_ne.mpr (Ne.symm (Nat.ne_of_lt I.big))) rel dd'))
  exact (hs.2 b (Nat.ne_of_lt (Heap.lt_size hq))).trans (Heap.get?_push_of_some _ hq)
end


section
variable {X : Cx} {pins : List (Addr × Obj)} {σ : St} {H : Hp} {s : Shared} {a : Addr} {y : V} {u : Value} {A : Around} {E : Value → Shared → Prop}
/-- d[y], not there: a KeyError -/
theorem d_missing {Q : Value → Shared → Prop} (hu : A.units + 1 < cLine) (hh : A.handled = none) (I : Inv X pins σ H s) (g : DGet H a y none) (ry : RelV y u)
    (h : ∀ h' e t', Heap.NewExc s.heap h' e "KeyError" → E (.ref e) { s with heap := h', toks := t' }) : wpAny (model X.prog X.w) A (getItem (.ref a) u) Q E s := by
  rcases g with ⟨kvs, k, e, ey, l⟩ | ⟨kvs, k, b, e, ey, eb, l⟩
  · subst ey
    obtain ⟨z, hd, vs, rel, dd⟩ := dk_rd I.hok e
    have hn : valueAt vs k = none := RelO.none_of (by rw [l]; exact rel.val k)
    exact wpAny_getItem_missing_of (kV_is ry) hd hh dd.mapOf hn fun h' ex ne => h h' ex _ ne
  · subst ey
    cases (show u = Value.ref b from ry)
    obtain ⟨z, hd, xs, rel, dd⟩ := dt_rd I.hok e
    have hn : (atKey xs k).map (·.2) = none := RelO.none_of (by rw [l]; exact rel.val k)
    exact wpAny_getItem_missing_heap (tupleKind_room_in1 hu) (key_of I.hok eb) hd hh dd (Option.map_eq_none_iff.mp hn) fun h' ex ne => h h' ex _ ne
end
end L2

namespace L2
open PySem PySem.Spec PyProof.Rows

theorem list_keys_none : typeLookup (.type "list") "keys" = pure none := am_miss_of_fast (by first | decide +kernel | rfl)
theorem ud_entry : entryFor table "dict.update.loop" = some Builtin.«dict.update.loop» := entryFor_of_tree (by kernel_rfl)
theorem ud_plain : plainId "dict.update.loop" = true := by decide +kernel

section
variable {prog : Program} {w : World} {A : Around} {E : Value → Shared → Prop}
/-- a list has no attribute 'keys': an AttributeError is made, and forgotten -/
theorem miss_list {s : Shared} {a : Addr} {o : Obj} {xs : Array Value} {k : Nat} {Q : Option Value → Shared → Prop} (hx : s.heap.get? a = some o) (hc : o.cls = .type "list") (hdat : o.data = .seq xs k) (hd : o.dict = none) (hA : A.handled = none)
    (h : ∀ h' tk, (∀ b ob, s.heap.get? b = some ob → h'.get? b = some ob) → Q none { s with heap := h', toks := tk }) : wpAny (model prog w) A (getAttr? (.ref a) "keys") Q E s := by
  obtain ⟨c, dct, dat, sl⟩ := o
  simp only at hc hdat hd
  subst hc hdat hd
  obtain ⟨hp, g, d, tk, os⟩ := s
  have hT : ∀ tk', (⟨hp, g, d, tk', os⟩ : Shared).TypeIs (.ref a) "list" := fun _ => ⟨_, hx, rfl⟩
  have hmiss := list_keys_none
  have hname : (["__module__", "__name__", "__qualname__", "__doc__", "__annotations__"] : List Str).contains "keys" = false := by decide +kernel
  have hsz : ("keys" : Str).length + 100 ≤ sizeLine := by first | size_fits | decide +kernel
  have f1 := sub_AttributeError
  have f3 := PySem.F.slot_list_getattribute.lookup
  have f4 := PySem.F.slot_list_getattribute.bind (.ref a)
  have f5 := am_list_getattr_none
  unfold getAttr? getAttrBy? getAttrBy
  repeat (any_goals (first | assumption | exact hT _ | ((with_reducible show wpAny _ _ (call (Value.builtin "list.__getattribute__") _ _) _ _ _); refine call_meets PySem.F.slot_list_getattribute (hT _) am_entry_list_getattribute (PySem.F.args_list_getattribute_2 _ _) (meets_getattribute_miss_list a xs k sl "keys" _ hmiss hname hsz) ⟨hx, hA, fun h' tk' e hx' => ?_⟩) | wp_step))
  obtain ⟨t', u', he⟩ := hx'.there
  show wpAny _ _ (getattributeRaised _ _ _ _ _ _ _) _ _ _
  unfold getattributeRaised
  repeat (any_goals (first | assumption | wp_step))
  all_goals first | exact h _ _ hx'.keeps | (dsimp only; repeat (any_goals (first | assumption | exact h _ _ hx'.keeps | wp_step)))

/-- the walk over the pairs -/
theorem upd_loop {R : Result → Shared → Prop} {S I l : Addr} {items : Array Value} {res : Value} (hh : A.handled = none) (hlI : l ≠ I) (hSI : S ≠ I) (hSl : S ≠ l) :
    ∀ (rest : List (Key × Value)) (i : Nat) (acc : List (Key × Value)) (ix : Int) (t : Tok) (s : Shared), items.size = i + rest.length → acc.length + rest.length ≤ sizeLine →
      (∀ (j : Nat) (q : Key × Value), rest[j]? = some q → ∃ (b : Addr) (u : Value), items[i + j]? = some (.ref b) ∧ b ≠ S ∧ b ≠ I ∧ IsTup s.heap b #[u, q.2] ∧ keyIs q.1 u = true) →
      s.heap.IsListIter I l i → s.heap.IsList l items → s.heap.DictOf (mixKind prog w) S acc →
      (∀ h' tk, h'.DictOf (mixKind prog w) S (merged acc rest) → (∀ b o, b ≠ S → b ≠ I → s.heap.get? b = some o → h'.get? b = some o) → R (.ok (.ret res)) { s with heap := h', toks := tk }) →
      codeAny (model prog w) A (.builtin "dict.update.loop" ⟨[.ref S, .ref I, .int ix t, res], []⟩) R s
  | [], i, acc, ix, t, s, hsz, hln, ht, hit, hl, hm, hR => by
    refine codeAny_builtin ud_entry ?_
    rw [Around.under_plainId ud_plain _]
    show wpAny _ A.in1 (pyNext (.ref I) >>= _) _ _ s
    refine wpAny_bind (wpAny_pyNext_list_end (A := A.in1) hh hit hl (by first | exact Array.getElem?_eq_none (Nat.le_of_eq hsz) | (simp at hsz; simp; omega)) fun h' he => ?_)
    show wpAny _ A.in1 (Builtin.Dict.addKeywords S [] >>= _) _ _ _
    refine wpAny_bind (wpAny_pure (wpAny_pure ?_))
    exact hR h' s.toks (hm.extBut he hSI) fun b o _ hb e => he b o hb e
  | q :: rest, i, acc, ix, t, s, hsz, hln, ht, hit, hl, hm, hR => by
    obtain ⟨b, u, hb, hbS, hbI, htup, hk⟩ := ht 0 q rfl
    rw [List.length_cons] at hsz hln
    refine codeAny_builtin ud_entry ?_
    rw [Around.under_plainId ud_plain _]
    show wpAny _ A.in1 (pyNext (.ref I) >>= _) _ _ s
    refine wpAny_bind (wpAny_pyNext_list_item (x := .ref b) hit hl (by simpa using hb) fun h1 hit1 hs1 => ?_)
    have ht1 : IsTup h1 b #[u, q.2] := htup.extBut hs1.extBut hbI
    have hl1 : h1.IsList l items := hl.extBut hs1.extBut hlI
    have hm1 : h1.DictOf (mixKind prog w) S acc := hm.extBut hs1.extBut hSI
    obtain ⟨o, ho, hc, n, hd⟩ := id ht1
    show wpAny _ A.in1 (holding [Value.ref b] _ >>= _) _ _ _
    refine wpAny_bind (wpAny_holding ?_)
    refine wpAny_bind (wpAny_tryCatch ?_)
    unfold Builtin.Dict.pairItems
    refine wpAny_bind (wpAny_typeOf (T := "tuple") ⟨o, ho, hc⟩ ?_)
    rw [if_pos (by first | decide | rfl | simp)]
    refine wpAny_bind (wpAny_seqItems ho hd (wpAny_pure ?_))
    show wpAny _ A.in1 (holding [u, q.2] (dictSet S u q.2)) _ _ _
    refine wpAny_holding (wpAny_dictSet_pairs (knd := mixKind prog w) (k := q.1) hk hm1 (fun h2 hm2 hs2 => ?_) (by omega))
    refine wpAny_pure ⟨plainId_quiet ud_plain _, upd_loop (items := items) hh hlI hSI hSl rest (i + 1) (stored acc q.1 q.2) (ix + 1) 0 _ (show items.size = i + 1 + rest.length by omega) ?_ (fun j q' e => ?_) ?_ ?_ hm2 fun h' tk hd' k => ?_⟩
    · have z := stored_length_le acc q.1 q.2
      omega
    · obtain ⟨b', u', hb', hbS', hbI', htup', hk'⟩ := ht (j + 1) q' (by simpa using e)
      refine ⟨b', u', ?_, hbS', hbI', (htup'.extBut hs1.extBut hbI').extBut hs2.extBut hbS', hk'⟩
      rw [show i + 1 + j = i + (j + 1) by omega]
      exact hb'
    · exact hit1.at fun o' e => hs2.extBut I o' (Ne.symm hSI) e
    · exact hl1.extBut hs2.extBut (Ne.symm hSl)
    · exact hR h' tk hd' fun c oc h3 h4 e => k c oc h3 h4 (hs2.extBut c oc h3 (hs1.extBut c oc h4 e))

/-- dict(l) of a list of pairs -/
theorem call_dict_pairs {s : Shared} {l : Addr} {ol : Obj} {items : Array Value} {n : Nat} {prs : List (Key × Value)} {Q : Value → Shared → Prop} (hh : A.handled = none) (hl : s.heap.get? l = some ol) (hc : ol.cls = .type "list") (hd : ol.dict = none)
    (hdat : ol.data = .seq items n) (hsz : items.size = prs.length) (hln : prs.length ≤ sizeLine)
    (ht : ∀ (j : Nat) (q : Key × Value), prs[j]? = some q → ∃ (b : Addr) (u : Value), items[j]? = some (.ref b) ∧ IsTup s.heap b #[u, q.2] ∧ keyIs q.1 u = true)
    (h : ∀ h' tk, h'.DictOf (mixKind prog w) s.heap.objs.size (merged [] prs) → (∀ b o, s.heap.get? b = some o → h'.get? b = some o) → Q (.ref s.heap.objs.size) { s with heap := h', toks := tk }) :
    wpAny (model prog w) A (call (.type "dict") [.ref l]) Q E s := by
  refine callType_codes (Q₁ := fun obj s₁ => obj = .ref s.heap.objs.size ∧ s₁ = { s with heap := s.heap.push { cls := .type "dict", data := .dict #[] } }) PySem.F.kt_called_dict (PySem.F.kt_typeCall_dict_1 _) PySem.F.entry_dict_init (kt_code_dict_new _ ⟨rfl, rfl⟩) ?_
  rintro obj s₁ ⟨rfl, rfl⟩
  have hnew : (s.heap.push { cls := .type "dict", data := .dict #[] }).DictOf (mixKind prog w) s.heap.objs.size [] := Heap.DictOf.new s.heap
  have k0 : ∀ b o, s.heap.get? b = some o → (s.heap.push { cls := .type "dict", data := .dict #[] }).get? b = some o := fun b o e => Heap.get?_push_of_some _ e
  refine ⟨hnew.typeIs, PySem.F.args_dict_init_2 _ _, ?_⟩
  unfold Builtin.«dict.__init__»
  refine wpAny_bind ?_
  unfold Builtin.Dict.selfAndRest
  refine wpAny_bind (wpAny_notOrdered_dict hnew.typeIs ?_)
  show wpAny _ _ (pure (s.heap.objs.size, [Value.ref l])) _ _ _
  refine wpAny_pure ?_
  show wpAny _ _ (Builtin.Dict.updateFrom "dict.__init__" s.heap.objs.size (.ref l) [] .none) _ _ _
  unfold Builtin.Dict.updateFrom
  refine wpAny_bind (wpAny_typeOf (T := "list") ⟨ol, k0 _ _ hl, hc⟩ ?_)
  rw [if_pos (by first | decide | rfl | simp)]
  refine wpAny_bind (miss_list (k0 _ _ hl) hc hdat hd hh fun h1 tk1 hk1 => ?_)
  rw [if_pos (show (none : Option Value).isNone = true from rfl)]
  refine wpAny_bind (wpAny_rule ?_)
  have hl1 : h1.IsList l items := ⟨ol, hk1 _ _ (k0 _ _ hl), hc, n, hdat⟩
  have hS1 : s.heap.objs.size < h1.objs.size := by
    have e : (s.heap.push { cls := .type "dict", data := .dict #[] }).get? s.heap.objs.size = some { cls := .type "dict", data := .dict #[] } := Heap.get?_push_size _ rfl
    exact Heap.lt_size (hk1 _ _ e)
  refine wpAny_bind (wpAny_pyIter_list hl1 ?_)
  have k2 : ∀ b o, h1.get? b = some o → (h1.push { cls := .type "list_iterator", data := .fields #[.ref l, .int 0 0] }).get? b = some o := fun b o e => Heap.get?_push_of_some _ e
  have hlt : l < s.heap.objs.size := Heap.lt_size hl
  have key := upd_loop (prog := prog) (w := w) (A := A.in1) (R := wants (fun r s₂ => r = .none ∧ Q (.ref s.heap.objs.size) s₂) E) (S := s.heap.objs.size) (I := h1.objs.size) (l := l) (items := items) (res := Value.none) hh
    (Nat.ne_of_lt (Nat.lt_trans hlt hS1)) (Nat.ne_of_lt hS1) (Nat.ne_of_gt hlt) prs 0 [] 0 0
    { s with heap := h1.push { cls := .type "list_iterator", data := .fields #[.ref l, .int 0 0] }, toks := tk1 } (by rw [hsz, Nat.zero_add]) (by rw [List.length_nil, Nat.zero_add]; exact hln)
    (fun j q e => by
      obtain ⟨b, u, e1, e2, e3⟩ := ht j q e
      have hb : b < s.heap.objs.size := e2.lt
      exact ⟨b, u, by rw [Nat.zero_add]; exact e1, Nat.ne_of_lt hb, Nat.ne_of_lt (Nat.lt_trans hb hS1), e2.keeps fun c o z => k2 _ _ (hk1 _ _ (k0 _ _ z)), e3⟩)
    ⟨_, Heap.get?_push_size _ rfl, rfl, rfl⟩ (hl1.at fun o e => k2 _ _ e) ((hnew.at fun o e => hk1 _ _ e).at fun o e => k2 _ _ e)
    (fun h' tk hd' k => ⟨rfl, h h' tk hd' fun b o e => k b o (Nat.ne_of_lt (Heap.lt_size e)) (Nat.ne_of_lt (Nat.lt_trans (Heap.lt_size e) hS1)) (k2 _ _ (hk1 _ _ (k0 _ _ e)))⟩)
  first
    | exact wpAny_pure ⟨plainId_quiet ud_plain _, key⟩
    | exact wpAny_bind (wpAny_pure (wpAny_pure ⟨plainId_quiet ud_plain _, key⟩))
end

section
variable {X : Cx}
theorem pairs_of {pins : List (Addr × Obj)} {σ : St} {H : Hp} {s : Shared} (I : Inv X pins σ H s) : ∀ {ps : List Addr} {kvs : List (Key × V)}, Paired (fun p kv => SqT X.K H p [kV kv.1, kv.2]) ps kvs →
    ∃ prs : List (Key × Value), KV kvs prs ∧ prs.length = ps.length ∧ ∀ (j : Nat) (q : Key × Value), prs[j]? = some q → ∃ (b : Addr) (u : Value), ps[j]? = some b ∧ IsTup s.heap b #[u, q.2] ∧ keyIs q.1 u = true
  | _, _, .nil => ⟨[], .nil, rfl, fun j q e => by simp at e⟩
  | _, _, .cons (a := p) (b := kv) h t => by
    obtain ⟨prs, r, hl, hp⟩ := pairs_of I t
    obtain ⟨its, rv, ht, _⟩ := I.tuple h
    obtain ⟨u, y, ei, ru, ry⟩ := vals2 rv
    subst ei
    refine ⟨(kv.1, y) :: prs, .cons ⟨rfl, ry⟩ r, by rw [List.length_cons, List.length_cons, hl], fun j q e => ?_⟩
    cases j with
    | zero =>
      have e' : (kv.1, y) = q := Option.some.inj e
      subst e'
      exact ⟨p, u, rfl, ht, kV_is (P := X.prog) (w := X.w) ru⟩
    | succ j =>
      obtain ⟨b, u', e1, e2, e3⟩ := hp j q (by simpa using e)
      exact ⟨b, u', by simpa using e1, e2, e3⟩
theorem refs_at : ∀ {ps : List Addr} {us : List Value}, Vals (ps.map V.ref) us → us = ps.map Value.ref
  | [], us, r => by
    rw [List.map_nil] at r
    cases r
    rfl
  | p :: ps, us, r => by
    rw [List.map_cons] at r
    cases r with
    | cons h t =>
      cases h
      rw [List.map_cons, ← refs_at t]
/-- dict(xs) of a list of pairs (key, value): later pairs win, the place is the first one's -/
theorem call_dictP (hcalm : X.calm = true) : CallR X (.type "dict") (fun xs H Q => ∃ (a : Addr) (ps : List Addr) (kvs : List (Key × V)), xs = [.ref a] ∧ SqL X.K H a (ps.map V.ref) ∧ Paired (fun p kv => SqT X.K H p [kV kv.1, kv.2]) ps kvs ∧
    ∀ p, H p = none → Q (.ref p) (upd H p (.dK (mergeK [] kvs)))) := by
  intro pins s σ H xs us Q I r q
  obtain ⟨a, ps, kvs, ex, hq, hp, q⟩ := q
  subst ex
  obtain ⟨u, eu, rx⟩ := vals1 r
  subst eu
  cases rx
  obtain ⟨its, rv, pl, hz⟩ := I.list hq
  have ei := refs_at rv
  subst ei
  rw [List.length_map] at hz
  obtain ⟨prs, rel, hl, hpr⟩ := pairs_of I hp
  obtain ⟨o, n, ho, hc, hd, hdat⟩ := pl
  refine call_dict_pairs (prs := prs) (I.ok.hd hcalm) ho hc hd hdat (by simp [hl]) (by rw [hl]; exact hz) (fun j q' e => ?_) fun h' tk hd' k => ?_
  · obtain ⟨b, u, e1, e2, e3⟩ := hpr j q' e
    exact ⟨b, u, by simp [e1], e2, e3⟩
  · have hm : (s.heap.objs.size == sysModules) = false := beq_eq_false_iff_ne.mpr (Nat.ne_of_gt I.big)
    have hlen : (mergeK [] kvs).length ≤ sizeLine := by
      refine Nat.le_trans (length_mergeK kvs []) ?_
      rw [List.length_nil, Nat.zero_add, rel.length, hl]
      exact hz
    exact ⟨.ref s.heap.objs.size, upd H s.heap.objs.size (.dK (mergeK [] kvs)), I.laid (t' := tk) k (Nat.le_refl _) (show ObjOk X.prog X.w _ _ _ (.dK (mergeK [] kvs)) from ⟨hlen, hm, merged [] prs, KV.merge rel .nil, hd'⟩), rfl, q _ (I.hok.fresh (Nat.le_refl _))⟩
end
end L2

namespace L2
open PySem PySem.Spec PyProof.Rows

theorem boot_reversed5 : bootBuiltins "reversed" = some (.type "reversed") := by decide +kernel

section
variable {X : Cx} {pins : List (Addr × Obj)} {σ : St} {H : Hp} {s : Shared} {h' : Heap}
/-- several records of ours have turned -/
theorem Inv.turnedL {t' : Nat} {ch : List Addr} (I : Inv X pins σ H s) (k : ∀ b o, b ∉ ch → s.heap.get? b = some o → h'.get? b = some o) (hf : ∀ b ∈ ch, FpOk X pins H b) : Inv X pins σ H { s with heap := h', toks := t' } := by
  have nit : ∀ b u, H b = some u → b ∉ ch := fun b u e z => by
    have q := (hf b z).1
    rw [q] at e; cases e
  refine I.step (g' := s.gens) (d' := s.drawn) (ch := ch) (fun b hb => ⟨(hf b hb).2.2.2.1, (hf b hb).2.1, (hf b hb).2.2.2.2.1, (hf b hb).2.2.2.2.2⟩) (fun b o _ _ hc e _ => k b o hc e) (fun b o _ _ hc e _ => ⟨o.slots, k b o hc e⟩)
    (fun _ _ _ _ n => n) (fun b o hc e => ⟨o, k b o hc e⟩) (fun _ _ e => e) (fun _ _ _ e => e) (fun b ps e => ⟨#[], by rw [e]; simp⟩) (fun m hm => ?_) (fun b u e => ?_) I.bare
  · obtain ⟨o, es, ep, ho, r⟩ := hm
    exact ⟨o, es, ep, k _ o (fun z => (hf _ z).2.1 rfl) ho, r⟩
  · refine (I.hok b u e).stay (fun c v hc q => k c v ?_ q) (fun _ q => q) fun _ _ q => q
    rcases hc with z | z
    · rw [z]; exact nit b u e
    · exact nit c _ z
/-- .. and one new object is laid -/
theorem Inv.turnedNew {t' : Nat} {ch : List Addr} {T : Addr} {ob : HO} (I : Inv X pins σ H s) (k : ∀ b o, b ∉ ch → s.heap.get? b = some o → h'.get? b = some o) (hf : ∀ b ∈ ch, FpOk X pins H b) (hT : s.heap.objs.size ≤ T)
    (new : ObjOk X.prog X.w (upd H T ob) h' T ob) : Inv X pins σ (upd H T ob) { s with heap := h', toks := t' } := by
  have hn : H T = none := I.hok.fresh hT
  have nit : ∀ b u, H b = some u → b ∉ ch := fun b u e z => by
    have q := (hf b z).1
    rw [q] at e; cases e
  refine I.step (g' := s.gens) (d' := s.drawn) (ch := ch) (fun b hb => ⟨(hf b hb).2.2.2.1, (hf b hb).2.1, (hf b hb).2.2.2.2.1, (hf b hb).2.2.2.2.2⟩) (fun b o _ _ hc e _ => k b o hc e) (fun b o _ _ hc e _ => ⟨o.slots, k b o hc e⟩)
    (fun b o _ e n => ?_) (fun b o hc e => ⟨o, k b o hc e⟩) (fun b xs e => ?_) (fun b o u e => ?_) (fun b ps e => ⟨#[], ?_⟩) (fun m hm => ?_) (fun b u e => ?_) I.bare
  · rw [upd_ne (Nat.ne_of_lt (Nat.lt_of_lt_of_le (Heap.lt_size e) hT))]; exact n
  · rw [upd_ne (ne_of_none e hn)]; exact e
  · rw [upd_ne (ne_of_none e hn)]; exact e
  · rw [upd_ne (ne_of_none e hn), e]; simp
  · obtain ⟨o, es, ep, ho, r⟩ := hm
    exact ⟨o, es, ep, k _ o (fun z => (hf _ z).2.1 rfl) ho, r⟩
  · by_cases hb : b = T
    · subst hb
      rw [upd_same] at e
      cases e
      exact new
    · rw [upd_ne hb] at e
      refine (I.hok b u e).stay (fun c v hc q => k c v ?_ q) (fun c q => by rw [upd_ne (ne_of_none q hn)]; exact q) fun c xs q => by rw [upd_ne (ne_of_none q hn)]; exact q
      rcases hc with z | z
      · rw [z]; exact nit b u e
      · exact nit c _ z

/-! ### locking a thing while a statement runs -/
theorem Inv.lock {d : Addr} {u : HO} (I : Inv X pins σ H s) (h : H d = some u) (mu : Mut (some u)) : ∃ od, Inv X pins σ (upd H d (.frz od u)) s := by
  have x := I.hok d u h
  have ex : ∃ od, s.heap.get? d = some od := by
    cases u with
    | lst xs => obtain ⟨_, _, _, _, e⟩ := x; exact ⟨_, e⟩
    | dK kvs => obtain ⟨_, _, _, _, o, _, _, e, _⟩ := x; exact ⟨o, e⟩
    | dT kvs => obtain ⟨_, _, _, _, o, _, _, e, _⟩ := x; exact ⟨o, e⟩
    | set S n => obtain ⟨o, _, _, _, e, _⟩ := x; exact ⟨o, e⟩
    | ins C dx fs => obtain ⟨_, _, _, e, _⟩ := x; exact ⟨_, e⟩
    | ext φ => obtain ⟨_, ⟨_, e⟩, _⟩ := x; exact ⟨_, e⟩
    | _ => exact False.elim mu
  obtain ⟨od, e⟩ := ex
  have new : ObjOk X.prog X.w (upd H d (.frz od u)) s.heap d (.frz od u) := by
    refine ⟨e, x.stay (fun b v _ q => q) (fun b q => ?_) fun b xs q => ?_⟩
    · rw [upd_ne (fun z => by rw [z, h] at q; cases q; exact mu)]; exact q
    · rw [upd_ne (fun z => by rw [z, h] at q; cases q; exact mu)]; exact q
  exact ⟨od, I.write (x := d) (e := d) (t' := s.toks) (h' := s.heap) (by rw [h]; exact mu) (.inl rfl) (fun b v _ q => q) ⟨od, e⟩ new⟩
theorem Inv.nofrz {d : Addr} {u : HO} (I : Inv X pins σ H s) (h : H d = some u) (mu : Mut (some u)) : ∀ o' u', X.H_0 d ≠ some (.frz o' u') := fun o' u' e => by
  have q := I.base.frzs d o' u' e
  rw [h] at q
  cases q
  exact mu
theorem Inv.unlock {d : Addr} {od : Obj} {u : HO} (I : Inv X pins σ H s) (h : H d = some (.frz od u)) (hn : ∀ o' u', X.H_0 d ≠ some (.frz o' u')) : Inv X pins σ (upd H d u) s := by
  have neH : ∀ b o, H b = some o → (∀ o' u', o ≠ .frz o' u') → b ≠ d := fun b o e hne z => by
    rw [z, h] at e
    cases e
    exact hne _ _ rfl
  have neN : ∀ b, H b = none → b ≠ d := fun b e z => by rw [z, h] at e; cases e
  refine ⟨I.ok, I.os, I.bare, ⟨I.base.keep, I.base.slot, fun b o e n hx => ?_, I.base.there, fun b xs e => ?_, fun b o x e => ?_, fun b ps e => ?_⟩, I.loc, I.cell, ?_, fun x c e => ?_, fun p hp => ?_, fun b o e => ?_, I.len⟩
  · rw [upd_ne (neN b (I.base.free b o e n hx))]; exact I.base.free b o e n hx
  · have q := I.base.tups b xs e
    rw [upd_ne (neH b _ q (fun _ _ z => nomatch z))]; exact q
  · have q := I.base.frzs b o x e
    rw [upd_ne (fun z => by rw [z] at e; exact hn _ _ e)]; exact q
  · obtain ⟨m, q⟩ := I.base.tbls b ps e
    exact ⟨m, by rw [upd_ne (neH b _ q (fun _ _ z => nomatch z))]; exact q⟩
  · rw [upd_ne (neN _ I.free)]; exact I.free
  · rw [upd_ne (neN c (I.freeC x c e))]; exact I.freeC x c e
  · obtain ⟨e, n, r⟩ := I.pin p hp
    exact ⟨e, by rw [upd_ne (neN _ n)]; exact n, r⟩
  · by_cases hb : b = d
    · rw [hb, upd_same] at e
      cases e
      rw [hb]
      obtain ⟨_, x⟩ := I.hok d _ h
      exact x.stay (fun c v _ q => q) (fun c q => by rw [upd_ne (neH c _ q (fun _ _ z => nomatch z))]; exact q) fun c xs q => by rw [upd_ne (neH c _ q (fun _ _ z => nomatch z))]; exact q
    · rw [upd_ne hb] at e
      exact (I.hok b o e).stay (fun c v _ q => q) (fun c q => by rw [upd_ne (neH c _ q (fun _ _ z => nomatch z))]; exact q) fun c xs q => by rw [upd_ne (neH c _ q (fun _ _ z => nomatch z))]; exact q
end
/-- the statement runs while the thing at d is locked (read, not written); d and what stands there are the reading's choice -/
def tLock (t : TS) : TS := fun D σ H => ∃ d u, H d = some u ∧ Mut (some u) ∧ ∀ od, t ⟨fun σ' H' => H' d = some (.frz od u) ∧ D.nx σ' (upd H' d u), fun v H' => H' d = some (.frz od u) ∧ D.rt v (upd H' d u), fun σ' H' => H' d = some (.frz od u) ∧ D.bk σ' (upd H' d u), fun σ' H' => H' d = some (.frz od u) ∧ D.ct σ' (upd H' d u)⟩ σ (upd H d (.frz od u))
def tLockE (t : TE) : TE := fun σ H Q => ∃ d u, H d = some u ∧ Mut (some u) ∧ ∀ od, t σ (upd H d (.frz od u)) fun v H' => H' d = some (.frz od u) ∧ Q v (upd H' d u)
section
variable {X : Cx}
theorem ps_lock {st : Stmt} {t : TS} (h : PS X st t) : PS X st (tLock t) := by
  intro pins s σ H D I hw
  obtain ⟨d, u, hd, mu, hw⟩ := hw
  obtain ⟨od, I1⟩ := I.lock hd mu
  refine thn (h pins s σ _ _ I1 (hw od)) fun f s1 q => ?_
  cases f with
  | next => obtain ⟨σ', H', I2, e, q⟩ := q; exact ⟨σ', _, I2.unlock e (I.nofrz hd mu), q⟩
  | brk => obtain ⟨σ', H', I2, e, q⟩ := q; exact ⟨σ', _, I2.unlock e (I.nofrz hd mu), q⟩
  | cont => obtain ⟨σ', H', I2, e, q⟩ := q; exact ⟨σ', _, I2.unlock e (I.nofrz hd mu), q⟩
  | ret v => obtain ⟨x, σ', H', I2, r, e, q⟩ := q; exact ⟨x, σ', _, I2.unlock e (I.nofrz hd mu), r, q⟩
theorem pe_lock {e : Expr} {t : TE} (h : PE X e t) : PE X e (tLockE t) := by
  intro pins s σ H Q I hw
  obtain ⟨d, u, hd, mu, hw⟩ := hw
  obtain ⟨od, I1⟩ := I.lock hd mu
  refine thn (h pins s σ _ _ I1 (hw od)) fun v s1 ⟨x, H1, I2, r, e2, q⟩ => ?_
  exact ⟨x, _, I2.unlock e2 (I.nofrz hd mu), r, q⟩

/-! ### one iterator just laid -/
theorem pi_one {tg : Expr} {pins : List (Addr × Obj)} {σ : St} {H : Hp} {s : Shared} {R : It → Hp → Prop} {J : It} {tn : Nat → Heap → Prop} {tk : Nat} (I : Inv X pins σ H s) (o : Obj)
    (T : Turn X.prog X.w X.K tg J [s.heap.objs.size] s.heap.objs.size tn) (st : tn 0 (s.heap.push o)) (q : R J H) : PIE X pins σ tg R (.ref s.heap.objs.size) { s with heap := s.heap.push o, toks := tk } := by
  refine ⟨s.heap.objs.size, [s.heap.objs.size], tn, J, H, rfl, I.kept fun b ob e => Heap.get?_push_of_some _ e, T, st, fun b hb => ?_, q⟩
  have e : b = s.heap.objs.size := by simpa using hb
  subst e
  exact I.fpOk (Nat.le_refl _) (I.hok.fresh (Nat.le_refl _))
end

/-! ### range with a step -/
/-- lo, lo + c, .. (n of them) -/
def Itc (lo c : Int) (n : Nat) : It := ⟨fun i _ => i < n, fun i H x H' => H' = H ∧ x = .int (lo + (i : Nat) * c), fun i _ => n ≤ i⟩
theorem turn_rangeC {P : Program} {w : World} {K : PySem.W.Frag} {tg : Expr} (it : Addr) (lo c : Int) (n : Nat) : Turn P w K tg (Itc lo c n) [it] it (fun i h => IsRangeIter h it (lo + (i : Nat) * c) ((n : Int) - (i : Nat)) c) where
  mem := by simp
  obj := fun i h st b hb => by
    have e : b = it := by simpa using hb
    subst e
    exact ⟨_, st, fun v z => nomatch z⟩
  keep := fun i h h' st k => k it (by simp) _ st
  item := by
    intro X hP hw hK hc i pins s σ H E I hf st hg
    subst hP hw hK
    obtain ⟨f0, f1, f2, f3, f4, f5⟩ := hf it (by simp)
    have W := Walks.range (prog := X.prog) (w := X.w) (I.ok.hd hc) it lo c n
    refine W.item i s _ _ hg st fun v h' tk hv st' kk => ?_
    obtain ⟨t, rfl⟩ := hv
    have I1 : Inv X pins σ H { s with heap := h', toks := tk } := I.turned (fun b o hb e => kk b o (by simpa using hb) e) f0 f1 f3 f4 f5
    exact ⟨_, rfl, go_of (s := { s with heap := h', toks := tk }) (n := "range_iterator") st' rfl rfl (by decide) ⟨.int (lo + (i : Nat) * c), H, I1, ⟨t, rfl⟩, ⟨rfl, rfl⟩, st', fun b hb => (hf b hb).1⟩⟩
  done := by
    intro X hP hw hK hc i pins s σ H E I hf st hg
    subst hP hw hK
    obtain ⟨f0, f1, f2, f3, f4, f5⟩ := hf it (by simp)
    exact wpAny_pyNext_range_end (I.ok.hd hc) st (by have : n ≤ i := hg; omega) fun h' eb => ⟨rfl, I.turned (t' := s.toks) (fun b o hb e => eb b o hb e) f0 f1 f3 f4 f5⟩
  self := fun A i s Q E st h => wpAny_pyIter_rangeiter st h
/-- range(i, j, c): small bounds, n items -/
def RgC (i j c : Int) (n : Nat) : Prop := c ≠ 0 ∧ c.natAbs < 1073741824 ∧ Builtin.Range.small i j c = true ∧ Builtin.Range.rangeSize i j c = n
theorem RgC.neg {i j : Int} (ha : -(2 ^ 62) ≤ i) (ha' : i < 2 ^ 62) (hb : -(2 ^ 62) ≤ j) (hb' : j < 2 ^ 62) : RgC i j (-1) (i - j).toNat :=
  ⟨by decide, by decide, PySem.W.small_down ha ha' hb hb', PySem.W.rangeSize_downNat i j⟩
def iRng3 (ta : TA) : TI := fun σ H R => ta σ H fun vs H1 => ∃ (i j c : Int) (n : Nat), vs = [.int i, .int j, .int c] ∧ RgC i j c n ∧ R (Itc i c n) H1
section
variable {X : Cx} {tg : Expr}
theorem pi_range3 {a b c : Expr} {ta : TA} {p pos : Pos} (hg : Gl X "range") (hm : X.mg "range" = none) (ha : PA X [a, b, c] ta)
    (hs : starEach [a, b, c] X.env = (false, eval a X.env) :: starEach [b, c] X.env := by rfl) (hpl : (backTo pos (starEach [b, c] X.env)).any (·.1) = false := by rfl) :
    PI X tg (.Call (.Name "range" p) [a, b, c] [] pos) (iRng3 ta) := by
  intro pins s σ H R I h
  refine Call_ (ld_blt I hg hm boot_range (PyProof.Rows.callWith_type1 (thn (ha pos pins s σ H _ I h) fun us s1 ⟨vs, H1, I1, r1, q1⟩ => ?_) hs hpl))
  obtain ⟨i, j, k, n, e, ⟨c0, c1, c2, c3⟩, q⟩ := q1
  subst e
  cases r1 with
  | cons r rr =>
    cases rr with
    | cons r' rr =>
      cases rr with
      | cons r'' rr =>
        cases rr
        obtain ⟨t, rfl⟩ := r
        obtain ⟨t', rfl⟩ := r'
        obtain ⟨t'', rfl⟩ := r''
        refine call_range_3 c0 ?_ (.inl (PyProof.noPylong_small c1))
        refine wpAny_pyIter_range (IsRange.new ..) c2 ?_
        have I2 : Inv X pins σ H1 { s1 with heap := s1.heap.push { cls := .type "range", data := .fields #[.int i t, .int j t', .int k t''] } } := I1.kept (t' := s1.toks) fun b o e => Heap.get?_push_of_some _ e
        refine pi_one (tk := s1.toks) I2 _ (turn_rangeC _ i k n) ?_ q
        have e1 : i + ((0 : Nat) : Int) * k = i := by simp
        have e2 : (n : Int) - ((0 : Nat) : Int) = Builtin.Range.rangeSize i j k := by rw [c3]; simp
        show IsRangeIter _ _ (i + ((0 : Nat) : Int) * k) ((n : Int) - ((0 : Nat) : Int)) k
        rw [e1, e2]
        exact Heap.get?_push_size _ rfl
end
/-- the turns of a step range, for the for loop -/
theorem for_rangeC {lo c : Int} {n : Nat} {g : TG} {tb : TS} {D : Ends} {σ : St} {H : Hp} (Pv : Nat → St → Hp → Prop) (h0 : Pv 0 σ H)
    (hs : ∀ i σ H, i < n → Pv i σ H → g (.int (lo + (i : Nat) * c)) σ H fun σ2 H2 => tb { D with nx := Pv (i + 1), ct := Pv (i + 1), bk := D.nx } σ2 H2) (hd : ∀ σ H, Pv n σ H → D.nx σ H) :
    ∃ W : Nat → Nat → St → Hp → Prop, (∃ m, W 0 m σ H) ∧ ∀ i m σ H, W i m σ H →
      ((Itc lo c n).stop i H ∧ D.nx σ H) ∨ ((Itc lo c n).go i H ∧ ∃ N : St → Hp → Prop, (∀ σ' H', N σ' H' → ∃ m', m' < m ∧ W (i + 1) m' σ' H') ∧ ∀ x H', (Itc lo c n).yld i H x H' → g x σ H' fun σ2 H2 => tb { D with nx := N, ct := N, bk := D.nx } σ2 H2) := by
  refine ⟨fun i m σ H => m = n - i ∧ i ≤ n ∧ Pv i σ H, ⟨n, by simp, Nat.zero_le _, h0⟩, ?_⟩
  rintro i m σ H ⟨rfl, hi, p⟩
  by_cases hlt : i < n
  · refine .inr ⟨hlt, Pv (i + 1), fun σ' H' p' => ⟨n - (i + 1), by omega, rfl, hlt, p'⟩, fun x H' y => ?_⟩
    obtain ⟨e, y⟩ := y
    subst e y
    exact hs i σ _ hlt p
  · have e : i = n := by omega
    subst e
    exact .inl ⟨Nat.le_refl _, hd σ H p⟩

/-! ### reversed(list) -/
/-- the list at a (n items at the start, which the loop leaves there), from its end -/
def Itv (K : PySem.W.Frag) (a : Addr) (n : Nat) : It :=
  ⟨fun i H => i < n ∧ ∃ (xs : List V) (x : V), SqL K H a xs ∧ xs[n - 1 - i]? = some x, fun i H x H' => H' = H ∧ ∀ xs, SqL K H a xs → xs[n - 1 - i]? = some x, fun i _ => n ≤ i⟩
theorem turn_rev {P : Program} {w : World} {K : PySem.W.Frag} {tg : Expr} (a it : Addr) (n : Nat) : Turn P w K tg (Itv K a n) [it] it (fun i h => i ≤ n ∧ h.IsRevIter it a ((n : Int) - 1 - (i : Nat))) where
  mem := by simp
  obj := fun i h st b hb => by
    have e : b = it := by simpa using hb
    subst e
    obtain ⟨_, o, e, c, d⟩ := st
    exact ⟨o, e, fun v z => by rw [d] at z; cases z⟩
  keep := fun i h h' st k => ⟨st.1, st.2.at fun o e => k it (by simp) o e⟩
  item := by
    intro X hP hw hK hc i pins s σ H E I hf st hg
    subst hP hw hK
    obtain ⟨hin, xs, x, hq, hx⟩ := hg
    obtain ⟨its, rv, p, hz⟩ := I.list hq
    obtain ⟨u, hu, ru⟩ := rv.get hx
    obtain ⟨f0, f1, f2, f3, f4, f5⟩ := hf it (by simp)
    obtain ⟨_, hit⟩ := st
    have e1 : (n : Int) - 1 - ((i : Nat) : Int) = ((n - 1 - i : Nat) : Int) := by omega
    rw [e1] at hit
    refine wpAny_pyNext_rev_item hit p.isList (x := u) (by simpa using hu) fun h' st' sb => ?_
    have e2 : ((n - 1 - i : Nat) : Int) - 1 = (n : Int) - 1 - ((i + 1 : Nat) : Int) := by omega
    rw [e2] at st'
    have I1 : Inv X pins σ H { s with heap := h' } := I.turned (t' := s.toks) (fun b o hb e => (sb.2 b hb).trans e) f0 f1 f3 f4 f5
    obtain ⟨o, e, c, d⟩ := id st'
    exact ⟨u, rfl, go_of (s := { s with heap := h' }) e c d (by decide) ⟨x, H, I1, ru, ⟨rfl, fun ys hy => by rw [I.list_inj hy hq]; exact hx⟩, ⟨hin, st'⟩, fun b hb => (hf b hb).1⟩⟩
  done := by
    intro X hP hw hK hc i pins s σ H E I hf st hg
    subst hP hw hK
    obtain ⟨f0, f1, f2, f3, f4, f5⟩ := hf it (by simp)
    obtain ⟨hin, hit⟩ := st
    have hge : n ≤ i := hg
    have e1 : (n : Int) - 1 - ((i : Nat) : Int) = -1 := by omega
    rw [e1] at hit
    exact wpAny_pyNext_rev_end (I.ok.hd hc) hit fun h' eb => ⟨rfl, I.turned (t' := s.toks) (fun b o hb e => eb b o hb e) f0 f1 f3 f4 f5⟩
  self := fun A i s Q E st h => wpAny_pyIter_revIter st.2 h
def iRev (K : PySem.W.Frag) (ta : TA) : TI := fun σ H R => ta σ H fun vs H1 => ∃ (a : Addr) (xs : List V), vs = [.ref a] ∧ SqL K H1 a xs ∧ R (Itv K a xs.length) H1
section
variable {X : Cx} {tg : Expr}
theorem pi_reversed {e : Expr} {ta : TA} {p pos : Pos} (hg : Gl X "reversed") (hm : X.mg "reversed" = none) (ha : PA X [e] ta) (hs : starEach [e] X.env = [(false, eval e X.env)] := by rfl) : PI X tg (.Call (.Name "reversed" p) [e] [] pos) (iRev X.K ta) := by
  intro pins s σ H R I h
  refine Call_ (ld_blt I hg hm boot_reversed5 (PyProof.Rows.callWith_type1 (thn (ha pos pins s σ H _ I h) fun us s1 ⟨vs, H1, I1, r1, q1⟩ => ?_) hs rfl))
  obtain ⟨a, xs, e, hq, q⟩ := q1
  subst e
  cases r1 with
  | cons r rr =>
    cases rr
    cases r
    obtain ⟨its, rv, p', hz⟩ := I1.list hq
    have hl := rv.length
    have e1 : ((its.toArray.size : Nat) : Int) - 1 = (xs.length : Int) - 1 - ((0 : Nat) : Int) := by simp only [List.size_toArray]; omega
    refine call_reversed_list p'.isList (wpAny_pyIter_revIter (l := a) (i := ((its.toArray.size : Nat) : Int) - 1) ⟨_, Heap.get?_push_size _ rfl, rfl, rfl⟩ ?_)
    refine pi_one (tk := s1.toks) I1 _ (turn_rev a _ xs.length) ⟨Nat.zero_le _, ?_⟩ q
    rw [← e1]
    exact ⟨_, Heap.get?_push_size _ rfl, rfl, rfl⟩
end

/-! ### a str -/
def Its (x : Str) : It := ⟨fun i _ => i < x.cps.size, fun i H v H' => H' = H ∧ ∃ c, x.cps[i]? = some c ∧ v = .str ⟨#[c]⟩, fun i _ => x.cps.size ≤ i⟩
theorem turn_str {P : Program} {w : World} {K : PySem.W.Frag} {tg : Expr} (it : Addr) (x : Str) (t : Tok) (ty : String) (hty : ty = "str_ascii_iterator" ∨ ty = "str_iterator") :
    Turn P w K tg (Its x) [it] it (fun i h => h.IsStrIter it ty x t i) where
  mem := by simp
  obj := fun i h st b hb => by
    have e : b = it := by simpa using hb
    subst e
    obtain ⟨o, e, c, d⟩ := st
    exact ⟨o, e, fun v z => by rw [d] at z; cases z⟩
  keep := fun i h h' st k => let ⟨o, ho, r⟩ := st; ⟨o, k it (by simp) o ho, r⟩
  item := by
    intro X hP hw hK hc i pins s σ H E I hf st hg
    subst hP hw hK
    obtain ⟨f0, f1, f2, f3, f4, f5⟩ := hf it (by simp)
    have W : Walks X.prog X.w X.A it [it] [it] x.cps.size (SignAt x) (fun i h => h.IsStrIter it ty x t i) := by
      rcases hty with e | e
      · rw [e]; exact Walks.strAscii (I.ok.hd hc) it x t
      · rw [e]; exact Walks.strWide (I.ok.hd hc) it x t
    have hno : ["enumerate", "zip", "dict_itemiterator", "dict_reverseitemiterator", "odict_iterator", "itertools.zip_longest", "itertools.pairwise"].contains ty = false := by
      rcases hty with e | e
      · rw [e]; decide
      · rw [e]; decide
    refine W.item i s _ _ hg st fun v h' tk hv st' kk => ?_
    obtain ⟨c, u, hcx, rfl⟩ := hv
    have I1 : Inv X pins σ H { s with heap := h', toks := tk } := I.turned (fun b o hb e => kk b o (by simpa using hb) e) f0 f1 f3 f4 f5
    obtain ⟨oi, e, cc, dd⟩ := id st'
    exact ⟨_, rfl, go_of (s := { s with heap := h', toks := tk }) e cc dd hno ⟨.str ⟨#[c]⟩, H, I1, ⟨u, rfl⟩, ⟨rfl, c, hcx, rfl⟩, st', fun b hb => (hf b hb).1⟩⟩
  done := by
    intro X hP hw hK hc i pins s σ H E I hf st hg
    subst hP hw hK
    obtain ⟨f0, f1, f2, f3, f4, f5⟩ := hf it (by simp)
    have hx : x.cps[i]? = none := Array.getElem?_eq_none hg
    rcases hty with e | e
    · rw [e] at st
      exact wpAny_pyNext_ascii_end (I.ok.hd hc) st hx fun h' eb => ⟨rfl, I.turned (t' := s.toks) (fun b o hb e => eb b o hb e) f0 f1 f3 f4 f5⟩
    · rw [e] at st
      exact wpAny_pyNext_wide_end (I.ok.hd hc) st hx fun h' eb => ⟨rfl, I.turned (t' := s.toks) (fun b o hb e => eb b o hb e) f0 f1 f3 f4 f5⟩
  self := fun A i s Q E st h => by
    rcases hty with e | e
    · rw [e] at st; exact wpAny_pyIter_striter_ascii st h
    · rw [e] at st; exact wpAny_pyIter_striter_wide st h
def iStr (te : TE) : TI := fun σ H R => te σ H fun v H1 => ∃ x, v = .str x ∧ R (Its x) H1
theorem pi_str {X : Cx} {tg e : Expr} {te : TE} (he : PE X e te) : PI X tg e (iStr te) := by
  intro pins s σ H R I h
  refine thn (he pins s σ H _ I h) fun v s1 ⟨y, H1, I1, r1, x, ex, q⟩ => ?_
  subst ex
  obtain ⟨t, rfl⟩ := r1
  cases ha : x.cps.all (· < 128)
  · exact wpAny_pyIter_wide ha (pi_one (tk := s1.toks) I1 _ (turn_str _ x t "str_iterator" (.inr rfl)) ⟨_, Heap.get?_push_size _ rfl, rfl, rfl⟩ q)
  · exact wpAny_pyIter_ascii ha (pi_one (tk := s1.toks) I1 _ (turn_str _ x t "str_ascii_iterator" (.inl rfl)) ⟨_, Heap.get?_push_size _ rfl, rfl, rfl⟩ q)

/-! ### a dict's keys: any dict's entries -/
section
variable {prog : Program} {w : World} {A : Around} {E : Value → Shared → Prop} {s : Shared}
theorem iter_keys {d : Addr} {o : Obj} {es : Array DictEntry} {ep : Nat} {Q : Value → Shared → Prop} (hd : (d == sysModules) = false) (ho : s.heap.get? d = some o) (hc : o.ExactDict) (hdat : o.data = .dict es ep)
    (hQ : Q (.ref s.heap.objs.size) { s with heap := s.heap.push { cls := .type "dict_keyiterator", data := .fields #[.ref d, .int 0 0, .int es.size 0, .int ep 0] } }) :
    wpAny (model prog w) A (pyIter (.ref d)) Q E s := by
  have hT : s.TypeIs (.ref d) "dict" := ⟨o, ho, hc.1⟩
  refine wpAny_pyIter_slot hT F.slot_dict_iter (wpAny_call_entry F.slot_dict_iter hT F.entry_dict_iter ?_ (F.args_dict_iter_1 _))
  unfold Builtin.«dict.__iter__»
  refine wpAny_bind ?_
  unfold Builtin.Dict.dictSlotNone
  refine wpAny_bind (wpAny_notOrdered_dict hT ?_)
  show wpAny _ _ (pure (Value.ref d)) _ _ s
  refine wpAny_pure ?_
  show wpAny _ _ (Builtin.Dict.showsAll d >>= _) _ _ s
  unfold Builtin.Dict.showsAll
  rw [if_neg (by rw [hd]; exact Bool.false_ne_true)]
  refine wpAny_bind (wpAny_pure ?_)
  refine wpAny_bind (wpAny_dictEntries ho hdat ?_)
  refine wpAny_bind (wpAny_dictEpoch ho hdat ?_)
  refine wpAny_bind (wpAny_newObj_type (wpAny_pure ⟨_, rfl, "dict_keyiterator", _, ⟨_, Heap.get?_push_size _ rfl, rfl⟩, F.slot_dict_keyiterator_next.lookup, ?_⟩))
  simpa [rawInt] using hQ
theorem next_key_item {it d : Addr} {i n ep : Nat} {od : Obj} {es : Array DictEntry} {en : DictEntry} {Q : Option Value → Shared → Prop} (hit : s.heap.IsKeyIter it d i n ep) (hod : s.heap.get? d = some od) (hdd : od.data = .dict es ep)
    (hsz : es.size = n) (hx : es[i]? = some en) (hQ : ∀ h', h'.IsKeyIter it d (i + 1) n ep → Heap.SameBut it s.heap h' → Q (some en.key) { s with heap := h' }) : wpAny (model prog w) A (pyNext (.ref it)) Q E s := by
  obtain ⟨o, ho, hc, hd⟩ := id hit
  unfold pyNext
  refine wpAny_bind (wpAny_attempt (wpAny_callSpecial?_slot (name := Str.ofString "__next__") hit.typeIs F.slot_dict_keyiterator_next
    (wpAny_call_entry F.slot_dict_keyiterator_next hit.typeIs F.entry_dict_keyiterator_next ?_ (F.args_dict_keyiterator_next_1 _))))
  refine wpAny_bind (wpAny_pure ?_)
  refine wpAny_bind ?_
  refine wpAny_bind ?_
  first | refine wpAny_bind (wpAny_typeNameOfWhole_keyiter hit.typeIs (wpAny_pure ?_)) | refine wpAny_bind (wpAny_typeNameOf_keyiter hit.typeIs (wpAny_pure ?_))
  refine wpAny_bind (wpAny_fieldsOf ho hd ?_)
  have hown : Builtin.Dict_items.ownsTuple "dict_keyiterator" = false := by decide
  simp only [hown, Bool.false_eq_true, if_false]
  show wpAny _ _ (if (Value.ref d == Value.none) = true then _ else _) _ _ s
  rw [if_neg (show ¬ ((Value.ref d == Value.none) = true) from Bool.false_ne_true)]
  refine wpAny_bind (wpAny_pure ?_)
  refine wpAny_bind (wpAny_dictEntries hod hdd ?_)
  rw [if_neg (by rw [hsz]; simp)]
  refine wpAny_bind (wpAny_pure ?_)
  refine wpAny_bind (wpAny_dictEpoch hod hdd ?_)
  rw [if_neg (by simp)]
  refine wpAny_pure ?_
  obtain ⟨hlt', hen⟩ := Array.getElem?_eq_some_iff.mp hx
  simp only [show ¬ ((i : Int) < 0) from by omega, if_false, Int.toNat_natCast, Array.getElem?_eq_getElem hlt']
  refine wpAny_bind ?_
  first | refine wpAny_bind (wpAny_typeNameOfWhole_keyiter hit.typeIs (wpAny_pure ?_)) | refine wpAny_bind (wpAny_typeNameOf_keyiter hit.typeIs (wpAny_pure ?_))
  refine wpAny_bind (wpAny_isOneOf_keyiter hit.typeIs ?_)
  show wpAny _ _ (setField (.ref it) 1 (rawInt ((i : Int) + 1)) >>= _) _ _ s
  refine wpAny_bind (wpAny_setField ho hd (by simp) ?_)
  have hit' : (s.heap.update it (Obj.mapFields (·.setIfInBounds 1 (rawInt ((i : Int) + 1))))).IsKeyIter it d (i + 1) n ep :=
    ⟨_, Heap.get?_update_self _ ho (Obj.isFreed_of_fields (Obj.data_mapFields hd _)), (Obj.cls_mapFields ..).trans hc, by rw [Obj.data_mapFields hd]; simp [rawInt]⟩
  refine wpAny_bind (wpAny_holding ?_)
  refine wpAny_bind (wpAny_isOneOf_keyiter (s := { s with heap := s.heap.update it (Obj.mapFields (·.setIfInBounds 1 (rawInt ((i : Int) + 1)))) }) hit'.typeIs ?_)
  show wpAny _ _ (pure es[i].key) _ _ _
  rw [hen]
  exact wpAny_pure (wpAny_pure ⟨_, rfl, wpAny_pure (hQ _ hit' (Heap.SameBut.update ..))⟩)
theorem next_key_end {it d : Addr} {i n ep : Nat} {od : Obj} {es : Array DictEntry} {Q : Option Value → Shared → Prop} (hh : A.handled = none) (hit : s.heap.IsKeyIter it d i n ep) (hod : s.heap.get? d = some od) (hdd : od.data = .dict es ep)
    (hsz : es.size = n) (hge : n ≤ i) (hQ : ∀ h', Heap.ExtBut it s.heap h' → Q none { s with heap := h' }) : wpAny (model prog w) A (pyNext (.ref it)) Q E s := by
  obtain ⟨o, ho, hc, hd⟩ := id hit
  unfold pyNext
  refine wpAny_bind (wpAny_attempt (wpAny_callSpecial?_slot (name := Str.ofString "__next__") hit.typeIs F.slot_dict_keyiterator_next
    (wpAny_call_entry F.slot_dict_keyiterator_next hit.typeIs F.entry_dict_keyiterator_next ?_ (F.args_dict_keyiterator_next_1 _))))
  refine wpAny_bind (wpAny_pure ?_)
  refine wpAny_bind ?_
  refine wpAny_bind ?_
  first | refine wpAny_bind (wpAny_typeNameOfWhole_keyiter hit.typeIs (wpAny_pure ?_)) | refine wpAny_bind (wpAny_typeNameOf_keyiter hit.typeIs (wpAny_pure ?_))
  refine wpAny_bind (wpAny_fieldsOf ho hd ?_)
  have hown : Builtin.Dict_items.ownsTuple "dict_keyiterator" = false := by decide
  simp only [hown, Bool.false_eq_true, if_false]
  show wpAny _ _ (if (Value.ref d == Value.none) = true then _ else _) _ _ s
  rw [if_neg (show ¬ ((Value.ref d == Value.none) = true) from Bool.false_ne_true)]
  refine wpAny_bind (wpAny_pure ?_)
  refine wpAny_bind (wpAny_dictEntries hod hdd ?_)
  rw [if_neg (by rw [hsz]; simp)]
  refine wpAny_bind (wpAny_pure ?_)
  refine wpAny_bind (wpAny_dictEpoch hod hdd ?_)
  rw [if_neg (by simp)]
  refine wpAny_pure ?_
  have hge' : es.size ≤ i := by rw [hsz]; exact hge
  simp only [show ¬ ((i : Int) < 0) from by omega, if_false, Int.toNat_natCast, Array.getElem?_eq_none hge']
  refine wpAny_bind ?_
  first | refine wpAny_bind (wpAny_typeNameOfWhole_keyiter hit.typeIs (wpAny_pure ?_)) | refine wpAny_bind (wpAny_typeNameOf_keyiter hit.typeIs (wpAny_pure ?_))
  show wpAny _ _ (setField (.ref it) 0 .none >>= _) _ _ s
  refine wpAny_bind (wpAny_setField ho hd (by simp) ?_)
  show wpAny _ _ (newExc (.type "StopIteration") [] >>= _) _ _ _
  refine wpAny_bind ?_
  simp only [newExc, newTuple]
  refine wpAny_bind (wpAny_newObj_type ?_ (by size_fits))
  refine wpAny_bind (m := firstArgMember _ _) (wpAny_of_eq (a := Value.none) (by first | rfl | (simp only [firstArgMember]; rfl)) ?_)
  refine wpAny_newObj_type ?_ (by size_fits)
  simp only [raiseNew]
  refine wpAny_bind (wpAny_handled ?_)
  rw [show A.in1.handled = none from hh]
  refine wpAny_bind (wpAny_pure (wpAny_throw ?_))
  refine wpAny_bind (wpAny_isInstance (T := "StopIteration") (b := true) ⟨_, Heap.get?_push_size _ rfl, rfl⟩ isSubtype_stop ?_)
  exact wpAny_pure (hQ _ (((Heap.SameBut.update ..).extBut.push _).push _))
end

/-! ### a locked dict -/
theorem kv_get {κ : Type} {kvs : List (κ × V)} {vs : List (κ × Value)} (h : KV kvs vs) : ∀ {i : Nat} {k : κ} {v : V}, kvs[i]? = some (k, v) → ∃ u, vs[i]? = some (k, u) ∧ RelV v u := by
  unfold KV at h
  induction h with
  | nil => intro i k v e; simp at e
  | @cons a b l₁ l₂ r t ih =>
    intro i k v e
    cases i with
    | zero =>
      simp only [List.getElem?_cons_zero, Option.some.injEq] at e
      subst e
      refine ⟨b.2, ?_, r.2⟩
      simp only [List.getElem?_cons_zero]
      exact congrArg some (Prod.ext r.1.symm rfl)
    | succ j =>
      simp only [List.getElem?_cons_succ] at e ⊢
      exact ih e
theorem paired_get {α β : Type} {G : α → β → Prop} {l₁ : List α} {l₂ : List β} (h : Paired G l₁ l₂) : ∀ {i : Nat} {a : α}, l₁[i]? = some a → ∃ b, l₂[i]? = some b ∧ G a b := by
  induction h with
  | nil => intro i a e; simp at e
  | @cons a b l₁ l₂ r t ih =>
    intro i a' e
    cases i with
    | zero =>
      simp only [List.getElem?_cons_zero, Option.some.injEq] at e
      subst e
      exact ⟨b, rfl, r⟩
    | succ j =>
      simp only [List.getElem?_cons_succ] at e ⊢
      exact ih e
theorem relV_key {k : Key} {u : Value} (h : keyIs k u = true) : RelV (kV k) u := by
  rcases keyIs_shape h with ⟨i, t, rfl, rfl⟩ | ⟨x, t, rfl, rfl⟩
  · exact ⟨t, rfl⟩
  · exact ⟨t, rfl⟩
section
variable {X : Cx} {pins : List (Addr × Obj)} {σ : St} {H : Hp} {s : Shared} {d : Addr} {o : Obj}
theorem Inv.frzK {kvs : List (Key × V)} (I : Inv X pins σ H s) (h : H d = some (.frz o (.dK kvs))) :
    (d == sysModules) = false ∧ s.heap.get? d = some o ∧ o.ExactDict ∧ ∃ (es : Array DictEntry) (ep : Nat) (vs : List (Key × Value)), o.data = .dict es ep ∧ es.size = kvs.length ∧ KV kvs vs ∧ s.heap.DictAt (mixKind X.prog X.w) d vs ep := by
  obtain ⟨hd, z, hs, vs, kv, o', es, ep, ho, hx, hdt, r⟩ := I.hok d _ h
  rw [hd] at ho
  cases ho
  refine ⟨hs, hd, hx, es, ep, vs, hdt, ?_, kv, o, es, hd, hx, hdt, r⟩
  have l1 := r.2.1.length
  have l2 : kvs.length = vs.length := Paired.length kv
  rw [Array.length_toList] at l1
  omega
/-- the same for tuple keys -/
theorem Inv.frzT {kvs : List (List Key × V)} (I : Inv X pins σ H s) (h : H d = some (.frz o (.dT kvs))) :
    (d == sysModules) = false ∧ s.heap.get? d = some o ∧ o.ExactDict ∧ ∃ (es : Array DictEntry) (ep : Nat), o.data = .dict es ep ∧ es.size = kvs.length ∧
      ∀ (i : Nat) (k : List Key) (v : V), kvs[i]? = some (k, v) → ∃ (en : DictEntry) (q : Addr), es[i]? = some en ∧ en.key = .ref q ∧ H q = some (.tup (k.map kV)) := by
  obtain ⟨hd, z, hs, xs, pr, o', es, ep, ho, hx, hdt, he, _⟩ := I.hok d _ h
  rw [hd] at ho
  cases ho
  refine ⟨hs, hd, hx, es, ep, hdt, ?_, fun i k v e => ?_⟩
  · have l1 : es.size = xs.length := size_of_entries he
    have l2 : kvs.length = xs.length := Paired.length pr
    omega
  · obtain ⟨b, hb, e1, e2, _⟩ := paired_get pr e
    have q := entry_at he i
    rw [hb] at q
    exact ⟨_, b.2.1, q, rfl, e2⟩
end

/-- the keys of the locked dict at d, in their order -/
def Itk (d : Addr) (o : Obj) (kvs : List (Key × V)) : It :=
  ⟨fun i H => H d = some (.frz o (.dK kvs)) ∧ i < kvs.length, fun i H x H' => H' = H ∧ ∃ k v, kvs[i]? = some (k, v) ∧ x = kV k, fun i H => H d = some (.frz o (.dK kvs)) ∧ kvs.length ≤ i⟩
/-- .. of tuple keys: the key's own tuple -/
def Itkt (d : Addr) (o : Obj) (kvs : List (List Key × V)) : It :=
  ⟨fun i H => H d = some (.frz o (.dT kvs)) ∧ i < kvs.length, fun i H x H' => H' = H ∧ ∃ (k : List Key) (v : V) (q : Addr), kvs[i]? = some (k, v) ∧ x = .ref q ∧ H q = some (.tup (k.map kV)), fun i H => H d = some (.frz o (.dT kvs)) ∧ kvs.length ≤ i⟩
/-- the values -/
def Itd (d : Addr) (o : Obj) (kvs : List (Key × V)) : It :=
  ⟨fun i H => H d = some (.frz o (.dK kvs)) ∧ i < kvs.length, fun i H x H' => H' = H ∧ ∃ k, kvs[i]? = some (k, x), fun i H => H d = some (.frz o (.dK kvs)) ∧ kvs.length ≤ i⟩
/-- the pairs, each a new tuple -/
def Iti (d : Addr) (o : Obj) (kvs : List (Key × V)) : It :=
  ⟨fun i H => H d = some (.frz o (.dK kvs)) ∧ i < kvs.length, fun i H x H' => ∃ T k v, kvs[i]? = some (k, v) ∧ x = .ref T ∧ H T = none ∧ H' = upd H T (.tup [kV k, v]), fun i H => H d = some (.frz o (.dK kvs)) ∧ kvs.length ≤ i⟩
theorem dict_ep {o : Obj} {es es' : Array DictEntry} {ep ep' : Nat} (h : o.data = .dict es ep) (h' : o.data = .dict es' ep') : es' = es ∧ ep' = ep := by
  rw [h] at h'
  cases h'
  exact ⟨rfl, rfl⟩
section
variable {P : Program} {w : World} {K : PySem.W.Frag} {tg : Expr} {d : Addr} {o : Obj} {es : Array DictEntry} {ep : Nat}
theorem turn_keys {kvs : List (Key × V)} (it : Addr) (hod : o.data = .dict es ep) : Turn P w K tg (Itk d o kvs) [it] it (fun i h => h.IsKeyIter it d i kvs.length ep) where
  mem := by simp
  obj := fun i h st b hb => by
    have e : b = it := by simpa using hb
    subst e
    obtain ⟨oi, e, c, dd⟩ := st
    exact ⟨oi, e, fun v z => by rw [dd] at z; cases z⟩
  keep := fun i h h' st k => st.at fun oi e => k it (by simp) oi e
  item := by
    intro X hP hw hK hc i pins s σ H E I hf st hg
    subst hP hw hK
    obtain ⟨hd, hi⟩ := hg
    obtain ⟨f0, f1, f2, f3, f4, f5⟩ := hf it (by simp)
    obtain ⟨hs, hgd, hx, es', ep', vs, hdt, hsz, kv, hm⟩ := I.frzK hd
    obtain ⟨rfl, rfl⟩ := dict_ep hod hdt
    obtain ⟨⟨k, v⟩, hkv⟩ : ∃ p, kvs[i]? = some p := ⟨kvs[i], List.getElem?_eq_getElem hi⟩
    obtain ⟨u, hu, ru⟩ := kv_get kv hkv
    have hl : kvs.length = vs.length := Paired.length kv
    rw [hl] at st
    refine wpAny_pyNext_dict_item st hm hu fun key h' hkey st' sb => ?_
    have I1 : Inv X pins σ H { s with heap := h' } := I.turned (t' := s.toks) (fun b ob hb e => (sb.2 b hb).trans e) f0 f1 f3 f4 f5
    obtain ⟨oi, e, c, dd⟩ := id st'
    refine ⟨key, rfl, go_of (s := { s with heap := h' }) e c dd (by decide) ⟨kV k, H, I1, relV_key (show keyIs k key = true from hkey), ⟨rfl, k, v, hkv, rfl⟩, ?_, fun b hb => (hf b hb).1⟩⟩
    show h'.IsKeyIter it d (i + 1) kvs.length _
    rw [hl]
    exact st'
  done := by
    intro X hP hw hK hc i pins s σ H E I hf st hg
    subst hP hw hK
    obtain ⟨hd, hi⟩ := hg
    obtain ⟨f0, f1, f2, f3, f4, f5⟩ := hf it (by simp)
    obtain ⟨hs, hgd, hx, es', ep', vs, hdt, hsz, kv, hm⟩ := I.frzK hd
    obtain ⟨rfl, rfl⟩ := dict_ep hod hdt
    exact next_key_end (I.ok.hd hc) st hgd hdt hsz hi fun h' eb => ⟨rfl, I.turned (t' := s.toks) (fun b ob hb e => eb b ob hb e) f0 f1 f3 f4 f5⟩
  self := fun A i s Q E st h => wpAny_pyIter_keyiter st h
theorem turn_keysT {kvs : List (List Key × V)} (it : Addr) (hod : o.data = .dict es ep) : Turn P w K tg (Itkt d o kvs) [it] it (fun i h => h.IsKeyIter it d i kvs.length ep) where
  mem := by simp
  obj := fun i h st b hb => by
    have e : b = it := by simpa using hb
    subst e
    obtain ⟨oi, e, c, dd⟩ := st
    exact ⟨oi, e, fun v z => by rw [dd] at z; cases z⟩
  keep := fun i h h' st k => st.at fun oi e => k it (by simp) oi e
  item := by
    intro X hP hw hK hc i pins s σ H E I hf st hg
    subst hP hw hK
    obtain ⟨hd, hi⟩ := hg
    obtain ⟨f0, f1, f2, f3, f4, f5⟩ := hf it (by simp)
    obtain ⟨hs, hgd, hx, es', ep', hdt, hsz, ent⟩ := I.frzT hd
    obtain ⟨rfl, rfl⟩ := dict_ep hod hdt
    obtain ⟨⟨k, v⟩, hkv⟩ : ∃ p, kvs[i]? = some p := ⟨kvs[i], List.getElem?_eq_getElem hi⟩
    obtain ⟨en, q, hen, hkey, hq⟩ := ent i k v hkv
    refine next_key_item st hgd hdt hsz hen fun h' st' sb => ?_
    have I1 : Inv X pins σ H { s with heap := h' } := I.turned (t' := s.toks) (fun b ob hb e => (sb.2 b hb).trans e) f0 f1 f3 f4 f5
    obtain ⟨oi, e, c, dd⟩ := id st'
    exact ⟨en.key, rfl, go_of (s := { s with heap := h' }) e c dd (by decide) ⟨.ref q, H, I1, hkey, ⟨rfl, k, v, q, hkv, rfl, hq⟩, st', fun b hb => (hf b hb).1⟩⟩
  done := by
    intro X hP hw hK hc i pins s σ H E I hf st hg
    subst hP hw hK
    obtain ⟨hd, hi⟩ := hg
    obtain ⟨f0, f1, f2, f3, f4, f5⟩ := hf it (by simp)
    obtain ⟨hs, hgd, hx, es', ep', hdt, hsz, ent⟩ := I.frzT hd
    obtain ⟨rfl, rfl⟩ := dict_ep hod hdt
    exact next_key_end (I.ok.hd hc) st hgd hdt hsz hi fun h' eb => ⟨rfl, I.turned (t' := s.toks) (fun b ob hb e => eb b ob hb e) f0 f1 f3 f4 f5⟩
  self := fun A i s Q E st h => by
    refine wpAny_pyIter_slot st.typeIs F.slot_dict_keyiterator_iter (wpAny_call_entry F.slot_dict_keyiterator_iter st.typeIs F.entry_dict_keyiterator_iter ?_ (F.args_dict_keyiterator_iter_1 _))
    show wpAny _ _ (ret (.ref it)) _ _ s
    exact wpAny_pure ⟨_, rfl, "dict_keyiterator", _, st.typeIs, F.slot_dict_keyiterator_next.lookup, h⟩
theorem turn_vals {kvs : List (Key × V)} (it : Addr) (hod : o.data = .dict es ep) : Turn P w K tg (Itd d o kvs) [it] it (fun i h => h.IsValIter it d i kvs.length ep) where
  mem := by simp
  obj := fun i h st b hb => by
    have e : b = it := by simpa using hb
    subst e
    obtain ⟨oi, e, c, dd⟩ := st
    exact ⟨oi, e, fun v z => by rw [dd] at z; cases z⟩
  keep := fun i h h' st k => st.at fun oi e => k it (by simp) oi e
  item := by
    intro X hP hw hK hc i pins s σ H E I hf st hg
    subst hP hw hK
    obtain ⟨hd, hi⟩ := hg
    obtain ⟨f0, f1, f2, f3, f4, f5⟩ := hf it (by simp)
    obtain ⟨hs, hgd, hx, es', ep', vs, hdt, hsz, kv, hm⟩ := I.frzK hd
    obtain ⟨rfl, rfl⟩ := dict_ep hod hdt
    obtain ⟨⟨k, v⟩, hkv⟩ : ∃ p, kvs[i]? = some p := ⟨kvs[i], List.getElem?_eq_getElem hi⟩
    obtain ⟨u, hu, ru⟩ := kv_get kv hkv
    have hl : kvs.length = vs.length := Paired.length kv
    rw [hl] at st
    refine wpAny_pyNext_values_item st hm hu fun h' st' sb => ?_
    have I1 : Inv X pins σ H { s with heap := h' } := I.turned (t' := s.toks) (fun b ob hb e => (sb.2 b hb).trans e) f0 f1 f3 f4 f5
    obtain ⟨oi, e, c, dd⟩ := id st'
    refine ⟨u, rfl, go_of (s := { s with heap := h' }) e c dd (by decide) ⟨v, H, I1, ru, ⟨rfl, k, hkv⟩, ?_, fun b hb => (hf b hb).1⟩⟩
    show h'.IsValIter it d (i + 1) kvs.length _
    rw [hl]
    exact st'
  done := by
    intro X hP hw hK hc i pins s σ H E I hf st hg
    subst hP hw hK
    obtain ⟨hd, hi⟩ := hg
    obtain ⟨f0, f1, f2, f3, f4, f5⟩ := hf it (by simp)
    obtain ⟨hs, hgd, hx, es', ep', vs, hdt, hsz, kv, hm⟩ := I.frzK hd
    obtain ⟨rfl, rfl⟩ := dict_ep hod hdt
    have hl : kvs.length = vs.length := Paired.length kv
    rw [hl] at st
    exact wpAny_pyNext_values_end (I.ok.hd hc) st hm (List.getElem?_eq_none (by omega)) fun h' eb => ⟨rfl, I.turned (t' := s.toks) (fun b ob hb e => eb b ob hb e) f0 f1 f3 f4 f5⟩
  self := fun A i s Q E st h => wpAny_pyIter_valiter st h
theorem turn_items {kvs : List (Key × V)} {elts : List Expr} {kk : Nat} {tpos : Pos} (it : Addr) (hod : o.data = .dict es ep) :
    Turn P w K (.Tuple elts kk tpos) (Iti d o kvs) [it] it (fun i h => ∃ ok ov, IsItemIter h it d i kvs.length ep ok ov) where
  mem := by simp
  obj := fun i h st b hb => by
    have e : b = it := by simpa using hb
    subst e
    obtain ⟨ok, ov, e⟩ := st
    exact ⟨_, e, fun v z => nomatch z⟩
  keep := fun i h h' st k => let ⟨ok, ov, e⟩ := st; ⟨ok, ov, k it (by simp) _ e⟩
  item := by
    intro X hP hw hK hc i pins s σ H E I hf st hg
    subst hP hw hK
    obtain ⟨hd, hi⟩ := hg
    obtain ⟨hs, hgd, hx, es', ep', vs, hdt, hsz, kv, hm⟩ := I.frzK hd
    obtain ⟨rfl, rfl⟩ := dict_ep hod hdt
    obtain ⟨⟨k, v⟩, hkv⟩ : ∃ p, kvs[i]? = some p := ⟨kvs[i], List.getElem?_eq_getElem hi⟩
    obtain ⟨u, hu, ru⟩ := kv_get kv hkv
    have hl : kvs.length = vs.length := Paired.length kv
    obtain ⟨ok, ov, he⟩ := st
    rw [hl] at he
    have hlt : it < s.heap.objs.size := Heap.lt_size he
    refine wpAny_pyNext_items_item he hm hu fun key h' hkey ho hT hz hk => ?_
    refine ⟨_, rfl, wpAny_letOwnedTupleGo_items (s := { s with heap := h' }) ho fun h'' he' sb => ?_⟩
    have hT2 : h''.get? s.heap.objs.size = some { cls := .type "tuple", data := .seq #[key, u] } := (sb.2 _ (Nat.ne_of_gt hlt)).trans hT
    have new : ObjOk X.prog X.w (upd H s.heap.objs.size (.tup [kV k, v])) h'' s.heap.objs.size (.tup [kV k, v]) :=
      ⟨by show 2 ≤ sizeLine; decide, [key, u], .cons (relV_key (show keyIs k key = true from hkey)) (.cons ru .nil), ⟨_, hT2, rfl, _, rfl⟩⟩
    have I1 : Inv X pins σ (upd H s.heap.objs.size (.tup [kV k, v])) { s with heap := h'' } :=
      I.turnedNew (t' := s.toks) (ch := [it]) (fun b ob hb e => (sb.2 b (by simpa using hb)).trans (hk b ob (by simpa using hb) e)) hf (Nat.le_refl _) new
    refine ⟨.ref s.heap.objs.size, _, I1, rfl, ⟨_, k, v, hkv, rfl, I.hok.fresh (Nat.le_refl _), rfl⟩, ⟨key, u, ?_⟩, fun b hb => ?_⟩
    · rw [hl]; exact he'
    · have e : b = it := by simpa using hb
      rw [e, upd_ne (Nat.ne_of_lt hlt)]
      exact (hf it (by simp)).1
  done := by
    intro X hP hw hK hc i pins s σ H E I hf st hg
    subst hP hw hK
    obtain ⟨hd, hi⟩ := hg
    obtain ⟨f0, f1, f2, f3, f4, f5⟩ := hf it (by simp)
    obtain ⟨hs, hgd, hx, es', ep', vs, hdt, hsz, kv, hm⟩ := I.frzK hd
    obtain ⟨rfl, rfl⟩ := dict_ep hod hdt
    have hl : kvs.length = vs.length := Paired.length kv
    obtain ⟨ok, ov, he⟩ := st
    rw [hl] at he
    exact wpAny_pyNext_items_end (I.ok.hd hc) he hm (List.getElem?_eq_none (by omega)) fun h' eb => ⟨rfl, I.turned (t' := s.toks) (fun b ob hb e => eb b ob hb e) f0 f1 f3 f4 f5⟩
  self := fun A i s Q E st h => let ⟨_, _, e⟩ := st; PySem.W.kcp_self e h
end

/-! ### for k in d, d.keys(), d.values(), d.items() -/
/-- the dict is locked (tLock, or by the caller) -/
def iKeys (td : TE) : TI := fun σ H R => td σ H fun x H1 => ∃ d o, x = .ref d ∧ ((∃ kvs, H1 d = some (.frz o (.dK kvs)) ∧ R (Itk d o kvs) H1) ∨ ∃ kvs, H1 d = some (.frz o (.dT kvs)) ∧ R (Itkt d o kvs) H1)
def iVals (td : TE) : TI := fun σ H R => td σ H fun x H1 => ∃ d o kvs, x = .ref d ∧ H1 d = some (.frz o (.dK kvs)) ∧ R (Itd d o kvs) H1
def iItems (td : TE) : TI := fun σ H R => td σ H fun x H1 => ∃ d o kvs, x = .ref d ∧ H1 d = some (.frz o (.dK kvs)) ∧ R (Iti d o kvs) H1
def iKeysM (td : TE) : TI := fun σ H R => td σ H fun x H1 => ∃ d o kvs, x = .ref d ∧ H1 d = some (.frz o (.dK kvs)) ∧ R (Itk d o kvs) H1
section
variable {X : Cx} {tg e : Expr} {td : TE} {apos cpos : Pos}
theorem pi_keys (he : PE X e td) : PI X tg e (iKeys td) := by
  intro pins s σ H R I h
  refine thn (he pins s σ H _ I h) fun u s1 ⟨x, H1, I1, rx, d, o, ex, q⟩ => ?_
  subst ex
  obtain rfl : u = Value.ref d := rx
  rcases q with ⟨kvs, hd, q⟩ | ⟨kvs, hd, q⟩
  · obtain ⟨hs, hgd, hx, es, ep, vs, hdt, hsz, kv, hm⟩ := I1.frzK hd
    refine iter_keys hs hgd hx hdt (pi_one (tk := s1.toks) I1 _ (turn_keys _ hdt) ⟨_, Heap.get?_push_size _ rfl, rfl, ?_⟩ q)
    rw [hsz] <;> rfl
  · obtain ⟨hs, hgd, hx, es, ep, hdt, hsz, ent⟩ := I1.frzT hd
    refine iter_keys hs hgd hx hdt (pi_one (tk := s1.toks) I1 _ (turn_keysT _ hdt) ⟨_, Heap.get?_push_size _ rfl, rfl, ?_⟩ q)
    rw [hsz] <;> rfl
theorem pi_values (he : PE X e td) (hbase : attributeBase e "values" X.env (eval e X.env) = eval e X.env := by rfl) (hline : (apos.endLine == cpos.line) = true := by rfl) : PI X tg (.Call (.Attribute e "values" apos) [] [] cpos) (iVals td) := by
  intro pins s σ H R I h
  refine wpAny_Call_method (T := "dict") (id := "dict.values") hbase rfl hline F.plainAttrs_dict F.slot_dict_values F.type_dict_values (thn (he pins s σ H _ I h) fun u s1 ⟨x, H1, I1, rx, d, o, kvs, ex, hd, q⟩ => ?_)
  subst ex
  obtain rfl : u = Value.ref d := rx
  obtain ⟨hs, hgd, hx, es, ep, vs, hdt, hsz, kv, hm⟩ := I1.frzK hd
  have hl : kvs.length = vs.length := Paired.length kv
  refine ⟨hm.dictOf.typeIs, hm.dictOf.mapOf.noDict, ?_⟩
  have I2 : Inv X pins σ H1 { s1 with heap := s1.heap.push { cls := .type "dict_values", data := .fields #[.ref d] } } := I1.kept (t' := s1.toks) fun b ob q => Heap.get?_push_of_some _ q
  have fin : wpAny (model X.prog X.w) X.A (pyIter (.ref s1.heap.objs.size)) (PIE X pins σ tg R) X.xe { s1 with heap := s1.heap.push { cls := .type "dict_values", data := .fields #[.ref d] } } := by
    refine wpAny_pyIter_values (d := d) (knd := mixKind X.prog X.w) ⟨_, Heap.get?_push_size _ rfl, rfl, rfl⟩ (hm.push _) (pi_one (tk := s1.toks) I2 _ (turn_vals _ hdt) ⟨_, Heap.get?_push_size _ rfl, rfl, ?_⟩ q)
    rw [hl] <;> rfl
  show wpAny _ _ (callWith cpos (.builtin "dict.values") [.ref d] [] []) _ X.xe s1
  exact method_meetsIn F.slot_dict_values F.entry_dict_values rfl (PySem.evalArgs_none ⟨rfl, hm.dictOf.typeIs, F.args_dict_values_1 _, _, meets_dict_values (mixKind X.prog X.w) d hs, ⟨vs, hm.dictOf⟩, fin⟩)
theorem pi_items {elts : List Expr} {kk : Nat} {tpos : Pos} (he : PE X e td) (hbase : attributeBase e "items" X.env (eval e X.env) = eval e X.env := by rfl) (hline : (apos.endLine == cpos.line) = true := by rfl) :
    PI X (.Tuple elts kk tpos) (.Call (.Attribute e "items" apos) [] [] cpos) (iItems td) := by
  intro pins s σ H R I h
  refine wpAny_Call_method (T := "dict") (id := "dict.items") hbase rfl hline F.plainAttrs_dict F.slot_dict_items F.type_dict_items (thn (he pins s σ H _ I h) fun u s1 ⟨x, H1, I1, rx, d, o, kvs, ex, hd, q⟩ => ?_)
  subst ex
  obtain rfl : u = Value.ref d := rx
  obtain ⟨hs, hgd, hx, es, ep, vs, hdt, hsz, kv, hm⟩ := I1.frzK hd
  have hl : kvs.length = vs.length := Paired.length kv
  refine ⟨hm.dictOf.typeIs, hm.dictOf.mapOf.noDict, ?_⟩
  have I2 : Inv X pins σ H1 { s1 with heap := s1.heap.push { cls := .type "dict_items", data := .fields #[.ref d] } } := I1.kept (t' := s1.toks) fun b ob q => Heap.get?_push_of_some _ q
  have fin : wpAny (model X.prog X.w) X.A (pyIter (.ref s1.heap.objs.size)) (PIE X pins σ (.Tuple elts kk tpos) R) X.xe { s1 with heap := s1.heap.push { cls := .type "dict_items", data := .fields #[.ref d] } } := by
    refine wpAny_pyIter_items (d := d) (knd := mixKind X.prog X.w) ⟨_, Heap.get?_push_size _ rfl, rfl, rfl⟩ (hm.push _) (pi_one (tk := s1.toks) I2 _ (turn_items _ hdt) ⟨.none, .none, ?_⟩ q)
    rw [hl]
    exact Heap.get?_push_size _ rfl
  show wpAny _ _ (callWith cpos (.builtin "dict.items") [.ref d] [] []) _ X.xe s1
  exact method_meetsIn F.slot_dict_items F.entry_dict_items rfl (PySem.evalArgs_none ⟨rfl, hm.dictOf.typeIs, F.args_dict_items_1 _, _, meets_dict_items (mixKind X.prog X.w) d hs, ⟨vs, hm.dictOf⟩, fin⟩)
theorem pi_keysM (he : PE X e td) (hbase : attributeBase e "keys" X.env (eval e X.env) = eval e X.env := by rfl) (hline : (apos.endLine == cpos.line) = true := by rfl) : PI X tg (.Call (.Attribute e "keys" apos) [] [] cpos) (iKeysM td) := by
  intro pins s σ H R I h
  refine wpAny_Call_method (T := "dict") (id := "dict.keys") hbase rfl hline F.plainAttrs_dict F.slot_dict_keys F.type_dict_keys (thn (he pins s σ H _ I h) fun u s1 ⟨x, H1, I1, rx, d, o, kvs, ex, hd, q⟩ => ?_)
  subst ex
  obtain rfl : u = Value.ref d := rx
  obtain ⟨hs, hgd, hx, es, ep, vs, hdt, hsz, kv, hm⟩ := I1.frzK hd
  have hl : kvs.length = vs.length := Paired.length kv
  refine ⟨hm.dictOf.typeIs, hm.dictOf.mapOf.noDict, ?_⟩
  have I2 : Inv X pins σ H1 { s1 with heap := s1.heap.push { cls := .type "dict_keys", data := .fields #[.ref d] } } := I1.kept (t' := s1.toks) fun b ob q => Heap.get?_push_of_some _ q
  have fin : wpAny (model X.prog X.w) X.A (pyIter (.ref s1.heap.objs.size)) (PIE X pins σ tg R) X.xe { s1 with heap := s1.heap.push { cls := .type "dict_keys", data := .fields #[.ref d] } } := by
    refine PySem.W.kdl_pyIter_keys (d := d) (knd := mixKind X.prog X.w) ⟨_, Heap.get?_push_size _ rfl, rfl, rfl⟩ (hm.push _) (pi_one (tk := s1.toks) I2 _ (turn_keys _ hdt) ⟨_, Heap.get?_push_size _ rfl, rfl, ?_⟩ q)
    rw [hl] <;> rfl
  show wpAny _ _ (callWith cpos (.builtin "dict.keys") [.ref d] [] []) _ X.xe s1
  exact method_meetsIn F.slot_dict_keys F.entry_dict_keys rfl (PySem.evalArgs_none ⟨rfl, hm.dictOf.typeIs, F.args_dict_keys_1 _, _, PySem.W.kdl_meets_keys (mixKind X.prog X.w) d hs, ⟨vs, hm.dictOf⟩, fin⟩)
end

/-! ### enumerate(list) -/
/-- the list at a as it stands at each turn, each item in a new pair -/
def Ite (K : PySem.W.Frag) (a : Addr) : It :=
  ⟨fun i H => ∃ (xs : List V) (x : V), SqL K H a xs ∧ xs[i]? = some x, fun i H v H' => ∃ T x, v = .ref T ∧ H T = none ∧ H' = upd H T (.tup [.int (i : Nat), x]) ∧ ∀ xs, SqL K H a xs → xs[i]? = some x, fun i H => ∃ xs : List V, SqL K H a xs ∧ xs.length ≤ i⟩
theorem turn_enum {P : Program} {w : World} {K : PySem.W.Frag} {elts : List Expr} {kk : Nat} {tpos : Pos} (a e it : Addr) :
    Turn P w K (.Tuple elts kk tpos) (Ite K a) [e, it] e (fun i h => (∃ old, IsEnum h e it ((i : Nat) : Int) old) ∧ h.IsListIter it a i ∧ e ≠ it) where
  mem := by simp
  obj := fun i h st b hb => by
    obtain ⟨⟨old, he⟩, ⟨o, ho, hc, hd⟩, _⟩ := st
    have e' : b = e ∨ b = it := by simpa using hb
    rcases e' with z | z
    · rw [z]; exact ⟨_, he, fun v q => nomatch q⟩
    · rw [z]; exact ⟨o, ho, fun v q => by rw [hd] at q; cases q⟩
  keep := fun i h h' st k => let ⟨⟨old, he⟩, hi, hne⟩ := st; ⟨⟨old, k e (by simp) _ he⟩, hi.at fun o q => k it (by simp) o q, hne⟩
  item := by
    intro X hP hw hK hc i pins s σ H E I hf st hg
    subst hP hw hK
    obtain ⟨⟨old, he⟩, hit, hne⟩ := st
    obtain ⟨xs, x, hq, hx⟩ := hg
    obtain ⟨its, rv, p, hz⟩ := I.list hq
    obtain ⟨u, hu, ru⟩ := rv.get hx
    have hel : e < s.heap.objs.size := Heap.lt_size he
    have hil : it < s.heap.objs.size := by obtain ⟨_, q, _⟩ := hit; exact Heap.lt_size q
    refine wpAny_pyNext_enum_item he hit p.isList (x := u) (by simpa using hu) hne fun h' ho hit' hT hsz hk => ?_
    refine ⟨_, rfl, wpAny_letOwnedTupleGo_enum (s := { s with heap := h', toks := s.toks + 1 }) ho fun h'' he' sb => ?_⟩
    have hT2 : h''.get? s.heap.objs.size = some { cls := .type "tuple", data := .seq #[.int i s.toks, u] } := (sb.2 _ (Nat.ne_of_gt hel)).trans hT
    have new : ObjOk X.prog X.w (upd H s.heap.objs.size (.tup [.int (i : Nat), x])) h'' s.heap.objs.size (.tup [.int (i : Nat), x]) :=
      ⟨by show 2 ≤ sizeLine; decide, [.int i s.toks, u], .cons ⟨_, rfl⟩ (.cons ru .nil), ⟨_, hT2, rfl, _, rfl⟩⟩
    have I1 : Inv X pins σ (upd H s.heap.objs.size (.tup [.int (i : Nat), x])) { s with heap := h'', toks := s.toks + 1 } :=
      I.turnedNew (ch := [e, it]) (fun b ob hb q => (sb.2 b (fun z => hb (by simp [z]))).trans (hk b ob (fun z => hb (by simp [z])) (fun z => hb (by simp [z])) q)) hf (Nat.le_refl _) new
    refine ⟨.ref s.heap.objs.size, _, I1, rfl, ⟨_, x, rfl, I.hok.fresh (Nat.le_refl _), rfl, fun ys hy => by rw [I.list_inj hy hq]; exact hx⟩, ⟨⟨u, ?_⟩, hit'.at fun o q => (sb.2 it (Ne.symm hne)).trans q, hne⟩, fun b hb => ?_⟩
    · have e1 : ((i + 1 : Nat) : Int) = (i : Int) + 1 := by omega
      rw [e1]; exact he'
    · have hb' : b < s.heap.objs.size := by
        have e' : b = e ∨ b = it := by simpa using hb
        rcases e' with z | z
        · rw [z]; exact hel
        · rw [z]; exact hil
      rw [upd_ne (Nat.ne_of_lt hb')]
      exact (hf b hb).1
  done := by
    intro X hP hw hK hc i pins s σ H E I hf st hg
    subst hP hw hK
    obtain ⟨⟨old, he⟩, hit, hne⟩ := st
    obtain ⟨xs, hq, hx⟩ := hg
    obtain ⟨its, rv, p, hz⟩ := I.list hq
    obtain ⟨f0, f1, f2, f3, f4, f5⟩ := hf it (by simp)
    have hl := rv.length
    exact wpAny_pyNext_enum_end (I.ok.hd hc) he hit p.isList (by simp; omega) fun h' eb => ⟨rfl, I.turned (t' := s.toks) (fun b o hb q => eb b o hb q) f0 f1 f3 f4 f5⟩
  self := fun A i s Q E st h => let ⟨⟨_, he⟩, _⟩ := st; wpAny_pyIter_enum he h
def iEnum (K : PySem.W.Frag) (ta : TA) : TI := fun σ H R => ta σ H fun vs H1 => ∃ a xs, vs = [.ref a] ∧ SqL K H1 a xs ∧ R (Ite K a) H1
theorem pi_enum {X : Cx} {e : Expr} {ta : TA} {p pos tpos : Pos} {elts : List Expr} {kk : Nat} (hg : Gl X "enumerate") (hm : X.mg "enumerate" = none) (ha : PA X [e] ta) (hs : starEach [e] X.env = [(false, eval e X.env)] := by rfl) :
    PI X (.Tuple elts kk tpos) (.Call (.Name "enumerate" p) [e] [] pos) (iEnum X.K ta) := by
  intro pins s σ H R I h
  refine Call_ (ld_blt I hg hm boot_enumerate (PyProof.Rows.callWith_type1 (thn (ha pos pins s σ H _ I h) fun us s1 ⟨vs, H1, I1, r1, q1⟩ => ?_) hs rfl))
  obtain ⟨a, xs, ex, hq, q⟩ := q1
  subst ex
  cases r1 with
  | cons r rr =>
    cases rr
    cases r
    obtain ⟨its, rv, p', hz⟩ := I1.list hq
    refine call_enumerate_list p'.isList fun h' he hit hsz hk => wpAny_pyIter_enum he ?_
    have I2 : Inv X pins σ H1 { s1 with heap := h' } := I1.kept (t' := s1.toks) hk
    refine ⟨s1.heap.objs.size + 1, [s1.heap.objs.size + 1, s1.heap.objs.size], _, _, H1, rfl, I2, turn_enum a (s1.heap.objs.size + 1) s1.heap.objs.size, ⟨⟨.none, he⟩, hit, Nat.succ_ne_self _⟩, fun b hb => ?_, q⟩
    have e' : b = s1.heap.objs.size + 1 ∨ b = s1.heap.objs.size := by simpa using hb
    have hle : s1.heap.objs.size ≤ b := by
      rcases e' with z | z
      · rw [z]; exact Nat.le_add_right _ _
      · rw [z]; exact Nat.le_refl _
    exact I1.fpOk hle (I1.hok.fresh hle)
/-! ### zip(list, list) -/
theorem boot_zip5 : bootBuiltins "zip" = some (.type "zip") := by decide +kernel
/-- the lists at a and b as they stand at each turn, the items in new pairs -/
def Itz (K : PySem.W.Frag) (a b : Addr) : It :=
  ⟨fun i H => ∃ (xs ys : List V) (x y : V), SqL K H a xs ∧ SqL K H b ys ∧ xs[i]? = some x ∧ ys[i]? = some y,
    fun i H v H' => ∃ T x y, v = .ref T ∧ H T = none ∧ H' = upd H T (.tup [x, y]) ∧ (∀ xs, SqL K H a xs → xs[i]? = some x) ∧ ∀ ys, SqL K H b ys → ys[i]? = some y,
    fun i H => ∃ xs ys : List V, SqL K H a xs ∧ SqL K H b ys ∧ (xs.length ≤ i ∨ ys.length ≤ i)⟩
theorem turn_zip {P : Program} {w : World} {K : PySem.W.Frag} {elts : List Expr} {kk : Nat} {tpos : Pos} {a b z TI TO i1 i2 : Addr} (D : ZipApart z TI TO i1 i2 a b) :
    Turn P w K (.Tuple elts kk tpos) (Itz K a b) [z, TI, TO, i1, i2] z (fun i h => IsZip h z TI TO .none ∧ IsPair h TI (.ref i1) (.ref i2) ∧ (∃ x y, IsPair h TO x y) ∧ h.IsListIter i1 a i ∧ h.IsListIter i2 b i) where
  mem := by simp
  obj := fun i h st c hc => by
    obtain ⟨hz, hTI, ⟨x, y, hTO⟩, ⟨o1, e1, _, d1⟩, ⟨o2, e2, _, d2⟩⟩ := st
    have e' : c = z ∨ c = TI ∨ c = TO ∨ c = i1 ∨ c = i2 := by simpa using hc
    rcases e' with q | q | q | q | q
    · rw [q]; exact ⟨_, hz, fun v q => nomatch q⟩
    · rw [q]; exact ⟨_, hTI, fun v q => nomatch q⟩
    · rw [q]; exact ⟨_, hTO, fun v q => nomatch q⟩
    · rw [q]; exact ⟨o1, e1, fun v q => by rw [d1] at q; cases q⟩
    · rw [q]; exact ⟨o2, e2, fun v q => by rw [d2] at q; cases q⟩
  keep := fun i h h' st k => by
    obtain ⟨hz, hTI, ⟨x, y, hTO⟩, h1, h2⟩ := st
    exact ⟨k z (by simp) _ hz, k TI (by simp) _ hTI, ⟨x, y, k TO (by simp) _ hTO⟩, h1.at fun o q => k i1 (by simp) o q, h2.at fun o q => k i2 (by simp) o q⟩
  item := by
    intro X hP hw hK hc i pins s σ H E I hf st hg
    subst hP hw hK
    obtain ⟨hz, hTI, ⟨x0, y0, hTO⟩, h1, h2⟩ := st
    obtain ⟨xs, ys, x, y, hqx, hqy, hx, hy⟩ := hg
    obtain ⟨its, rv, p, _⟩ := I.list hqx
    obtain ⟨its2, rv2, p2, _⟩ := I.list hqy
    obtain ⟨u, hu, ru⟩ := rv.get hx
    obtain ⟨u2, hu2, ru2⟩ := rv2.get hy
    have hzl : z < s.heap.objs.size := Heap.lt_size hz
    refine wpAny_pyNext_zip_item D hz hTI hTO h1 h2 p.isList p2.isList (x := u) (y := u2) (by simpa using hu) (by simpa using hu2) fun h' z' TO' h1' h2' hT hsz hk => ?_
    refine ⟨_, rfl, wpAny_letOwnedTupleGo_zip (s := { s with heap := h' }) z' fun h'' z'' sb => ?_⟩
    have hT2 : h''.get? s.heap.objs.size = some { cls := .type "tuple", data := .seq #[u, u2] } := (sb.2 _ (Nat.ne_of_gt hzl)).trans hT
    have new : ObjOk X.prog X.w (upd H s.heap.objs.size (.tup [x, y])) h'' s.heap.objs.size (.tup [x, y]) :=
      ⟨by show 2 ≤ sizeLine; decide, [u, u2], .cons ru (.cons ru2 .nil), ⟨_, hT2, rfl, _, rfl⟩⟩
    have I1 : Inv X pins σ (upd H s.heap.objs.size (.tup [x, y])) { s with heap := h'' } :=
      I.turnedNew (t' := s.toks) (ch := [z, TI, TO, i1, i2]) (fun c o hb q => (sb.2 c (fun q' => hb (by simp [q']))).trans (hk c o (fun q' => hb (by simp [q'])) (fun q' => hb (by simp [q'])) (fun q' => hb (by simp [q'])) (fun q' => hb (by simp [q'])) q)) hf (Nat.le_refl _) new
    refine ⟨.ref s.heap.objs.size, _, I1, rfl, ⟨_, x, y, rfl, I.hok.fresh (Nat.le_refl _), rfl, fun l hl => by rw [I.list_inj hl hqx]; exact hx, fun l hl => by rw [I.list_inj hl hqy]; exact hy⟩, ⟨z'', ?_, ⟨u, u2, ?_⟩, ?_, ?_⟩, fun c hcm => ?_⟩
    · exact (sb.2 _ D.TIz).trans (hk _ _ D.TIz D.TITO D.TIi1 D.TIi2 hTI)
    · exact (sb.2 _ D.TOz).trans TO'
    · exact h1'.at fun o q => (sb.2 _ D.i1z).trans q
    · exact h2'.at fun o q => (sb.2 _ D.i2z).trans q
    · have hlt : c < s.heap.objs.size := by
        have e' : c = z ∨ c = TI ∨ c = TO ∨ c = i1 ∨ c = i2 := by simpa using hcm
        rcases e' with q | q | q | q | q
        · rw [q]; exact hzl
        · rw [q]; exact Heap.lt_size hTI
        · rw [q]; exact Heap.lt_size hTO
        · rw [q]; obtain ⟨_, e1, _⟩ := h1; exact Heap.lt_size e1
        · rw [q]; obtain ⟨_, e2, _⟩ := h2; exact Heap.lt_size e2
      rw [upd_ne (Nat.ne_of_lt hlt)]
      exact (hf c hcm).1
  done := by
    intro X hP hw hK hc i pins s σ H E I hf st hg
    subst hP hw hK
    obtain ⟨hz, hTI, ⟨x0, y0, hTO⟩, h1, h2⟩ := st
    obtain ⟨xs, ys, hqx, hqy, hend⟩ := hg
    obtain ⟨its, rv, p, _⟩ := I.list hqx
    obtain ⟨its2, rv2, p2, _⟩ := I.list hqy
    have l1 := rv.length
    have l2 := rv2.length
    have he : its.toArray[i]? = none ∨ its2.toArray[i]? = none := by
      rcases hend with q | q
      · exact .inl (by simp; omega)
      · exact .inr (by simp; omega)
    exact wpAny_pyNext_zip_end (I.ok.hd hc) D hz hTI hTO h1 h2 p.isList p2.isList he fun h' hk => ⟨rfl, I.turnedL (t' := s.toks) (ch := [z, TI, TO, i1, i2]) (fun c o hb q =>
      hk c o (fun q' => hb (by simp [q'])) (fun q' => hb (by simp [q'])) (fun q' => hb (by simp [q'])) (fun q' => hb (by simp [q'])) q) hf⟩
  self := fun A i s Q E st h => wpAny_pyIter_zip st.1 h
def iZip (K : PySem.W.Frag) (ta : TA) : TI := fun σ H R => ta σ H fun vs H1 => ∃ a b xs ys, vs = [.ref a, .ref b] ∧ SqL K H1 a xs ∧ SqL K H1 b ys ∧ R (Itz K a b) H1
theorem pi_zip {X : Cx} {e e2 : Expr} {ta : TA} {p pos tpos : Pos} {elts : List Expr} {kk : Nat} (hg : Gl X "zip") (hm : X.mg "zip" = none) (ha : PA X [e, e2] ta)
    (hs : starEach [e, e2] X.env = (false, eval e X.env) :: starEach [e2] X.env := by rfl) (hpl : (backTo pos (starEach [e2] X.env)).any (·.1) = false := by rfl) :
    PI X (.Tuple elts kk tpos) (.Call (.Name "zip" p) [e, e2] [] pos) (iZip X.K ta) := by
  intro pins s σ H R I h
  refine Call_ (ld_blt I hg hm boot_zip5 (PyProof.Rows.callWith_type1 (thn (ha pos pins s σ H _ I h) fun us s1 ⟨vs, H1, I1, r1, q1⟩ => ?_) hs hpl))
  obtain ⟨a, b, xs, ys, ex, hqx, hqy, q⟩ := q1
  subst ex
  cases r1 with
  | cons r rr =>
    cases rr with
    | cons r' rr =>
      cases rr
      cases r
      cases r'
      obtain ⟨its, rv, p1, _⟩ := I1.list hqx
      obtain ⟨its2, rv2, p2, _⟩ := I1.list hqy
      have la : a < s1.heap.objs.size := p1.lt
      have lb : b < s1.heap.objs.size := p2.lt
      refine call_zip_2 p1.isList p2.isList fun h' hz hTI hTO h1 h2 hsz hk => wpAny_pyIter_zip hz ?_
      have I2 : Inv X pins σ H1 { s1 with heap := h' } := I1.kept (t' := s1.toks) hk
      refine ⟨s1.heap.objs.size + 4, [s1.heap.objs.size + 4, s1.heap.objs.size + 2, s1.heap.objs.size + 3, s1.heap.objs.size, s1.heap.objs.size + 1], _, _, H1, rfl, I2, turn_zip (PySem.W.ktu_apart s1.heap.objs.size a b la lb), ⟨hz, hTI, ⟨_, _, hTO⟩, h1, h2⟩, fun c hcm => ?_, q⟩
      have e' : c = s1.heap.objs.size + 4 ∨ c = s1.heap.objs.size + 2 ∨ c = s1.heap.objs.size + 3 ∨ c = s1.heap.objs.size ∨ c = s1.heap.objs.size + 1 := by simpa using hcm
      have hle : s1.heap.objs.size ≤ c := by
        rcases e' with z | z | z | z | z
        · rw [z]; exact Nat.le_add_right _ _
        · rw [z]; exact Nat.le_add_right _ _
        · rw [z]; exact Nat.le_add_right _ _
        · rw [z]; exact Nat.le_refl _
        · rw [z]; exact Nat.le_add_right _ _
      exact I1.fpOk hle (I1.hok.fresh hle)
end L2

section 
namespace Bits
open PySem PyProof.Rows

theorem nat_and_mul_pow (k : Nat) : ∀ a b : Nat, a < 2 ^ k → a &&& (b * 2 ^ k) = 0 := by
  induction k with
  | zero =>
    intro a b h
    have h0 : a = 0 := by
      rw [Nat.pow_zero] at h
      omega
    subst h0
    simp
  | succ k ih =>
    intro a b h
    have hm : (b * 2 ^ (k + 1)) = (b * 2 ^ k) * 2 := by rw [Nat.pow_succ, Nat.mul_assoc]
    have hlt : a / 2 < 2 ^ k := by
      rw [Nat.pow_succ] at h
      generalize 2 ^ k = m at h ⊢
      omega
    have i := ih (a / 2) b hlt
    rw [hm]
    generalize b * 2 ^ k = B at i ⊢
    have e : (a &&& (B * 2)) / 2 = a / 2 &&& (B * 2) / 2 := Nat.and_div_two
    have e2 : (B * 2) / 2 = B := by omega
    have o := @Nat.and_mod_two_eq_one a (B * 2)
    rw [e2, i] at e
    omega

theorem natCast_mul_pow (m k : Nat) : (m : Int) * 2 ^ k = ((m * 2 ^ k : Nat) : Int) := by
  rw [two_pow_cast]
  first
    | exact (Int.natCast_mul _ _).symm
    | simp

/-- low bits a, high part b: (b << k) | a -/
theorem bitOr_join {a b : Int} {k : Nat} (h0 : 0 ≤ a) (h1 : a < 2 ^ k) (hb : 0 ≤ b) : Builtin.bitOr a (b * 2 ^ k) = a + b * 2 ^ k := by
  obtain ⟨n, rfl⟩ := Int.eq_ofNat_of_zero_le h0
  obtain ⟨m, rfl⟩ := Int.eq_ofNat_of_zero_le hb
  have hn : n < 2 ^ k := by
    rw [two_pow_cast] at h1
    omega
  have e : Builtin.bitAnd (n : Int) ((m * 2 ^ k : Nat) : Int) = 0 := by
    rw [bitAnd_pp (by omega) (by omega), Int.toNat_natCast, Int.toNat_natCast, nat_and_mul_pow k n m hn] <;> rfl
  rw [natCast_mul_pow, bitOr_and, e]
  omega
theorem bitOr_join' {a b : Int} {k : Nat} (h0 : 0 ≤ a) (h1 : a < 2 ^ k) (hb : 0 ≤ b) : Builtin.bitOr (b * 2 ^ k) a = a + b * 2 ^ k := by
  rw [bitOr_comm]
  exact bitOr_join h0 h1 hb

/-- x & ((1 << k) - 1) -/
theorem bitAnd_mask {x : Int} (k : Nat) (hx : 0 ≤ x) : Builtin.bitAnd x (2 ^ k - 1) = x % 2 ^ k := by
  obtain ⟨n, rfl⟩ := Int.eq_ofNat_of_zero_le hx
  have hp : 0 < 2 ^ k := Nat.two_pow_pos k
  rw [two_pow_cast]
  have e : ((2 ^ k : Nat) : Int) - 1 = ((2 ^ k - 1 : Nat) : Int) := by
    generalize (2 : Nat) ^ k = m at hp
    omega
  rw [e, bitAnd_pp (by omega) (by omega), Int.toNat_natCast, Int.toNat_natCast, Nat.and_two_pow_sub_one_eq_mod]
  first
    | rfl
    | exact Int.natCast_emod _ _
    | simp

/-- (x >> i) & 1 -/
theorem bit_at {x : Int} (i : Nat) : Builtin.bitAnd (x.fdiv (2 ^ i)) 1 = x / 2 ^ i % 2 := by
  have hp : (0 : Int) ≤ 2 ^ i := by
    rw [two_pow_cast]
    exact Int.natCast_nonneg _
  rw [Int.fdiv_eq_ediv_of_nonneg _ hp, bitAnd_m1]

theorem nat_xor_add_and (m : Nat) : ∀ n : Nat, (m ^^^ n) + 2 * (m &&& n) = m + n := by
  induction m using Nat.strongRecOn with
  | _ m ih =>
    intro n
    by_cases h0 : m = 0
    · subst h0
      simp
    · have ih' := ih (m / 2) (by omega) (n / 2)
      rw [← Nat.xor_div_two, ← Nat.and_div_two] at ih'
      have o1 := @Nat.xor_mod_two_eq_one m n
      have a1 := @Nat.and_mod_two_eq_one m n
      omega

theorem bitXor_pp {x y : Int} (hx : 0 ≤ x) (hy : 0 ≤ y) : Builtin.bitXor x y = ((x.toNat ^^^ y.toNat : Nat) : Int) := by
  have e := nat_xor_add_and x.toNat y.toNat
  rw [bitXor_and, bitAnd_pp hx hy]
  omega
theorem bitOr_pp {x y : Int} (hx : 0 ≤ x) (hy : 0 ≤ y) : Builtin.bitOr x y = ((x.toNat ||| y.toNat : Nat) : Int) := by
  have e := nat_or_add_and x.toNat y.toNat
  rw [bitOr_and, bitAnd_pp hx hy]
  omega
theorem bitXor_nonneg {x y : Int} (hx : 0 ≤ x) (hy : 0 ≤ y) : 0 ≤ Builtin.bitXor x y := by
  rw [bitXor_pp hx hy]
  omega
theorem bitOr_nonneg {x y : Int} (hx : 0 ≤ x) (hy : 0 ≤ y) : 0 ≤ Builtin.bitOr x y := by
  rw [bitOr_pp hx hy]
  omega

end Bits
end 

section 
namespace TL
open PySem PySem.Builtin PySem.Builtin.Str PySem.StrLaws

abbrev tl (x : Str) : List Nat := x.cps.toList
theorem len_tl (x : Str) : x.length = (tl x).length := by simp [tl, Str.length]
theorem ext_tl {x y : Str} (h : tl x = tl y) : x = y := Str.ext' (Array.toList_inj.mp h)
theorem tl_append (x y : Str) : tl (x ++ y) = tl x ++ tl y := by
  show (x ++ y).cps.toList = _
  rw [Str.cps_append, Array.toList_append]
theorem tl_mk (l : List Nat) : tl ⟨l.toArray⟩ = l := rfl
theorem mk_tl (x : Str) : (⟨(tl x).toArray⟩ : Str) = x := ext_tl rfl
theorem map_tl_inj : ∀ {l m : List Str}, l.map tl = m.map tl → l = m
  | [], [], _ => rfl
  | [], _ :: _, h => by simp at h
  | _ :: _, [], h => by simp at h
  | x :: l, y :: m, h => by
    rw [List.map_cons, List.map_cons] at h
    injection h with h1 h2
    rw [ext_tl h1, map_tl_inj h2]
theorem tl_ofString (s : String) : tl (Str.ofString s) = s.toList.map Char.toNat := PyProof.Rows.signs_ofString s

/-! ### the list functions -/
/-- S stands at the head of l -/
def pre (S l : List Nat) : Bool := l.take S.length == S
/-- l cut at each S from the left; k signs are still to be passed over -/
def spl (S : List Nat) : Nat → List Nat → List Nat → List (List Nat)
  | _, acc, [] => [acc]
  | 0, acc, c :: r => if pre S (c :: r) = true then acc :: spl S (S.length - 1) [] r else spl S 0 (acc ++ [c]) r
  | k + 1, acc, _ :: r => spl S k acc r
/-- what stands before the first S, and behind it -/
def par (S : List Nat) : List Nat → List Nat → Option (List Nat × List Nat)
  | _, [] => none
  | acc, c :: r => if pre S (c :: r) = true then some (acc, (c :: r).drop S.length) else par S (acc ++ [c]) r

theorem spl_nil (S : List Nat) (k : Nat) (acc : List Nat) : spl S k acc [] = [acc] := by cases k <;> rfl
theorem spl_hit {S acc r : List Nat} {c : Nat} (h : pre S (c :: r) = true) : spl S 0 acc (c :: r) = acc :: spl S (S.length - 1) [] r := by
  show (if pre S (c :: r) = true then acc :: spl S (S.length - 1) [] r else spl S 0 (acc ++ [c]) r) = _
  rw [if_pos h]
theorem spl_miss {S acc r : List Nat} {c : Nat} (h : pre S (c :: r) = false) : spl S 0 acc (c :: r) = spl S 0 (acc ++ [c]) r := by
  show (if pre S (c :: r) = true then acc :: spl S (S.length - 1) [] r else spl S 0 (acc ++ [c]) r) = _
  rw [if_neg (by rw [h]; exact Bool.false_ne_true)]
theorem spl_pass (S : List Nat) : ∀ (k : Nat) (acc l : List Nat), spl S k acc l = spl S 0 acc (l.drop k)
  | 0, _, _ => by rw [List.drop_zero]
  | k + 1, acc, [] => by rw [List.drop_nil, spl_nil, spl_nil]
  | k + 1, acc, c :: r => by
    show spl S k acc r = spl S 0 acc (r.drop k)
    exact spl_pass S k acc r
theorem par_hit {S acc r : List Nat} {c : Nat} (h : pre S (c :: r) = true) : par S acc (c :: r) = some (acc, (c :: r).drop S.length) := by
  show (if pre S (c :: r) = true then some (acc, (c :: r).drop S.length) else par S (acc ++ [c]) r) = _
  rw [if_pos h]
theorem par_miss {S acc r : List Nat} {c : Nat} (h : pre S (c :: r) = false) : par S acc (c :: r) = par S (acc ++ [c]) r := by
  show (if pre S (c :: r) = true then some (acc, (c :: r).drop S.length) else par S (acc ++ [c]) r) = _
  rw [if_neg (by rw [h]; exact Bool.false_ne_true)]

theorem pre_nil {S : List Nat} (hS : S ≠ []) : pre S [] = false := by
  cases S with
  | nil => exact absurd rfl hS
  | cons s S => rfl
theorem pre_of_head {s c : Nat} (S r : List Nat) (h : c ≠ s) : pre (s :: S) (c :: r) = false := by
  cases hp : pre (s :: S) (c :: r) with
  | false => rfl
  | true =>
    have e : (c :: r).take (s :: S).length = s :: S := eq_of_beq hp
    rw [List.length_cons, List.take_succ_cons] at e
    injection e with e1 e2
    exact absurd e1 h
theorem pre_self (S r : List Nat) : pre S (S ++ r) = true := by
  show ((S ++ r).take S.length == S) = true
  have e : (S ++ r).take S.length = S := List.take_left
  rw [e] <;> exact beq_self_eq_true S

theorem getElem_drop_cons {L : List Nat} {a : Nat} (h : a < L.length) : ∃ c, L.drop a = c :: L.drop (a + 1) := ⟨L[a], List.drop_eq_getElem_cons h⟩
theorem spl_run (S L : List Nat) : ∀ (m a : Nat) (acc : List Nat), a + m ≤ L.length → (∀ k, a ≤ k → k < a + m → pre S (L.drop k) = false) →
    spl S 0 acc (L.drop a) = spl S 0 (acc ++ (L.drop a).take m) (L.drop (a + m))
  | 0, a, acc, _, _ => by rw [List.take_zero, List.append_nil, Nat.add_zero]
  | m + 1, a, acc, h, hn => by
    have hlt : a < L.length := by omega
    obtain ⟨c, e⟩ := getElem_drop_cons hlt
    have h0 := hn a (Nat.le_refl _) (by omega)
    have ih := spl_run S L m (a + 1) (acc ++ [c]) (by omega) (fun k h1 h2 => hn k (by omega) (by omega))
    have e2 : a + 1 + m = a + (m + 1) := by omega
    rw [e2] at ih
    rw [e] at h0
    rw [e, spl_miss h0, ih, List.take_succ_cons, List.append_assoc] <;> rfl
theorem par_run (S L : List Nat) : ∀ (m a : Nat) (acc : List Nat), a + m ≤ L.length → (∀ k, a ≤ k → k < a + m → pre S (L.drop k) = false) →
    par S acc (L.drop a) = par S (acc ++ (L.drop a).take m) (L.drop (a + m))
  | 0, a, acc, _, _ => by rw [List.take_zero, List.append_nil, Nat.add_zero]
  | m + 1, a, acc, h, hn => by
    have hlt : a < L.length := by omega
    obtain ⟨c, e⟩ := getElem_drop_cons hlt
    have h0 := hn a (Nat.le_refl _) (by omega)
    have ih := par_run S L m (a + 1) (acc ++ [c]) (by omega) (fun k h1 h2 => hn k (by omega) (by omega))
    have e2 : a + 1 + m = a + (m + 1) := by omega
    rw [e2] at ih
    rw [e] at h0
    rw [e, par_miss h0, ih, List.take_succ_cons, List.append_assoc] <;> rfl
theorem drop_two (L : List Nat) (a b : Nat) : (L.drop a).drop b = L.drop (a + b) := by
  first
    | rw [List.drop_drop]
    | rw [List.drop_drop, Nat.add_comm]
theorem spl_at {S L : List Nat} (hS : S ≠ []) {c : Nat} {acc : List Nat} (h : pre S (L.drop c) = true) : spl S 0 acc (L.drop c) = acc :: spl S 0 [] (L.drop (c + S.length)) := by
  rw [← drop_two]
  cases e : L.drop c with
  | nil => rw [e, pre_nil hS] at h; cases h
  | cons d r =>
    rw [e] at h
    rw [spl_hit h, spl_pass]
    cases S with
    | nil => exact absurd rfl hS
    | cons s S => rfl
theorem par_at {S L : List Nat} (hS : S ≠ []) {c : Nat} {acc : List Nat} (h : pre S (L.drop c) = true) : par S acc (L.drop c) = some (acc, L.drop (c + S.length)) := by
  rw [← drop_two]
  cases e : L.drop c with
  | nil => rw [e, pre_nil hS] at h; cases h
  | cons d r =>
    rw [e] at h
    rw [par_hit h]

/-! ### the model's split and partition are these -/
theorem at_iff {x y : Str} (hy : tl y ≠ []) (i : Nat) : At x y x.length i ↔ pre (tl y) ((tl x).drop i) = true := by
  have hx := len_tl x
  have hl := len_tl y
  constructor
  · intro h
    have h2 := h.2
    rw [subAt_eq, hl] at h2
    exact h2
  · intro h
    have e : ((tl x).drop i).take (tl y).length = tl y := eq_of_beq h
    have e1 := congrArg List.length e
    rw [List.length_take, List.length_drop] at e1
    have e2 : 0 < (tl y).length := List.length_pos_iff.mpr hy
    refine ⟨by omega, ?_⟩
    rw [subAt_eq, hl]
    exact h
theorem no_at {x y : Str} (hy : tl y ≠ []) {i : Nat} (h : ¬ At x y x.length i) : pre (tl y) ((tl x).drop i) = false := by
  cases hp : pre (tl y) ((tl x).drop i) with
  | false => rfl
  | true => exact absurd ((at_iff hy i).mpr hp) h
theorem len1 {y : Str} (hy : tl y ≠ []) : 1 ≤ y.length := by
  have e2 : 0 < (tl y).length := List.length_pos_iff.mpr hy
  rw [len_tl y]
  exact e2
theorem tl_strSub (x : Str) (i j : Nat) : tl (strSub x i j) = ((tl x).drop i).take (j - i) := strSub_toList x i j
theorem tl_strSub_end (x : Str) (i : Nat) : tl (strSub x i x.length) = (tl x).drop i := by
  rw [tl_strSub, len_tl x]
  exact List.take_of_length_le (by rw [List.length_drop] <;> omega)

theorem parts_spl {x y : Str} (hy : tl y ≠ []) : ∀ (cuts : List Nat) (a f : Nat), a ≤ (tl x).length → ChainG x y x.length a cuts f → (∀ k, f ≤ k → ¬ At x y x.length k) →
    (partsFrom x y.length a cuts).map tl = spl (tl y) 0 [] ((tl x).drop a)
  | [], a, f, ha, h, hn => by
    have e : f = a := h
    subst e
    show [tl (strSub x f x.length)] = _
    have run := spl_run (tl y) (tl x) ((tl x).length - f) f [] (by omega) (fun k h1 _ => no_at hy (hn k h1))
    have e2 : f + ((tl x).length - f) = (tl x).length := by omega
    rw [e2, List.drop_length, spl_nil, List.nil_append, List.take_of_length_le (by rw [List.length_drop] <;> omega)] at run
    rw [run, tl_strSub_end]
  | c :: r, a, f, ha, h, hn => by
    obtain ⟨h1, h2, h3, h4⟩ := h
    have hc : c + y.length ≤ x.length := h2.1
    have hx := len_tl x
    have hl := len_tl y
    have ih := parts_spl hy r (c + y.length) f (by omega) h4 hn
    show tl (strSub x a c) :: (partsFrom x y.length (c + y.length) r).map tl = _
    have run := spl_run (tl y) (tl x) (c - a) a [] (by omega) (fun k k1 k2 => no_at hy (h3 k k1 (by omega)))
    have e2 : a + (c - a) = c := by omega
    rw [e2, List.nil_append, spl_at hy ((at_iff hy c).mp h2)] at run
    rw [run, ih, tl_strSub, hl]

/-- hk: by kind_ok where the separator is plain -/
theorem split_spl (x y : Str) (hy : tl y ≠ []) (hk : ¬ Builtin.Str.strKind x < Builtin.Str.strKind y) : (Txt.split x y).map tl = spl (tl y) 0 [] (tl x) := by
  obtain ⟨f, g, hn⟩ := occ_tight x y (len1 hy)
  have key := parts_spl hy _ 0 f (Nat.zero_le _) g hn
  rw [List.drop_zero] at key
  have none_case : occurrences x y 0 x.length (x.length + 1) = [] → [x].map tl = spl (tl y) 0 [] (tl x) := fun ho => by
    rw [ho] at key
    rw [← key]
    show [tl x] = [tl (strSub x 0 x.length)]
    rw [sub_whole]
  unfold Txt.split
  by_cases h1 : (decide (x.length < y.length) || decide (Builtin.Str.strKind x < Builtin.Str.strKind y)) = true
  · rw [if_pos h1]
    have hlt : x.length < y.length := by
      simp only [Bool.or_eq_true, decide_eq_true_eq] at h1
      rcases h1 with h | h
      · exact h
      · exact absurd h hk
    refine none_case ?_
    cases ho : occurrences x y 0 x.length (x.length + 1) with
    | nil => rfl
    | cons c r =>
      rw [ho] at g
      have hc : c + y.length ≤ x.length := g.2.1.1
      omega
  · rw [if_neg h1]
    by_cases h2 : (occurrences x y 0 x.length (x.length + 1)).isEmpty = true
    · rw [if_pos h2]
      exact none_case (List.isEmpty_iff.mp h2)
    · rw [if_neg h2, partsBetween_eq]
      exact key
theorem kind_ok {x y : Str} (h : y.cps.all (· < 256) = true) : ¬ Builtin.Str.strKind x < Builtin.Str.strKind y := by
  have e : Builtin.Str.strKind y = 1 := by unfold PySem.Builtin.Str.strKind; rw [if_pos h]
  rw [e]
  unfold PySem.Builtin.Str.strKind
  split
  · omega
  · split <;> omega

theorem partition_par (x y : Str) (hy : tl y ≠ []) :
    Txt.partition x y = (match par (tl y) [] (tl x) with | some (a, b) => (⟨a.toArray⟩, y, ⟨b.toArray⟩) | none => (x, Str.empty, Str.empty)) := by
  have hx := len_tl x
  have hl := len_tl y
  rcases PyProof.Rows.partition_whole x y with ⟨e, hn⟩ | ⟨i, e, hi, hn⟩
  · have run := par_run (tl y) (tl x) (tl x).length 0 [] (by omega) (fun k _ _ => no_at hy (hn k))
    rw [List.drop_zero, Nat.zero_add, List.drop_length] at run
    rw [e, run] <;> rfl
  · have hb : i + y.length ≤ x.length := hi.1
    have run := par_run (tl y) (tl x) i 0 [] (by omega) (fun k _ k2 => no_at hy (hn k (by omega)))
    rw [List.drop_zero, Nat.zero_add, List.nil_append, par_at hy ((at_iff hy i).mp hi)] at run
    rw [e, run]
    have e1 : strSub x 0 i = ⟨((tl x).take i).toArray⟩ := ext_tl (by rw [tl_strSub, List.drop_zero, Nat.sub_zero])
    have e2 : strSub x (i + y.length) x.length = ⟨((tl x).drop (i + (tl y).length)).toArray⟩ := ext_tl (by rw [tl_strSub_end, hl])
    rw [e1, e2] <;> rfl

/-! ### computing spl and par -/
/-- a part that the separator does not begin in, then the separator -/
theorem spl_part {S p rest acc : List Nat} (hS : S ≠ []) (h : ∀ i, i < p.length → pre S ((p ++ (S ++ rest)).drop i) = false) :
    spl S 0 acc (p ++ (S ++ rest)) = (acc ++ p) :: spl S 0 [] rest := by
  have run := spl_run S (p ++ (S ++ rest)) p.length 0 acc (by rw [List.length_append]; omega) (fun k _ k2 => h k (by omega))
  have ed : (p ++ (S ++ rest)).drop p.length = S ++ rest := List.drop_left
  rw [List.drop_zero, Nat.zero_add, List.take_left] at run
  rw [run, spl_at hS (by rw [ed]; exact pre_self S rest), ← drop_two, ed, List.drop_left]
theorem spl_last {S p acc : List Nat} (h : ∀ i, i < p.length → pre S (p.drop i) = false) : spl S 0 acc p = [acc ++ p] := by
  have run := spl_run S p p.length 0 acc (by omega) (fun k _ k2 => h k (by omega))
  rw [List.drop_zero, Nat.zero_add, List.drop_length, spl_nil, List.take_length] at run
  exact run
theorem par_part {S p rest acc : List Nat} (hS : S ≠ []) (h : ∀ i, i < p.length → pre S ((p ++ (S ++ rest)).drop i) = false) :
    par S acc (p ++ (S ++ rest)) = some (acc ++ p, rest) := by
  have run := par_run S (p ++ (S ++ rest)) p.length 0 acc (by rw [List.length_append]; omega) (fun k _ k2 => h k (by omega))
  have ed : (p ++ (S ++ rest)).drop p.length = S ++ rest := List.drop_left
  rw [List.drop_zero, Nat.zero_add, List.take_left] at run
  rw [run, par_at hS (by rw [ed]; exact pre_self S rest), ← drop_two, ed, List.drop_left]
theorem par_none {S p acc : List Nat} (h : ∀ i, i < p.length → pre S (p.drop i) = false) : par S acc p = none := by
  have run := par_run S p p.length 0 acc (by omega) (fun k _ k2 => h k (by omega))
  rw [List.drop_zero, Nat.zero_add, List.drop_length] at run
  exact run
/-- the separator's first sign is not in the part -/
theorem free_of {s : Nat} {S p q : List Nat} (h : s ∉ p) : ∀ i, i < p.length → pre (s :: S) ((p ++ q).drop i) = false := fun i hi => by
  have hlt : i < (p ++ q).length := by rw [List.length_append]; omega
  have e : (p ++ q).drop i = (p ++ q)[i] :: (p ++ q).drop (i + 1) := List.drop_eq_getElem_cons hlt
  rw [e]
  refine pre_of_head _ _ fun z => h ?_
  have e1 : (p ++ q)[i] = p[i] := List.getElem_append_left hi
  rw [← z, e1]
  exact List.getElem_mem hi
theorem spl_part1 {s : Nat} {S p rest acc : List Nat} (h : s ∉ p) : spl (s :: S) 0 acc (p ++ (s :: S ++ rest)) = (acc ++ p) :: spl (s :: S) 0 [] rest :=
  spl_part (by simp) (free_of h)
theorem spl_last1 {s : Nat} {S p acc : List Nat} (h : s ∉ p) : spl (s :: S) 0 acc p = [acc ++ p] := spl_last fun i hi => by
  have z := free_of (S := S) (q := []) h i hi
  rw [List.append_nil] at z
  exact z
theorem par_part1 {s : Nat} {S p rest acc : List Nat} (h : s ∉ p) : par (s :: S) acc (p ++ (s :: S ++ rest)) = some (acc ++ p, rest) := par_part (by simp) (free_of h)
theorem par_none1 {s : Nat} {S p acc : List Nat} (h : s ∉ p) : par (s :: S) acc p = none := par_none fun i hi => by
  have z := free_of (S := S) (q := []) h i hi
  rw [List.append_nil] at z
  exact z

/-- joined lists -/
def joinL (S : List Nat) : List (List Nat) → List Nat
  | [] => []
  | [p] => p
  | p :: q :: r => p ++ (S ++ joinL S (q :: r))
theorem tl_join (y : Str) : ∀ parts : List Str, tl (Str.join y parts) = joinL (tl y) (parts.map tl)
  | [] => rfl
  | [_] => rfl
  | x :: z :: r => by
    show tl (x ++ y ++ Str.join y (z :: r)) = tl x ++ (tl y ++ joinL (tl y) ((z :: r).map tl))
    rw [tl_append, tl_append, tl_join y (z :: r), List.append_assoc]
theorem spl_join {s : Nat} {S : List Nat} : ∀ {parts : List (List Nat)}, parts ≠ [] → (∀ p ∈ parts, s ∉ p) → spl (s :: S) 0 [] (joinL (s :: S) parts) = parts
  | [], h, _ => absurd rfl h
  | [p], _, hp => by
    show spl (s :: S) 0 [] p = [p]
    rw [spl_last1 (hp p (List.mem_singleton.mpr rfl)), List.nil_append]
  | p :: q :: r, _, hp => by
    show spl (s :: S) 0 [] (p ++ (s :: S ++ joinL (s :: S) (q :: r))) = p :: q :: r
    rw [spl_part1 (hp p (List.mem_cons_self ..)), List.nil_append, spl_join (by simp) fun z hz => hp z (List.mem_cons_of_mem _ hz)]
theorem join_eq (y : Str) (parts : List Str) : Txt.join y parts = Str.join y parts := glued_eq_join y parts
/-- THE READ-BACK: a joined text, split -/
theorem split_join {y : Str} {s : Nat} {S : List Nat} (ey : tl y = s :: S) (hk : y.cps.all (· < 256) = true) {parts : List Str} (hne : parts ≠ []) (hp : ∀ p ∈ parts, s ∉ tl p) :
    Txt.split (Txt.join y parts) y = parts := by
  refine map_tl_inj ?_
  rw [split_spl _ y (by rw [ey]; simp) (kind_ok hk), join_eq, tl_join, ey]
  refine spl_join (fun e => hne (List.map_eq_nil_iff.mp e)) fun p h => ?_
  obtain ⟨z, hz, rfl⟩ := List.mem_map.mp h
  exact hp z hz
/-- a text cut at its first separator -/
theorem partition_app {y : Str} {s : Nat} {S : List Nat} (ey : tl y = s :: S) {a b : Str} (h : s ∉ tl a) : Txt.partition (a ++ y ++ b) y = (a, y, b) := by
  rw [partition_par _ y (by rw [ey]; simp), tl_append, tl_append, List.append_assoc, ey, par_part1 h]
  show ((⟨([] ++ tl a).toArray⟩ : Str), y, (⟨(tl b).toArray⟩ : Str)) = _
  rw [List.nil_append, mk_tl, mk_tl]
theorem partition_none {y : Str} {s : Nat} {S : List Nat} (ey : tl y = s :: S) {a : Str} (h : s ∉ tl a) : Txt.partition a y = (a, Str.empty, Str.empty) := by
  rw [partition_par _ y (by rw [ey]; simp), ey, par_none1 h]

/-! ### digits -/
/-- the signs of a number -/
def numL (n : Nat) : List Nat := (Nat.toDigits 10 n).map Char.toNat
theorem tl_num (n : Nat) : tl (Str.ofString (toString ((n : Nat) : Int))) = numL n := PySem.W.KIN.signs_num n
theorem digitChar_nat : ∀ d : Nat, d < 10 → (Nat.digitChar d).toNat = 48 + d := by decide
theorem numL_lt {n : Nat} (h : n < 10) : numL n = [48 + n] := by
  unfold numL
  rw [Nat.toDigits_of_lt_base h]
  show [(Nat.digitChar n).toNat] = _
  rw [digitChar_nat n h]
theorem numL_step {n : Nat} (h : 10 ≤ n) : numL n = numL (n / 10) ++ [48 + n % 10] := by
  have hm : n % 10 < 10 := Nat.mod_lt n (by decide)
  have t : Nat.toDigits 10 (n / 10) ++ Nat.toDigits 10 (n % 10) = Nat.toDigits 10 (10 * (n / 10) + n % 10) := Nat.toDigits_append_toDigits (by decide) (by omega) hm
  rw [Nat.div_add_mod] at t
  show (Nat.toDigits 10 n).map Char.toNat = _
  rw [← t, List.map_append, Nat.toDigits_of_lt_base hm]
  show (Nat.toDigits 10 (n / 10)).map Char.toNat ++ [(Nat.digitChar (n % 10)).toNat] = _
  rw [digitChar_nat _ hm] <;> rfl
theorem numL_digits (n : Nat) : NumText.AllDigits (numL n) := by
  induction n using Nat.strongRecOn with
  | _ n ih =>
    by_cases h : n < 10
    · rw [numL_lt h]
      intro c hc
      rw [List.mem_singleton.mp hc]
      omega
    · rw [numL_step (by omega)]
      intro c hc
      rcases List.mem_append.mp hc with hc | hc
      · exact ih (n / 10) (by omega) c hc
      · have hm : n % 10 < 10 := Nat.mod_lt n (by decide)
        rw [List.mem_singleton.mp hc]
        omega
theorem numL_ne (n : Nat) : numL n ≠ [] := by
  by_cases h : n < 10
  · rw [numL_lt h]
    simp
  · rw [numL_step (by omega)]
    simp
theorem numL_free {n s : Nat} (h : s < 48 ∨ 57 < s) : s ∉ numL n := fun hm => by
  have r := numL_digits n s hm
  omega
theorem numL_val (n : Nat) : NumText.digitsVal (numL n) = n := PySem.W.KIN.val_back n
theorem numL_inj {m n : Nat} (h : numL m = numL n) : m = n := by
  have e := congrArg NumText.digitsVal h
  rw [numL_val, numL_val] at e
  exact e
theorem numL_len {n k : Nat} (hk : 0 < k) (h : n < 10 ^ k) : (numL n).length ≤ k := by
  have z := PyProof.Rows.toString_length_le (v := (n : Int)) (by omega) hk (by
    have e : ((10 : Int) ^ k) = ((10 ^ k : Nat) : Int) := by
      first
        | exact (Int.natCast_pow 10 k).symm
        | simp
    rw [e]
    first | exact Int.ofNat_lt.mpr h | omega)
  rw [len_tl, tl_num] at z
  exact z
/-- int(str(n)) -/
theorem int_num {n : Nat} (h : (numL n).length ≤ 4300) : intText? (Str.ofString (toString ((n : Nat) : Int))) = some (n : Int) := by
  have e := intText_digits (x := Str.ofString (toString ((n : Nat) : Int))) (by rw [show (Str.ofString (toString ((n : Nat) : Int))).cps.toList = numL n from tl_num n]; exact numL_digits n)
    (by rw [show (Str.ofString (toString ((n : Nat) : Int))).cps.toList = numL n from tl_num n]; exact numL_ne n) (by rw [len_tl, tl_num]; exact h)
  rw [show (Str.ofString (toString ((n : Nat) : Int))).cps.toList = numL n from tl_num n, numL_val] at e
  exact e
/-- a program's own loop over digits: total = total * 10 + (ord(sign) - ord("0")) -/
theorem fold_digits : ∀ (l : List Nat) (a : Nat), NumText.AllDigits l → l.foldl (fun (t : Int) (c : Nat) => t * 10 + ((c : Int) - 48)) (a : Int) = ((l.foldl (fun acc c => acc * 10 + (c - 48)) a : Nat) : Int)
  | [], _, _ => rfl
  | c :: r, a, h => by
    have hc := h.head
    rw [List.foldl_cons, List.foldl_cons, ← fold_digits r _ h.tail]
    have e : (a : Int) * 10 + ((c : Int) - 48) = ((a * 10 + (c - 48) : Nat) : Int) := by omega
    rw [e]
theorem fold_num (n : Nat) : (numL n).foldl (fun (t : Int) (c : Nat) => t * 10 + ((c : Int) - 48)) 0 = (n : Int) := by
  have e := fold_digits (numL n) 0 (numL_digits n)
  have v := numL_val n
  unfold NumText.digitsVal at v
  rw [v] at e
  exact e

/-! ### words: x.split() -/
def wstep (st : List (List Nat) × List Nat) (c : Nat) : List (List Nat) × List Nat :=
  if Unicode.isSpace c = true then (if st.2 = [] then st else (st.1 ++ [st.2], [])) else (st.1, st.2 ++ [c])
def wfin (st : List (List Nat) × List Nat) : List (List Nat) := if st.2 = [] then st.1 else st.1 ++ [st.2]
theorem len0_tl (x : Str) : x.length = 0 ↔ tl x = [] := by
  rw [len_tl]
  exact List.length_eq_zero_iff
theorem step_tl (ws : List Str) (u : Str) (c : Nat) : ((KWd.step (ws, u) c).1.map tl, tl (KWd.step (ws, u) c).2) = wstep (ws.map tl, tl u) c := by
  by_cases hc : Unicode.isSpace c = true
  · by_cases hu : u.length = 0
    · have a : KWd.step (ws, u) c = (ws, u) := (if_pos hc).trans (if_pos hu)
      have b : wstep (ws.map tl, tl u) c = (ws.map tl, tl u) := (if_pos hc).trans (if_pos ((len0_tl u).mp hu))
      rw [a, b] <;> rfl
    · have a : KWd.step (ws, u) c = (ws ++ [u], Str.empty) := (if_pos hc).trans (if_neg hu)
      have b : wstep (ws.map tl, tl u) c = (ws.map tl ++ [tl u], []) := (if_pos hc).trans (if_neg fun z => hu ((len0_tl u).mpr z))
      rw [a, b]
      show ((ws ++ [u]).map tl, ([] : List Nat)) = _
      rw [List.map_append] <;> rfl
  · have a : KWd.step (ws, u) c = (ws, u ++ ⟨#[c]⟩) := if_neg hc
    have b : wstep (ws.map tl, tl u) c = (ws.map tl, tl u ++ [c]) := if_neg hc
    rw [a, b]
    show (ws.map tl, tl (u ++ ⟨#[c]⟩)) = _
    rw [tl_append] <;> rfl
theorem scan_tl : ∀ (l : List Nat) (st : KWd.St), ((l.foldl KWd.step st).1.map tl, tl (l.foldl KWd.step st).2) = l.foldl wstep (st.1.map tl, tl st.2)
  | [], _ => rfl
  | c :: r, (ws, u) => by
    show ((r.foldl KWd.step (KWd.step (ws, u) c)).1.map tl, tl (r.foldl KWd.step (KWd.step (ws, u) c)).2) = r.foldl wstep (wstep (ws.map tl, tl u) c)
    exact (scan_tl r (KWd.step (ws, u) c)).trans (congrArg (fun z => r.foldl wstep z) (step_tl ws u c))
theorem fin_tl : ∀ q : KWd.St, (KWd.fin q).map tl = wfin (q.1.map tl, tl q.2)
  | (ws, u) => by
    show (if u.length = 0 then ws else ws ++ [u]).map tl = (if tl u = [] then ws.map tl else ws.map tl ++ [tl u])
    by_cases hu : u.length = 0
    · rw [if_pos hu, if_pos ((len0_tl u).mp hu)]
    · rw [if_neg hu, if_neg (fun z => hu ((len0_tl u).mpr z)), List.map_append] <;> rfl
theorem words_tl (x : Str) : (Txt.words x).map tl = wfin ((tl x).foldl wstep ([], [])) := by
  rw [KWd.words_scan]
  exact (fin_tl (KWd.scan x)).trans (congrArg wfin (scan_tl (tl x) ([], Str.empty)))
/-- a run of signs that are no blanks -/
theorem wfold_word : ∀ (p : List Nat) (ws : List (List Nat)) (u : List Nat), (∀ c ∈ p, Unicode.isSpace c = false) → p.foldl wstep (ws, u) = (ws, u ++ p)
  | [], ws, u, _ => by rw [List.append_nil] <;> rfl
  | c :: r, ws, u, h => by
    have hc := h c (List.mem_cons_self ..)
    rw [List.foldl_cons]
    have e : wstep (ws, u) c = (ws, u ++ [c]) := if_neg (by rw [hc]; exact Bool.false_ne_true)
    rw [e, wfold_word r ws (u ++ [c]) fun d hd => h d (List.mem_cons_of_mem _ hd), List.append_assoc] <;> rfl
theorem isSpace_plain {c : Nat} (h1 : 33 ≤ c) (h2 : c ≤ 126) : Unicode.isSpace c = false := PySem.W.KWk.nosp h1 h2
/-- words joined by one blank -/
theorem wfold_join : ∀ (ps : List (List Nat)) (ws : List (List Nat)), ps ≠ [] → (∀ p ∈ ps, p ≠ [] ∧ ∀ c ∈ p, Unicode.isSpace c = false) → wfin ((joinL [32] ps).foldl wstep (ws, [])) = ws ++ ps
  | [], _, h, _ => absurd rfl h
  | [p], ws, _, h => by
    obtain ⟨h1, h2⟩ := h p (List.mem_singleton.mpr rfl)
    show wfin (p.foldl wstep (ws, [])) = _
    rw [wfold_word p ws [] h2, List.nil_append]
    exact if_neg h1
  | p :: q :: r, ws, _, h => by
    obtain ⟨h1, h2⟩ := h p (List.mem_cons_self ..)
    show wfin ((p ++ ([32] ++ joinL [32] (q :: r))).foldl wstep (ws, [])) = _
    rw [List.foldl_append, wfold_word p ws [] h2, List.nil_append, List.foldl_append]
    have e : [32].foldl wstep (ws, p) = (ws ++ [p], []) := by
      have hs : Unicode.isSpace 32 = true := by decide +kernel
      have a : wstep (ws, p) 32 = (if p = [] then (ws, p) else (ws ++ [p], [])) := if_pos hs
      exact a.trans (if_neg h1)
    rw [e, wfold_join (q :: r) (ws ++ [p]) (by simp) fun z hz => h z (List.mem_cons_of_mem _ hz), List.append_assoc] <;> rfl
end TL
end 

namespace L2
open PySem PySem.Spec PyProof.Rows

theorem notLong {n : Nat} (h : n ≤ 16777216) : Builtin.Str.tooLong n = false := by
  have e : (2 : Nat) ^ 24 = 16777216 := by decide
  unfold Builtin.Str.tooLong sizeLine
  exact decide_eq_false (by omega)

/-- a list of texts, of numbered texts -/
theorem vals_strs : ∀ l : List (Str × Tok), Vals ((l.map (·.1)).map V.str) (strValues l)
  | [] => .nil
  | p :: r => .cons ⟨p.2, rfl⟩ (vals_strs r)
theorem strs_of_vals : ∀ {ys : List Str} {us : List Value}, Vals (ys.map V.str) us → StrsAre us ys
  | [], _, .nil => .nil
  | y :: ys, _, .cons r t => by
    obtain ⟨k, rfl⟩ := r
    exact .cons y k (strs_of_vals t)

/-- a new list of texts, tracked -/
def rNewStrs (ys : List Str) : Hp → VK → Prop := fun H Q => ∀ p, H p = none → Q (.ref p) (upd H p (.lst (ys.map V.str)))

section
variable {X : Cx} {pins : List (Addr × Obj)} {σ : St} {H : Hp} {s : Shared} {Q : VK}
theorem laid_strs {l : List (Str × Tok)} {ys : List Str} {k : Nat} (I : Inv X pins σ H s) (e : l.map (·.1) = ys) (hz : ys.length ≤ sizeLine) (h : rNewStrs ys H Q) :
    EP X pins σ Q (.ref s.heap.objs.size) { s with toks := k, heap := s.heap.push { cls := .type "list", data := .seq (strValues l).toArray } } := by
  have hp := I.hok.fresh (Nat.le_refl _)
  refine ⟨.ref s.heap.objs.size, upd H s.heap.objs.size (.lst (ys.map V.str)), I.laid (fun b u q => Heap.get?_push_of_some _ q) (Nat.le_refl _) ⟨by rw [List.length_map]; exact hz, strValues l, _, ?_, Heap.get?_push_size _ rfl⟩, rfl, h _ hp⟩
  rw [← e]
  exact vals_strs l
theorem laid_parts {x y z : Str} {t u v : Tok} {k : Nat} (I : Inv X pins σ H s) (h : ∀ p, H p = none → Q (.ref p) (upd H p (.tup [.str x, .str y, .str z]))) :
    EP X pins σ Q (.ref s.heap.objs.size) { s with toks := k, heap := s.heap.push { cls := .type "tuple", data := .seq [Value.str x t, .str y u, .str z v].toArray } } := by
  have hp := I.hok.fresh (Nat.le_refl _)
  exact ⟨.ref s.heap.objs.size, upd H s.heap.objs.size (.tup [.str x, .str y, .str z]), I.laid (fun b u q => Heap.get?_push_of_some _ q) (Nat.le_refl _)
    ⟨by show 3 ≤ sizeLine; decide, [Value.str x t, .str y u, .str z v], .cons ⟨t, rfl⟩ (.cons ⟨u, rfl⟩ (.cons ⟨v, rfl⟩ .nil)), _, Heap.get?_push_size _ rfl, rfl, _, rfl⟩, rfl, h _ hp⟩
end

section
variable {X : Cx}

/-- x.split(sep) -/
theorem mt_split : MtR X "str.split" (fun x xs H Q => ∃ a b, x = .str a ∧ xs = [.str b] ∧ (b.length == 0) = false ∧ a.length + 2 ≤ sizeLine ∧ rNewStrs (Txt.split a b) H Q) := by
  intro pins s σ H x xs v us Q I rx rs h
  obtain ⟨a, b, rfl, rfl, hb, hz, h⟩ := h
  obtain ⟨t, rfl⟩ := rx
  cases rs with
  | cons r1 rs =>
    cases rs
    obtain ⟨u, rfl⟩ := r1
    have hl : (Txt.split a b).length ≤ sizeLine := Nat.le_trans (PyProof.Rows.split_le a b) hz
    have hn : (Builtin.Str.partsBetween a (Builtin.Str.occurrences a b 0 a.length (a.length + 1)) b.length).length ≤ sizeLine := by
      have e1 := StrLaws.occ_length_le a b 0 a.length (a.length + 1)
      rw [length_partsBetween]; omega
    cases h1 : (decide (a.length < b.length) || decide (Builtin.Str.strKind a < Builtin.Str.strKind b))
    · cases hf : (Builtin.Str.occurrences a b 0 a.length (a.length + 1)).isEmpty
      · refine call_meets F.slot_str_split (typeIs_str _ _ _) F.entry_str_split (F.args_str_split_2 _ _) (meets_str_split_sep a b t u h1 hb hf (by omega) hn) ?_
        show EP X pins σ Q (.ref s.heap.objs.size) { s with toks := _, heap := s.heap.push { cls := .type "list", data := .seq (strsFrom s.toks (Builtin.Str.partsBetween a (Builtin.Str.occurrences a b 0 a.length (a.length + 1)) b.length)).toArray } }
        rw [strsFrom_eq]
        exact laid_strs (ys := Txt.split a b) I ((numbered_texts _ _).trans ((if_neg (ne_true_of_eq_false h1)).trans (if_neg (ne_true_of_eq_false hf))).symm) hl h
      · refine call_meets F.slot_str_split (typeIs_str _ _ _) F.entry_str_split (F.args_str_split_2 _ _) (meets_str_split_not_found a b t u h1 hb hf) ?_
        exact laid_strs (l := [(a, t)]) (ys := Txt.split a b) (k := s.toks) I ((if_neg (ne_true_of_eq_false h1)).trans (if_pos hf)).symm hl h
    · refine call_meets F.slot_str_split (typeIs_str _ _ _) F.entry_str_split (F.args_str_split_2 _ _) (meets_str_split_cannot_occur a b t u h1) ?_
      exact laid_strs (l := [(a, t)]) (ys := Txt.split a b) (k := s.toks) I (if_pos h1).symm hl h

theorem words_le (x : Str) : (Txt.words x).length ≤ x.length + 1 := by
  have e1 := StrLaws.words_weight x
  omega
/-- x.split() -/
theorem mt_words : MtR X "str.split" (fun x xs H Q => ∃ a, x = .str a ∧ xs = [] ∧ a.length + 2 ≤ sizeLine ∧ rNewStrs (Txt.words a) H Q) := by
  intro pins s σ H x xs v us Q I rx rs h
  obtain ⟨a, rfl, rfl, hz, h⟩ := h
  obtain ⟨t, rfl⟩ := rx
  cases rs
  have hl : (Txt.words a).length ≤ sizeLine := Nat.le_trans (words_le a) (by omega)
  have hn : (Builtin.Str.spaceWords a (a.length + 1)).length ≤ sizeLine := by
    have e1 := (StrLaws.sw_weight a).1
    have e2 := StrLaws.len_le_wsum (Builtin.Str.spaceWords a (a.length + 1))
    omega
  refine call_meets F.slot_str_split (typeIs_str _ _ _) F.entry_str_split (F.args_str_split_1 _) (meets_str_split_space a t (by omega) hn) ?_
  cases hw : Builtin.Str.spaceWords a (a.length + 1) == [(0, a.length)]
  · simp only [Bool.false_eq_true, if_false]
    rw [strsFrom_eq]
    exact laid_strs (ys := Txt.words a) I ((numbered_texts _ _).trans (if_neg (ne_true_of_eq_false hw)).symm) hl h
  · simp only [if_true]
    exact laid_strs (l := [(a, t)]) (ys := Txt.words a) (k := s.toks) I (if_pos hw).symm hl h

/-- x.partition(sep) -/
theorem mt_partition : MtR X "str.partition" (fun x xs H Q => ∃ a b, x = .str a ∧ xs = [.str b] ∧ (b.length == 0) = false ∧ a.length ≤ sizeLine ∧
    ∀ p, H p = none → Q (.ref p) (upd H p (.tup [.str (Txt.partition a b).1, .str (Txt.partition a b).2.1, .str (Txt.partition a b).2.2]))) := by
  intro pins s σ H x xs v us Q I rx rs h
  obtain ⟨a, b, rfl, rfl, hb, hz, h⟩ := h
  obtain ⟨t, rfl⟩ := rx
  cases rs with
  | cons r1 rs =>
    cases rs
    obtain ⟨u, rfl⟩ := r1
    refine call_meets F.slot_str_partition (typeIs_str _ _ _) F.entry_str_partition (F.args_str_partition_2 _ _) (meets_str_partition a b t u hb hz) ?_
    unfold Txt.partition at h
    revert h
    cases Builtin.Str.occurrences a b 0 a.length 1 with
    | nil => intro h; exact laid_parts I h
    | cons i r => intro h; exact laid_parts I h

/-- sep.join(a list | a tuple of texts) -/
theorem mt_join : MtR X "str.join" (fun x xs H Q => ∃ a p, ∃ ys : List Str, x = .str a ∧ xs = [.ref p] ∧ (SqL X.K H p (ys.map V.str) ∨ SqT X.K H p (ys.map V.str)) ∧
    (ys.map (·.length)).sum + ys.length * a.length ≤ 16777216 ∧ Q (.str (Txt.join a ys)) H) := by
  intro pins s σ H x xs v us Q I rx rs h
  obtain ⟨a, p, ys, rfl, rfl, hp, hz, h⟩ := h
  obtain ⟨t, rfl⟩ := rx
  cases rs with
  | cons r1 rs =>
    cases rs
    cases r1
    rcases hp with hp | hp
    · obtain ⟨its, r, ⟨o, n, ho, hc, _, hd⟩, _⟩ := I.list hp
      exact PyProof.Rows.join_list (items := its.toArray) ⟨o, ho, hc, n, hd⟩ (by rw [List.toList_toArray]; exact strs_of_vals r) hz fun t' k => ⟨.str _, H, I.tok k, ⟨t', rfl⟩, h⟩
    · obtain ⟨its, r, ht, _⟩ := I.tuple hp
      exact PyProof.Rows.join_tuple (items := its.toArray) ht (by rw [List.toList_toArray]; exact strs_of_vals r) hz fun t' k => ⟨.str _, H, I.tok k, ⟨t', rfl⟩, h⟩

/-! ### of a text alone -/
theorem mt0 {id : String} {C : Str → Prop} {g : Str → V} (rule : ∀ (a : Str) (t : Tok) (s : Shared) (Q : Value → Shared → Prop), C a → (∀ (u : Value) (k : Nat), RelV (g a) u → Q u { s with toks := k }) →
    wpAny (model X.prog X.w) X.A (call (.builtin id) [.str a t]) Q X.xe s) : MtR X id (fun x xs H Q => ∃ a, x = .str a ∧ xs = [] ∧ C a ∧ Q (g a) H) := by
  intro pins s σ H x xs v us Q I rx rs h
  obtain ⟨a, rfl, rfl, hc, h⟩ := h
  obtain ⟨t, rfl⟩ := rx
  cases rs
  exact rule a t s _ hc fun u k r => ⟨g a, H, I.tok k, r, h⟩
theorem mt_strip : MtR X "str.strip" (fun x xs H Q => ∃ a, x = .str a ∧ xs = [] ∧ a.length ≤ sizeLine ∧ Q (.str (Txt.strip a)) H) :=
  mt0 (C := fun a => a.length ≤ sizeLine) (g := fun a => .str (Txt.strip a)) fun _ _ _ _ hc h => PySem.SC.strip (fun t' k => h _ k ⟨t', rfl⟩) hc
theorem mt_lstrip : MtR X "str.lstrip" (fun x xs H Q => ∃ a, x = .str a ∧ xs = [] ∧ a.length ≤ sizeLine ∧ Q (.str (Txt.lstrip a)) H) :=
  mt0 (C := fun a => a.length ≤ sizeLine) (g := fun a => .str (Txt.lstrip a)) fun _ _ _ _ hc h => PySem.SC.lstrip (fun t' k => h _ k ⟨t', rfl⟩) hc
theorem mt_rstrip : MtR X "str.rstrip" (fun x xs H Q => ∃ a, x = .str a ∧ xs = [] ∧ a.length ≤ sizeLine ∧ Q (.str (Txt.rstrip a)) H) :=
  mt0 (C := fun a => a.length ≤ sizeLine) (g := fun a => .str (Txt.rstrip a)) fun _ _ _ _ hc h => PySem.SC.rstrip (fun t' k => h _ k ⟨t', rfl⟩) hc
theorem mt_lower : MtR X "str.lower" (fun x xs H Q => ∃ a, x = .str a ∧ xs = [] ∧ a.length ≤ 5592405 ∧ Q (.str (Txt.lower a)) H) :=
  mt0 (C := fun a => a.length ≤ 5592405) (g := fun a => .str (Txt.lower a)) fun a _ s _ hc h =>
    PySem.SC.lower (notLong (by have h1 : a.length ≤ 5592405 := hc; have := PyProof.Rows.len_lower a; omega)) (h _ (s.toks + 1) ⟨_, rfl⟩)
theorem mt_upper : MtR X "str.upper" (fun x xs H Q => ∃ a, x = .str a ∧ xs = [] ∧ a.length ≤ 5592405 ∧ Q (.str (Txt.upper a)) H) :=
  mt0 (C := fun a => a.length ≤ 5592405) (g := fun a => .str (Txt.upper a)) fun a _ s _ hc h =>
    PySem.SC.upper (notLong (by have h1 : a.length ≤ 5592405 := hc; have := PyProof.Rows.len_upper a; omega)) (h _ (s.toks + 1) ⟨_, rfl⟩)
theorem mt_isdigit : MtR X "str.isdigit" (fun x xs H Q => ∃ a, x = .str a ∧ xs = [] ∧ True ∧ Q (.bl (Txt.isdigit a)) H) :=
  mt0 (C := fun _ => True) (g := fun a => .bl (Txt.isdigit a)) fun _ _ s _ _ h => PySem.SC.isdigit (h _ s.toks rfl)
theorem mt_isalpha : MtR X "str.isalpha" (fun x xs H Q => ∃ a, x = .str a ∧ xs = [] ∧ True ∧ Q (.bl (Txt.isalpha a)) H) :=
  mt0 (C := fun _ => True) (g := fun a => .bl (Txt.isalpha a)) fun _ _ s _ _ h => PySem.SC.isalpha (h _ s.toks rfl)
theorem mt_isalnum : MtR X "str.isalnum" (fun x xs H Q => ∃ a, x = .str a ∧ xs = [] ∧ True ∧ Q (.bl (Txt.isalnum a)) H) :=
  mt0 (C := fun _ => True) (g := fun a => .bl (Txt.isalnum a)) fun _ _ s _ _ h => PySem.SC.isalnum (h _ s.toks rfl)
theorem mt_isspace : MtR X "str.isspace" (fun x xs H Q => ∃ a, x = .str a ∧ xs = [] ∧ True ∧ Q (.bl (Txt.isspace a)) H) :=
  mt0 (C := fun _ => True) (g := fun a => .bl (Txt.isspace a)) fun _ _ s _ _ h => PySem.SC.isspace (h _ s.toks rfl)

/-! ### of a text and a text -/
theorem mt1 {id : String} {g : Str → Str → V} (rule : ∀ (a b : Str) (t u : Tok) (s : Shared) (Q : Value → Shared → Prop), (∀ (v : Value) (k : Nat), RelV (g a b) v → Q v { s with toks := k }) →
    wpAny (model X.prog X.w) X.A (call (.builtin id) [.str a t, .str b u]) Q X.xe s) : MtR X id (fun x xs H Q => ∃ a b, x = .str a ∧ xs = [.str b] ∧ Q (g a b) H) := by
  intro pins s σ H x xs v us Q I rx rs h
  obtain ⟨a, b, rfl, rfl, h⟩ := h
  obtain ⟨t, rfl⟩ := rx
  cases rs with
  | cons r1 rs =>
    cases rs
    obtain ⟨u, rfl⟩ := r1
    exact rule a b t u s _ fun v k r => ⟨g a b, H, I.tok k, r, h⟩
theorem mt_startswith : MtR X "str.startswith" (fun x xs H Q => ∃ a b, x = .str a ∧ xs = [.str b] ∧ Q (.bl (Txt.startswith a b)) H) :=
  mt1 (g := fun a b => .bl (Txt.startswith a b)) fun _ _ _ _ s _ h => PySem.SC.startswith (h _ s.toks rfl)
theorem mt_endswith : MtR X "str.endswith" (fun x xs H Q => ∃ a b, x = .str a ∧ xs = [.str b] ∧ Q (.bl (Txt.endswith a b)) H) :=
  mt1 (g := fun a b => .bl (Txt.endswith a b)) fun _ _ _ _ s _ h => PySem.SC.endswith (h _ s.toks rfl)
theorem mt_find : MtR X "str.find" (fun x xs H Q => ∃ a b, x = .str a ∧ xs = [.str b] ∧ Q (.int (Txt.find a b)) H) :=
  mt1 (g := fun a b => .int (Txt.find a b)) fun _ _ _ _ s _ h => PySem.SC.find (h _ (s.toks + 1) ⟨_, rfl⟩)
theorem mt_count : MtR X "str.count" (fun x xs H Q => ∃ a b, x = .str a ∧ xs = [.str b] ∧ Q (.int (Txt.count a b)) H) :=
  mt1 (g := fun a b => .int (Txt.count a b)) fun _ _ _ _ s _ h => PySem.SC.count (h _ (s.toks + 1) ⟨_, rfl⟩)

/-- int(text) -/
theorem call_int_str : CallR X (.type "int") (fun xs H Q => ∃ a n, xs = [.str a] ∧ PySem.intText? a = some n ∧ a.length ≤ 640 ∧ Q (.int n) H) := by
  intro pins s σ H xs us Q I rs h
  obtain ⟨a, n, rfl, hn, hl, h⟩ := h
  cases rs with
  | cons r1 rs =>
    cases rs
    obtain ⟨t, rfl⟩ := r1
    exact PySem.W.KIN.call_text hn hl ⟨.int n, H, I.tok _, ⟨_, rfl⟩, h⟩
end

section
variable {X : Cx} {o e : Expr} {to te : TE}
def tM0 (r : V → List V → Hp → VK → Prop) (to : TE) : TE := fun σ H Q => to σ H fun x H1 => (∃ a, x = .str a) ∧ r x [] H1 Q
def tM1 (r : V → List V → Hp → VK → Prop) (to te : TE) : TE := fun σ H Q => to σ H fun x H1 => (∃ a, x = .str a) ∧ te σ H1 fun y H2 => r x [y] H2 Q
theorem pe_m0 {id : String} {name : Str} {apos pos : Pos} {r : V → List V → Hp → VK → Prop} (slot : Slot "str" name id) (ty : typeOf (.builtin id) = pure (.type "method_descriptor")) (rule : MtR X id r) (ho : PE X o to)
    (hbase : attributeBase o name X.env (eval o X.env) = eval o X.env := by rfl) (hline : (apos.endLine == pos.line) = true := by rfl) : PE X (.Call (.Attribute o name apos) [] [] pos) (tM0 r to) := by
  intro pins s σ H Q I h
  refine PySem.Call_method0 hbase hline (thn (ho pins s σ H _ I h) fun v s1 ⟨x, H1, I1, r1, q1⟩ => ?_)
  obtain ⟨⟨a, rfl⟩, q1⟩ := q1
  obtain ⟨t, rfl⟩ := _root_.id r1
  exact ⟨"str", _, F.plainAttrs_str, slot, ty, typeIs_str _ _ _, (fun _ e => nomatch e), Calls.callWith_builtin rfl (PySem.evalArgs_none (rule pins s1 σ H1 _ [] _ [] Q I1 r1 .nil q1))⟩
theorem pe_m1 {id : String} {name : Str} {apos pos : Pos} {r : V → List V → Hp → VK → Prop} (slot : Slot "str" name id) (ty : typeOf (.builtin id) = pure (.type "method_descriptor")) (rule : MtR X id r) (ho : PE X o to) (he : PE X e te)
    (hs : starEach [e] X.env = [(false, eval e X.env)] := by rfl) (hbase : attributeBase o name X.env (eval o X.env) = eval o X.env := by rfl) (hline : (apos.endLine == pos.line) = true := by rfl) :
    PE X (.Call (.Attribute o name apos) [e] [] pos) (tM1 r to te) := by
  intro pins s σ H Q I h
  refine PySem.Call_method1 hbase hs hline (thn (ho pins s σ H _ I h) fun v s1 ⟨x, H1, I1, r1, q1⟩ => ?_)
  obtain ⟨⟨a, rfl⟩, q1⟩ := q1
  obtain ⟨t, rfl⟩ := _root_.id r1
  refine ⟨"str", _, F.plainAttrs_str, slot, ty, typeIs_str _ _ _, (fun _ e => nomatch e), Calls.callWith_builtin rfl (Calls.evalArgs_plain (Calls.spliced_cons ?_))⟩
  exact thn (he pins s1 σ H1 _ I1 q1) fun u s2 ⟨y, H2, I2, r2, q2⟩ => Calls.spliced_nil (rule pins s2 σ H2 _ [y] _ [u] Q I2 r1 (.cons r2 .nil) q2)

theorem pe_split {apos pos : Pos} (ho : PE X o to) (he : PE X e te) (hs : starEach [e] X.env = [(false, eval e X.env)] := by rfl) (hbase : attributeBase o "split" X.env (eval o X.env) = eval o X.env := by rfl) (hline : (apos.endLine == pos.line) = true := by rfl) :
    PE X (.Call (.Attribute o "split" apos) [e] [] pos) (tM1 (fun x xs H Q => ∃ a b, x = .str a ∧ xs = [.str b] ∧ (b.length == 0) = false ∧ a.length + 2 ≤ sizeLine ∧ rNewStrs (Txt.split a b) H Q) to te) :=
  pe_m1 F.slot_str_split F.type_str_split mt_split ho he hs hbase hline
theorem pe_words {apos pos : Pos} (ho : PE X o to) (hbase : attributeBase o "split" X.env (eval o X.env) = eval o X.env := by rfl) (hline : (apos.endLine == pos.line) = true := by rfl) :
    PE X (.Call (.Attribute o "split" apos) [] [] pos) (tM0 (fun x xs H Q => ∃ a, x = .str a ∧ xs = [] ∧ a.length + 2 ≤ sizeLine ∧ rNewStrs (Txt.words a) H Q) to) :=
  pe_m0 F.slot_str_split F.type_str_split mt_words ho hbase hline
theorem pe_partition {apos pos : Pos} (ho : PE X o to) (he : PE X e te) (hs : starEach [e] X.env = [(false, eval e X.env)] := by rfl) (hbase : attributeBase o "partition" X.env (eval o X.env) = eval o X.env := by rfl) (hline : (apos.endLine == pos.line) = true := by rfl) :
    PE X (.Call (.Attribute o "partition" apos) [e] [] pos) (tM1 (fun x xs H Q => ∃ a b, x = .str a ∧ xs = [.str b] ∧ (b.length == 0) = false ∧ a.length ≤ sizeLine ∧
      ∀ p, H p = none → Q (.ref p) (upd H p (.tup [.str (Txt.partition a b).1, .str (Txt.partition a b).2.1, .str (Txt.partition a b).2.2]))) to te) :=
  pe_m1 F.slot_str_partition F.type_str_partition mt_partition ho he hs hbase hline
theorem pe_join {apos pos : Pos} (ho : PE X o to) (he : PE X e te) (hs : starEach [e] X.env = [(false, eval e X.env)] := by rfl) (hbase : attributeBase o "join" X.env (eval o X.env) = eval o X.env := by rfl) (hline : (apos.endLine == pos.line) = true := by rfl) :
    PE X (.Call (.Attribute o "join" apos) [e] [] pos) (tM1 (fun x xs H Q => ∃ a p, ∃ ys : List Str, x = .str a ∧ xs = [.ref p] ∧ (SqL X.K H p (ys.map V.str) ∨ SqT X.K H p (ys.map V.str)) ∧
      (ys.map (·.length)).sum + ys.length * a.length ≤ 16777216 ∧ Q (.str (Txt.join a ys)) H) to te) :=
  pe_m1 F.slot_str_join F.type_str_join mt_join ho he hs hbase hline
theorem pe_strip {apos pos : Pos} (ho : PE X o to) (hbase : attributeBase o "strip" X.env (eval o X.env) = eval o X.env := by rfl) (hline : (apos.endLine == pos.line) = true := by rfl) :
    PE X (.Call (.Attribute o "strip" apos) [] [] pos) (tM0 (fun x xs H Q => ∃ a, x = .str a ∧ xs = [] ∧ a.length ≤ sizeLine ∧ Q (.str (Txt.strip a)) H) to) :=
  pe_m0 F.slot_str_strip F.type_str_strip mt_strip ho hbase hline
theorem pe_lower {apos pos : Pos} (ho : PE X o to) (hbase : attributeBase o "lower" X.env (eval o X.env) = eval o X.env := by rfl) (hline : (apos.endLine == pos.line) = true := by rfl) :
    PE X (.Call (.Attribute o "lower" apos) [] [] pos) (tM0 (fun x xs H Q => ∃ a, x = .str a ∧ xs = [] ∧ a.length ≤ 5592405 ∧ Q (.str (Txt.lower a)) H) to) :=
  pe_m0 F.slot_str_lower F.type_str_lower mt_lower ho hbase hline
theorem pe_upper {apos pos : Pos} (ho : PE X o to) (hbase : attributeBase o "upper" X.env (eval o X.env) = eval o X.env := by rfl) (hline : (apos.endLine == pos.line) = true := by rfl) :
    PE X (.Call (.Attribute o "upper" apos) [] [] pos) (tM0 (fun x xs H Q => ∃ a, x = .str a ∧ xs = [] ∧ a.length ≤ 5592405 ∧ Q (.str (Txt.upper a)) H) to) :=
  pe_m0 F.slot_str_upper F.type_str_upper mt_upper ho hbase hline
end
end L2

namespace L2
open PySem PySem.Spec PyProof.Rows

section
variable {X : Cx}
theorem op_le_str : OpR X (compareOp .LtE) (fun x y H Q => ∃ i j, x = .str i ∧ y = .str j ∧ Q (.bl (!decide (j.cps.toList < i.cps.toList))) H) := by
  intro pins s σ H x y v u Q I rx ry h
  obtain ⟨i, j, rfl, rfl, q⟩ := h
  obtain ⟨t, rfl⟩ := rx
  obtain ⟨t', rfl⟩ := ry
  exact PySem.P.le_str (fin_bl I q rfl)
theorem op_gt_str : OpR X (compareOp .Gt) (fun x y H Q => ∃ i j, x = .str i ∧ y = .str j ∧ Q (.bl (decide (j.cps.toList < i.cps.toList))) H) := by
  intro pins s σ H x y v u Q I rx ry h
  obtain ⟨i, j, rfl, rfl, q⟩ := h
  obtain ⟨t, rfl⟩ := rx
  obtain ⟨t', rfl⟩ := ry
  exact PySem.P.gt_str (fin_bl I q rfl)
theorem op_ge_str : OpR X (compareOp .GtE) (fun x y H Q => ∃ i j, x = .str i ∧ y = .str j ∧ Q (.bl (!decide (i.cps.toList < j.cps.toList))) H) := by
  intro pins s σ H x y v u Q I rx ry h
  obtain ⟨i, j, rfl, rfl, q⟩ := h
  obtain ⟨t, rfl⟩ := rx
  obtain ⟨t', rfl⟩ := ry
  exact PySem.P.ge_str (fin_bl I q rfl)
/-- one sign in a text -/
theorem op_in_sign : OpR X (compareOp .In) (fun x y H Q => ∃ (c : Nat) (z : Str), x = .str ⟨#[c]⟩ ∧ y = .str z ∧ Q (.bl (decide (c ∈ z.cps.toList))) H) := by
  intro pins s σ H x y v u Q I rx ry h
  obtain ⟨c, z, rfl, rfl, q⟩ := h
  obtain ⟨t, rfl⟩ := rx
  obtain ⟨t', rfl⟩ := ry
  exact PyProof.Rows.in_str (fin_bl I q (PySem.StrLaws.found_one z c).symm)
theorem op_notIn_sign : OpR X (compareOp .NotIn) (fun x y H Q => ∃ (c : Nat) (z : Str), x = .str ⟨#[c]⟩ ∧ y = .str z ∧ Q (.bl (!decide (c ∈ z.cps.toList))) H) := by
  intro pins s σ H x y v u Q I rx ry h
  obtain ⟨c, z, rfl, rfl, q⟩ := h
  obtain ⟨t, rfl⟩ := rx
  obtain ⟨t', rfl⟩ := ry
  exact PyProof.Rows.notIn_str (fin_bl I q (congrArg Bool.not (PySem.StrLaws.found_one z c).symm))
end

/-! ### slices of a text -/
theorem IsPart.raw {v : Value} {o : Option Int} (p : IsPart v o) : ∃ l : Option (Int × Tok), v = partValue l ∧ l.map (·.1) = o := by
  cases p with
  | none => exact ⟨none, rfl, rfl⟩
  | int i t => exact ⟨some (i, t), rfl, rfl⟩

/-- a part, clipped, as the text's slice reckons it -/
def clipS (n d : Nat) : Option Int → Int
  | none => (d : Int)
  | some i => max 0 (min (if i < 0 then i + (n : Int) else i) (n : Int))
theorem clipS_eq (n d : Nat) (o : Option Int) : clipS n d o = ((HT.sIx n d o : Nat) : Int) := by
  cases o with
  | none => rfl
  | some v =>
    show max (0 : Int) (min (if v < 0 then v + (n : Int) else v) (n : Int)) = (((if v < 0 then (v + (n : Int)).toNat else min v.toNat n) : Nat) : Int)
    by_cases hv : v < 0
    · simp only [if_pos hv]
      omega
    · simp only [if_neg hv]
      omega
theorem sidx_clip (a b : Option Int) (n : Nat) : Builtin.Str.strSliceIndices a b 1 n = sliceRange (clipS n 0 a) (clipS n n b) 1 := by
  have h1 : ((1 : Int) > 0) = True := by simp
  cases a <;> cases b <;> first
    | rfl
    | (simp only [Builtin.Str.strSliceIndices, clipS, h1, if_true]; rfl)
    | simp [Builtin.Str.strSliceIndices, clipS]
theorem sidx (a b : Option Int) (n : Nat) : Builtin.Str.strSliceIndices a b 1 n = (List.range (HT.sIx n n b - HT.sIx n 0 a)).map (fun k => HT.sIx n 0 a + k) := by
  rw [sidx_clip, clipS_eq, clipS_eq]
  generalize HT.sIx n 0 a = p
  generalize HT.sIx n n b = q
  simp only [sliceRange, show ((1 : Int) > 0) = True from by simp, if_true]
  by_cases hlt : (p : Int) < q
  · have e3 : (((q : Int) - p + 1 - 1) / 1).toNat = q - p := by first | omega | (simp; done) | (simp; omega)
    simp only [hlt, if_true, e3]
    refine List.map_congr_left fun k _ => ?_
    omega
  · have : q - p = 0 := by omega
    simp [hlt, this]

/-- z[lo:hi] -/
def cutS (z : Str) (lo hi : Option Int) : Str :=
  ⟨((z.cps.toList.drop (HT.sIx z.length 0 lo)).take (HT.sIx z.length z.length hi - HT.sIx z.length 0 lo)).toArray⟩
theorem sliceText_cut (z : Str) (lo hi : Option Int) : PySem.StrLaws.sliceText z lo hi = cutS z lo hi := by
  have h1 : HT.sIx z.length 0 lo ≤ z.length := HT.sIx_le _ _ (Nat.zero_le _) _
  have h2 : HT.sIx z.length z.length hi ≤ z.length := HT.sIx_le _ _ (Nat.le_refl _) _
  have hp : HT.sIx z.length 0 lo ≤ max (HT.sIx z.length 0 lo) (HT.sIx z.length z.length hi) := Nat.le_max_left _ _
  have hq : max (HT.sIx z.length 0 lo) (HT.sIx z.length z.length hi) ≤ z.length := Nat.max_le.mpr ⟨h1, h2⟩
  have hd : max (HT.sIx z.length 0 lo) (HT.sIx z.length z.length hi) - HT.sIx z.length 0 lo = HT.sIx z.length z.length hi - HT.sIx z.length 0 lo := by omega
  have e : Builtin.Str.strSliceIndices lo hi 1 z.length =
      Builtin.Str.strSliceIndices (some ((HT.sIx z.length 0 lo : Nat) : Int)) (some ((max (HT.sIx z.length 0 lo) (HT.sIx z.length z.length hi) : Nat) : Int)) 1 z.length := by
    rw [PySem.StrLaws.strSliceIndices_plain hp hq, hd, sidx]
  have e2 : PySem.StrLaws.sliceText z lo hi =
      PySem.StrLaws.sliceText z (some ((HT.sIx z.length 0 lo : Nat) : Int)) (some ((max (HT.sIx z.length 0 lo) (HT.sIx z.length z.length hi) : Nat) : Int)) := by
    unfold PySem.StrLaws.sliceText
    rw [e]
  rw [e2, PySem.StrLaws.sliceText_nat z hp hq, hd]
  rfl
theorem cutS_length (z : Str) (lo hi : Option Int) : (cutS z lo hi).length ≤ z.length := by
  show (((z.cps.toList.drop (HT.sIx z.length 0 lo)).take (HT.sIx z.length z.length hi - HT.sIx z.length 0 lo)).toArray).size ≤ z.cps.size
  rw [List.size_toArray, List.length_take, List.length_drop, Array.length_toList]
  omega
def rSlS : V → Option Int → Option Int → Hp → VK → Prop := fun x lo hi H Q => ∃ z, x = .str z ∧ z.length ≤ sizeLine ∧ Q (.str (cutS z lo hi)) H
theorem sl_str {X : Cx} : SlR X rSlS := by
  intro pins s σ H x v vl vu lo hi sl Q I rx hs pl pu h
  obtain ⟨z, rfl, hz, q⟩ := h
  obtain ⟨t, rfl⟩ := rx
  obtain ⟨os, hos, hcs, hds⟩ := hs
  obtain ⟨l, rfl, rfl⟩ := IsPart.raw pl
  obtain ⟨u, rfl, rfl⟩ := IsPart.raw pu
  refine ⟨"str", _, F.slot_str_getitem.lookup, typeIs_str _ _ _, ?_⟩
  refine wpAny_getItem_str_slice (l := l) (u := u) (st := none) ⟨os, hos, hcs, hds⟩ rfl ?_
  have hl : (PySem.StrLaws.sliceText z (l.map (·.1)) (u.map (·.1))).length ≤ sizeLine := by
    rw [sliceText_cut]
    exact Nat.le_trans (cutS_length z _ _) hz
  rw [← sliceText_cut] at q
  unfold PySem.StrLaws.sliceText at q hl
  show Made.post (if ((1 : Int) == 1 && (Builtin.Str.strSliceIndices (l.map (·.1)) (u.map (·.1)) 1 z.length).length == z.length) = true then Made.val (.str z t)
    else Made.str ⟨((Builtin.Str.strSliceIndices (l.map (·.1)) (u.map (·.1)) 1 z.length).filterMap (z.cps[·]?)).toArray⟩) (EP X pins σ Q) s
  by_cases c : ((1 : Int) == 1 && (Builtin.Str.strSliceIndices (l.map (·.1)) (u.map (·.1)) 1 z.length).length == z.length) = true
  · rw [if_pos c] at q ⊢
    exact ⟨.str z, H, I, ⟨t, rfl⟩, q⟩
  · rw [if_neg c] at q hl ⊢
    exact ⟨hl, .str _, H, I.tok _, ⟨_, rfl⟩, q⟩
end L2

namespace Att
open PySem PySem.W PySem.Calls PyProof.Rows

/-! ### the script -/
theorem ints_of_wellAll {P : Params} {h : Heap} : ∀ (ns : List Int) (vs : List Value), WellAll P h vs (ns.map WData.int) → IntsAre vs ns := by
  intro ns
  induction ns with
  | nil =>
    intro vs w
    rw [List.map_nil] at w
    cases w
    exact .nil
  | cons n ns ih =>
    intro vs w
    rw [List.map_cons] at w
    cases w with
    | cons a b =>
      cases a
      exact .cons _ _ (ih _ b)

theorem script_of {l : OpenLaw} {n : Nat} (hn : l.most = some n) {P : Params} {h : Heap} {args : List WData} {vals : List Value}
    (hpre : l.row.toRowW.claim.pre args = true) (hwl : WellAll P h vals args) :
    ∃ a vs ns, vals = [Value.ref a] ∧ args = [WData.list (ns.map WData.int)] ∧ h.get? a = some { cls := .type "list", data := .seq vs.toArray } ∧ IntsAre vs ns ∧ ns.length ≤ n := by
  have hsh : WShape.hasAll [] args [.list .int] = true := (pre_splitW hpre).1
  have hc : l.pre.holds [] { args := args } = true := (pre_splitW hpre).2
  obtain ⟨d, r, rfl, h1, h2⟩ := hasAllW_cons hsh
  obtain rfl := hasAllW_nil h2
  obtain ⟨xs, rfl, h3⟩ := hasW_list h1
  obtain ⟨ns, rfl⟩ := items_int h3
  have hlen : ns.length ≤ n := by
    unfold OpenLaw.pre at hc
    have h4 : (WTm.not (.lt (.lit (.int (n : Int))) (.len (.arg 0)))).holds [] { args := [.list (ns.map .int)] } = true := by
      have h4 := (holds_andW hc).1
      rw [hn] at h4
      exact h4
    have h5 := condW_of h4 (w_not (w_lt w_lit (w_len_list (w_arg rfl))))
    rw [List.length_map] at h5
    refine Nat.le_of_not_lt fun q => ?_
    have q' : (n : Int) < ((ns.length : Nat) : Int) := by omega
    first
      | (rw [decide_eq_true q'] at h5; exact absurd h5 (by decide))
      | (simp at h5; omega)
  cases hwl with
  | cons w1 w2 =>
    cases w2
    cases w1 with
    | list ho hall => exact ⟨_, _, ns, rfl, rfl, ho, ints_of_wellAll ns _ hall, hlen⟩

theorem post_true (l : OpenLaw) (args : List WData) : l.row.toRowW.claim.post args (.bool true) args = true :=
  postW_of (r := l.row.toRowW) (X := (true == true))
    (show WShape.has [] (.bool true) .bool = true by first | rfl | decide | simp [WShape.has, WShape.arms, WShape.armsAll])
    (show (WTm.eq .res (.lit (.bool true))).value [] { args := args, res := some (.bool true), after := args } = some (.bool (true == true)) from w_eq_bool (w_res rfl) w_lit) rfl

/-! ### the attachment: holds_open's last premise (the goal 'hc' behind k_head) from a wpAny of the law's body -/
theorem attach {l : OpenLaw} {n : Nat} {q : Program} {loose : List Str} {XP : (Str → Option Value) → Heap → Prop} {YP : World → Heap → Prop} {d : DefRec} {x : Str}
    (hn : l.most = some n) (hdf : d.params.defaults = [])
    (hbind : ∀ pm cd doc v : Value, bindArgs (docDef d.name d.params d.body d.scope pm cd doc) ⟨[v], []⟩ = pure [(x, v)])
    (hx : d.scope.names.lookup x = some .local ∨ d.scope.names.lookup x = some .cell)
    (hk : d.scope.kind = .function) (hco : d.scope.isCoroutine = false) (hgen : d.scope.isGenerator = false)
    (body : ∀ (w : World) (s₀ s₁ s : Shared) (mg mb : Str → Option Value) (fa : Addr) (o : Obj) (pm cd doc : Value) (a : Addr) (vs : List Value) (ns : List Int),
      Ground q loose [] XP w s₀ mg mb s₁.heap → YP w s₁.heap →
      s₁.heap.get? fa = some o → o.data = .func (docDef d.name d.params d.body d.scope pm cd doc) → s₁.heap.CodeRec cd d.name → mg d.name = some (.ref fa) →
      s₁.heap.get? a = some { cls := .type "list", data := .seq vs.toArray } → IntsAre vs ns → ns.length ≤ n →
      s.gens = #[] → s.os = s₁.os →
      Fr s₁.heap s₁.heap.objs.size s.heap (bindL (envOfC d.name d.scope s₁.heap.objs.size fa cd).kindOf [(x, .ref a)] fun _ => none) →
      Cl s₁.heap.objs.size (cellsFrom (s₁.heap.objs.size + 1) d.scope.names []) s.heap (bindC (envOfC d.name d.scope s₁.heap.objs.size fa cd).kindOf [(x, .ref a)] fun _ => none) →
      wpAny (model l.prog w) (callerA.deeper (envOfC d.name d.scope s₁.heap.objs.size fa cd)) (execs d.body (envOfC d.name d.scope s₁.heap.objs.size fa cd))
        (fun f s' => f = .ret (.bool true) ∧ OldK s₁.heap s'.heap ∧ s'.os = s₁.os ∧ AllBare s'.gens) (fun _ _ => False) s) :
    WalkO q loose XP YP l.row.toRowW d [] (fun f vs => PySem.call f vs) := by
  intro w s₀ s₁ mg mb G Y fa o pm cd doc dV kV ho hd hcd hD hmg hg args vals as hpre hlay hrd hwl hlo
  obtain rfl : dV = .none := Dflts.none hD hdf
  obtain rfl : kV = .none := Dflts.noKw hD
  obtain ⟨a, vs, ns, rfl, rfl, hobj, hints, hlen⟩ := script_of hn hpre hwl
  refine enter_call ?_
  refine call_cells_ret (o := o) (by rw [depth_caller]; decide) ho (fd_plain hd) G.T.nolimit hcd (hbind pm cd doc (.ref a)) (fun y hy => ?_) (fun h₁ tk F X => ?_) hco hgen hk
  · obtain rfl : y = (x, Value.ref a) := List.mem_singleton.mp hy
    rcases hx with e | e
    · exact .inl e
    · exact .inr ⟨e, cellsFrom_some _ _ _ (.inl e)⟩
  · refine wpAny_mono (body w s₀ s₁ { s₁ with heap := h₁, toks := tk } mg mb fa o pm cd doc a vs ns G Y ho (fd_plain hd) hcd hmg hobj hints hlen hg rfl F X) (fun f s' hq => ?_) (fun _ _ hq => hq)
    obtain ⟨rfl, h2, h3, h4⟩ := hq
    exact ⟨.inl ⟨.bool true, .bool true, [], rfl, fun _ => rfl, .bool true, post_true l _, fun _ => ⟨List.Pairwise.nil, fun _ hm => (nomatch hm)⟩⟩, h2, h3, h4⟩

/-- the same from a codeAny of the CALL (for a layer whose function contracts speak of calls) -/
theorem attach_call {l : OpenLaw} {n : Nat} {q : Program} {loose : List Str} {XP : (Str → Option Value) → Heap → Prop} {YP : World → Heap → Prop} {d : DefRec}
    (hn : l.most = some n) (hdf : d.params.defaults = [])
    (call : ∀ (w : World) (s₀ s₁ : Shared) (mg mb : Str → Option Value) (fa : Addr) (o : Obj) (pm cd doc : Value) (a : Addr) (vs : List Value) (ns : List Int),
      Ground q loose [] XP w s₀ mg mb s₁.heap → YP w s₁.heap →
      s₁.heap.get? fa = some o → o.data = .func (docDef d.name d.params d.body d.scope pm cd doc) → s₁.heap.CodeRec cd d.name → mg d.name = some (.ref fa) →
      s₁.heap.get? a = some { cls := .type "list", data := .seq vs.toArray } → IntsAre vs ns → ns.length ≤ n → s₁.gens = #[] →
      codeAny (model l.prog w) callerA (.call (.ref fa) ⟨[.ref a], []⟩) (fun r s' => r = .ok (.ret (.bool true)) ∧ OldK s₁.heap s'.heap ∧ s'.os = s₁.os ∧ AllBare s'.gens) s₁) :
    WalkO q loose XP YP l.row.toRowW d [] (fun f vs => PySem.call f vs) := by
  intro w s₀ s₁ mg mb G Y fa o pm cd doc dV kV ho hd hcd hD hmg hg args vals as hpre hlay hrd hwl hlo
  obtain rfl : dV = .none := Dflts.none hD hdf
  obtain rfl : kV = .none := Dflts.noKw hD
  obtain ⟨a, vs, ns, rfl, rfl, hobj, hints, hlen⟩ := script_of hn hpre hwl
  refine enter_call (codeAny_mono (call w s₀ s₁ mg mb fa o pm cd doc a vs ns G Y ho (fd_plain hd) hcd hmg hobj hints hlen hg) fun r s' hq => ?_)
  obtain ⟨rfl, h2, h3, h4⟩ := hq
  exact ⟨.inl ⟨.bool true, .bool true, [], rfl, fun _ => rfl, .bool true, post_true l _, fun _ => ⟨List.Pairwise.nil, fun _ hm => (nomatch hm)⟩⟩, h2, h3, h4⟩

/-- the same where the top left finished generators (o_head chose holds_openN): nothing may have changed at all and no generator may be left -/
theorem attachN {l : OpenLaw} {n : Nat} {q : Program} {loose : List Str} {XP : (Str → Option Value) → Heap → Prop} {YP : World → Heap → Prop} {d : DefRec} {x : Str}
    (hn : l.most = some n) (hdf : d.params.defaults = [])
    (hbind : ∀ pm cd doc v : Value, bindArgs (docDef d.name d.params d.body d.scope pm cd doc) ⟨[v], []⟩ = pure [(x, v)])
    (hx : d.scope.names.lookup x = some .local ∨ d.scope.names.lookup x = some .cell)
    (hk : d.scope.kind = .function) (hco : d.scope.isCoroutine = false) (hgen : d.scope.isGenerator = false)
    (body : ∀ (w : World) (s₀ s₁ s : Shared) (mg mb : Str → Option Value) (fa : Addr) (o : Obj) (pm cd doc : Value) (a : Addr) (vs : List Value) (ns : List Int),
      Ground q loose [] XP w s₀ mg mb s₁.heap → YP w s₁.heap →
      s₁.heap.get? fa = some o → o.data = .func (docDef d.name d.params d.body d.scope pm cd doc) → s₁.heap.CodeRec cd d.name → mg d.name = some (.ref fa) →
      s₁.heap.get? a = some { cls := .type "list", data := .seq vs.toArray } → IntsAre vs ns → ns.length ≤ n →
      s.gens = #[] → s.os = s₁.os →
      Fr s₁.heap s₁.heap.objs.size s.heap (bindL (envOfC d.name d.scope s₁.heap.objs.size fa cd).kindOf [(x, .ref a)] fun _ => none) →
      Cl s₁.heap.objs.size (cellsFrom (s₁.heap.objs.size + 1) d.scope.names []) s.heap (bindC (envOfC d.name d.scope s₁.heap.objs.size fa cd).kindOf [(x, .ref a)] fun _ => none) →
      wpAny (model l.prog w) (callerA.deeper (envOfC d.name d.scope s₁.heap.objs.size fa cd)) (execs d.body (envOfC d.name d.scope s₁.heap.objs.size fa cd))
        (fun f s' => f = .ret (.bool true) ∧ (∀ b o, s₁.heap.get? b = some o → s'.heap.get? b = some o) ∧ s'.os = s₁.os ∧ s'.gens = #[]) (fun _ _ => False) s) :
    WalkN q loose XP YP l.row.toRowW d [] (fun f vs => PySem.call f vs) := by
  intro w s₀ s₁ mg mb G Y fa o pm cd doc dV kV ho hd hcd hD hmg hg args vals as hpre hlay hrd hwl hlo
  obtain rfl : dV = .none := Dflts.none hD hdf
  obtain rfl : kV = .none := Dflts.noKw hD
  obtain ⟨a, vs, ns, rfl, rfl, hobj, hints, hlen⟩ := script_of hn hpre hwl
  refine enter_callW ?_
  refine call_cells_ret (o := o) (by rw [depth_caller]; decide) ho (fd_plain hd) G.T.nolimit hcd (hbind pm cd doc (.ref a)) (fun y hy => ?_) (fun h₁ tk F X => ?_) hco hgen hk
  · obtain rfl : y = (x, Value.ref a) := List.mem_singleton.mp hy
    rcases hx with e | e
    · exact .inl e
    · exact .inr ⟨e, cellsFrom_some _ _ _ (.inl e)⟩
  · refine wpAny_mono (body w s₀ s₁ { s₁ with heap := h₁, toks := tk } mg mb fa o pm cd doc a vs ns G Y ho (fd_plain hd) hcd hmg hobj hints hlen hg rfl F X) (fun f s' hq => ?_) (fun _ _ hq => hq)
    obtain ⟨rfl, h2, h3, h4⟩ := hq
    exact ⟨.inl ⟨.bool true, .bool true, [], rfl, fun _ => rfl, .bool true, post_true l _, fun _ => ⟨List.Pairwise.nil, fun _ hm => (nomatch hm)⟩⟩, h2, h3, h4⟩

/-! ### rules over ANY heap (no ledger) from facts about the written part K: the library's own take a ledger (News) for what they write -/
section
variable {prog : Program} {w : World} {A : Around} {E : Value → Shared → Prop} {s : Shared} {K : Frag}

/-- a def of the module, or a method (qual 'C.m'), entered: the frame is the next address; cells behind it -/
theorem call_fn {R : Result → Shared → Prop} {name qual : Str} {params : Arguments} {body : List Stmt} {scope : Scope} {dV kV doc pm cdv ct oc : Value} {an od : Option Addr} {osl : Array (Option Value)} {f : Addr} {args : Args} {binds : List (Str × Value)}
    (X : K.In s.heap) (hlim : s.heap.NoLimit) (ho : K.lookup f = some ⟨oc, od, .func (fnOf name qual params body scope dV kV doc pm an cdv ct), osl⟩) (hcd : codeIn K cdv qual = true) (hroom : A.depth < recursionLimit)
    (hbind : BindsTo s (fnOf name qual params body scope dV kV doc pm an cdv ct) args binds)
    (hkind : (binds.all fun y => scope.names.lookup y.1 == some .local || scope.names.lookup y.1 == some .cell) = true)
    (h : ∀ s₁, InCallC s s.heap.objs.size (bindL (envOfC qual scope s.heap.objs.size f cdv).kindOf binds fun _ => none) (cellsFrom (s.heap.objs.size + 1) scope.names [])
        (bindC (envOfC qual scope s.heap.objs.size f cdv).kindOf binds fun _ => none) s₁ →
      wpAny (model prog w) (A.deeper (envOfC qual scope s.heap.objs.size f cdv)) (execs body (envOfC qual scope s.heap.objs.size f cdv))
        (fun fl s' => R (.ok (.ret (match fl with | .ret v => v | _ => .none))) s')
        (fun e s' => wpAny (model prog w) (A.deeper (envOfC qual scope s.heap.objs.size f cdv)) (leaving (envOfC qual scope s.heap.objs.size f cdv) e) (fun _ s'' => R (.error e) s'') (fun e' s'' => R (.error e') s'') s') s₁)
    (hco : scope.isCoroutine = false) (hgen : scope.isGenerator = false) (hk : scope.kind = .function) : codeAny (model prog w) A (.call (.ref f) args) R s := by
  refine codeAny_call_function hroom (X _ _ ho) rfl hco hgen rfl (codeRec_of X hcd) (hbind _ _ _ _ ?_)
  refine wpAny_newFunctionEnv_cells hk (kindsX hkind _) fun env he s₁ x => ?_
  subst he
  exact ⟨hlim.keeps x.toInCall.keep, codeAny_func (h s₁ x)⟩

/-- C(..): dict at size, instance at size + 1, then __init__ -/
theorem make_obj {R : Result → Shared → Prop} {C fI : Addr} {rest : List Value} {kw : List (Str × Value)}
    (X : K.In s.heap) (hm : makesIn K C = true) (hi : findIn K (.ref C) "__init__" = some (some (.ref fI))) (hf : isFn K (.ref fI) = true)
    (h : codeAny (model prog w) (A.under (.builtin "type.__call__" ⟨.ref C :: rest, kw⟩)) (.call (.ref fI) ⟨.ref (s.heap.objs.size + 1) :: rest, kw⟩) (InitBack (s.heap.objs.size + 1) R)
      { s with heap := (s.heap.push emptyDict).push (instObj C s.heap.objs.size) }) : codeAny (model prog w) A (.call (.ref C) ⟨rest, kw⟩) R s := by
  obtain ⟨hh, g, d, t, os⟩ := s
  exact make_core (makes_of X hm) (looks_findIn X hi) (fun self => bind_fn X self (beq_iff_eq.mp hf)) (.inl rfl) h

/-- x.name where the instance's dict holds the name and the class does not -/
theorem get_field {x C : Addr} {ox : Obj} {es : List DictEntry} {n : Nat} {name : Str} {expr : Bool} {v : Value} {Q : Value → Shared → Prop}
    (X : K.In s.heap) (I : PySem.W.InstAt s.heap x ox C (some (dictOf es n))) (hg : plainGet K C name = true) (hh : hasDictIn K C = true) (ha : findIn K (.ref C) name = some none)
    (hl : getL name es = some (some v)) (hv : handedIn v = true) (h : Q v { s with toks := s.toks + 1 }) : wpAny (model prog w) A (getAttr (.ref x) name expr) Q E s :=
  get_value X I (plainGet_of hg).1 (findObj_own hh ha rfl hl) hv h

/-- x.m(..): the method found in the class -/
theorem get_method {x C f : Addr} {ox : Obj} {es : List DictEntry} {n : Nat} {name : Str} {pl : Sem Bool} {Q : Value × List Value → Shared → Prop}
    (X : K.In s.heap) (I : PySem.W.InstAt s.heap x ox C (some (dictOf es n))) (hg : plainGet K C name = true) (hf : findIn K (.ref C) name = some (some (.ref f))) (ht : isFn K (.ref f) = true)
    (hl : getL name es = some none) (h : Q (.ref f, [.ref x]) s) : wpAny (model prog w) A (getMethod (.ref x) name pl) Q E s :=
  method_fn X I (plainGet_of hg).1 (plainGet_of hg).2 hf (beq_iff_eq.mp ht) (by show (lookIn name (dictOf es n)).map _ = _; rw [lookIn_dict, hl]; rfl) h

/-! the whole heap as the ledger: makes every rule that writes through a ledger a rule over any heap -/
def noObjs (h : Heap) : Heap := { h with objs := #[] }
theorem noObjs_get (h : Heap) (b : Addr) : (noObjs h).get? b = none := by
  cases e : (noObjs h).get? b with
  | none => rfl
  | some o => exact absurd (Heap.lt_size e) (Nat.not_lt_zero _)
def ledger (h : Heap) (L d : Addr) : List (Addr × Obj) := (List.range h.objs.size).filterMap fun a => if a = L ∨ a = d then none else (h.get? a).map fun o => (a, o)
theorem mem_ledger {h : Heap} {L d a : Addr} {o : Obj} : (a, o) ∈ ledger h L d ↔ a ≠ L ∧ a ≠ d ∧ h.get? a = some o := by
  unfold ledger
  rw [List.mem_filterMap]
  constructor
  · rintro ⟨b, _, e⟩
    split at e
    · cases e
    · rename_i hb
      obtain ⟨o', ho, e'⟩ := Option.map_eq_some_iff.mp e
      cases e'
      exact ⟨fun q => hb (.inl q), fun q => hb (.inr q), ho⟩
  · rintro ⟨n1, n2, ho⟩
    refine ⟨a, List.mem_range.mpr (Heap.lt_size ho), ?_⟩
    rw [if_neg (show ¬ (a = L ∨ a = d) from fun q => q.elim n1 n2), ho] <;> rfl
theorem news_ledger {h : Heap} {L d : Addr} {od : Obj} (hne : d ≠ L) (ho : h.get? d = some od) : News (noObjs h) L h ([] ++ (d, od) :: ledger h L d) := by
  rintro ⟨a, o⟩ hp
  rcases List.mem_cons.mp hp with e | hp
  · cases e
    exact ⟨ho, hne, noObjs_get _ _⟩
  · obtain ⟨n1, n2, e⟩ := mem_ledger.mp hp
    exact ⟨e, n1, noObjs_get _ _⟩
theorem fr_all {h : Heap} {L : Addr} {m : Str → Option Value} (n : h.Ns L m) : Fr (noObjs h) L h m :=
  ⟨n, fun b o e => (by rw [noObjs_get] at e; cases e), Nat.zero_le _⟩
/-- Upd of the head entry (for append_K, setItem_K ..) -/
theorem upd_ledger {h : Heap} {L d : Addr} {o o' : Obj} : Upd d o o' ((d, o) :: ledger h L d) ((d, o') :: ledger h L d) :=
  .head fun ⟨_, _⟩ hp => (mem_ledger.mp hp).2.1

/-- x.name = v over any heap: L is any namespace of the heap (the frame's, say): its map stays, its object is not told; all else but the dict stays -/
theorem set_field {x C dx L : Addr} {ox : Obj} {m : Str → Option Value} {es es' : List DictEntry} {n n' : Nat} {name : Str} {v : Value} {Q : Unit → Shared → Prop}
    (X : K.In s.heap) (I : PySem.W.InstAt s.heap x ox C (some (dictOf es n))) (hd : ox.dict = some dx) (hL : s.heap.Ns L m) (hne : dx ≠ L)
    (hs : findIn K (.ref C) "__setattr__" = some (some (.builtin "object.__setattr__"))) (hp : plainOver K C = true) (ht : takerIn K C name = some none) (hh : hasDictIn K C = true) (hl : (getL name es).isSome = true)
    (e : (putL name (PyData.keyHash w.params name) (.str name (s.toks + 1)) v es, putN name es n) = (es', n')) (hz : es'.length ≤ 1000)
    (h : ∀ h' : Heap, h'.Ns L m → h'.get? dx = some (dictOf es' n') → (∀ b o, b ≠ dx → b ≠ L → s.heap.get? b = some o → h'.get? b = some o) → Q () { s with heap := h', toks := s.toks + 2 }) :
    wpAny (model prog w) A (setAttr (.ref x) name v) Q E s := by
  obtain ⟨e1, e2⟩ := Prod.mk.inj e
  have hdx : s.heap.get? dx = some (dictOf es n) := by
    have := I.dict
    rw [hd] at this
    exact this
  refine set_plain X I hs (osa_dict (s := { s with toks := s.toks + 1 }) (h₀ := noObjs s.heap) (L := L) (m := m) (od := dictOf es n) (od' := dictOf es' n') (es := es') (n := n') (pre := []) (post := ledger s.heap L dx)
    (fr_all hL) (news_ledger hne hdx) X I hd hp ht hh hl (fun _ q => nomatch q) (fun ⟨_, _⟩ q => (mem_ledger.mp q).2.1) (by rw [putName_dict, e1, e2]) rfl hz fun h' F' N' => ?_)
  exact h h' F'.ns (N'.get (List.Mem.head _)) fun b o n1 n2 ho => N'.get (List.Mem.tail _ (mem_ledger.mpr ⟨n2, n1, ho⟩))
end
end Att

namespace L2
open PySem PySem.Spec PyProof.Rows

theorem vals_ints : ∀ {vs : List Value} {ns : List Int}, IntsAre vs ns → Vals (ns.map V.int) vs
  | _, _, .nil => .nil
  | _, _, .cons n t h => .cons ⟨t, rfl⟩ (vals_ints h)

/-- nothing is tracked but the script, known to the object (or it is an object of the module) -/
def Only (H : Hp) : Prop := ∀ b, H b = none ∨ ∃ o xs, H b = some (.frz o (.lst xs))

/-- THE HEAD: the law's promise, at the heap behind the top. F, the promise of the law's def, may use that base is part of the heap (so K.In base, base.Ns mainGlobals mg stand in Mod) -/
theorem law_call {P : Program} {w : World} {K : PySem.W.Frag} {mg mb : Str → Option Value} {CX : CXT} {k : Nat} {fa a : Addr} {fd : FuncData} {x : Str} {sp : Sp} {s₁ : Shared} {vs : List Value} {ns : List Int}
    (KX : K.In s₁.heap) (hns : s₁.heap.Ns mainGlobals mg) (hb : s₁.heap.Ns builtinsNs mb) (hbb : ∀ x : Str, x ≠ "__name__" → mb x = bootBuiltins x) (hlim : s₁.heap.NoLimit) (hg : s₁.gens = #[])
    (ha : s₁.heap.get? a = some { cls := .type "list", data := .seq vs.toArray }) (hi : IntsAre vs ns) (hl : ns.length ≤ sizeLine) (hr : Room k callerA)
    (F : ∀ base : Heap, K.In base → base.Ns mainGlobals mg → FnOk P w K mg base CX k fa fd [x] sp) (hbind : ∀ (s : Shared) (u : Value), BindsTo s fd ⟨[u], []⟩ [(x, u)])
    (hsp : ∀ H : Hp, Only H → SqL K H a (ns.map V.int) → sp [.ref a] H (fun v _ => v = .bl true) fun _ _ _ => False)
    (hCX : ∀ H e s', CX [] H s₁ (fun _ _ _ => False) e s' → False) :
    codeAny (model P w) callerA (.call (.ref fa) ⟨[.ref a], []⟩) (fun r s' => r = .ok (.ret (.bool true)) ∧ OldK s₁.heap s'.heap ∧ s'.os = s₁.os ∧ AllBare s'.gens) s₁ := by
  have rv := vals_ints hi
  have lenV := hi.length
  -- from an abstract heap in which nothing but the script may be tracked
  have core : ∀ H : Hp, Only H → SqL K H a (ns.map V.int) → HOk P w H s₁.heap → (∀ b, H b ≠ none → b = a) → (H a ≠ none → K.lookup a = none) →
      codeAny (model P w) callerA (.call (.ref fa) ⟨[.ref a], []⟩) (fun r s' => r = .ok (.ret (.bool true)) ∧ OldK s₁.heap s'.heap ∧ s'.os = s₁.os ∧ AllBare s'.gens) s₁ := by
    intro H hO hS hok hA hK
    have base_of : ∀ {b : Addr} {o : Obj}, s₁.heap.get? b = some o → H b = none → (hidT s₁.heap H).get? b = some o := fun e n => hidT_get e n
    have noA : ∀ {b : Addr} {o : Obj} {es : Array DictEntry} {ep : Nat}, s₁.heap.get? b = some o → o.data = .dict es ep → H b = none := fun {b o es ep} e d => by
      cases q : H b with
      | none => rfl
      | some u =>
        have e' : b = a := hA b (by rw [q]; simp)
        subst e'
        rw [ha] at e; cases e
        have d' : Data.seq vs.toArray _ = Data.dict es ep := d
        cases d'
    have nsK : ∀ {b : Addr} {m : Str → Option Value}, s₁.heap.Ns b m → (hidT s₁.heap H).Ns b m := fun {b m} ⟨o, es, ep, e, d, r⟩ => ⟨o, es, ep, base_of e (noA e d), d, r⟩
    have hKb : K.In (hidT s₁.heap H) := fun b o e => base_of (KX b o e) (by
      cases q : H b with
      | none => rfl
      | some u =>
        have e' : b = a := hA b (by rw [q]; simp)
        subst e'
        rw [hK (by rw [q]; simp)] at e; cases e)
    have hM : Mod K mg (hidT s₁.heap H) := ⟨hKb, nsK hns, ⟨mb, nsK hb, hbb⟩, let ⟨mc, h1, h2⟩ := hlim; ⟨mc, nsK h1, h2⟩⟩
    have e0 : Env0 P w K mg (hidT s₁.heap H) callerA [] s₁ H := ⟨rfl, hM, fun b o e => of_hidT e, Nat.le_of_eq (hidT_size _ _), trivial, fun b hb => absurd (show b ∈ ([] : List Addr) from hb) (by simp), hok, .of_eq hg⟩
    refine codeAny_mono ((F _ hKb (nsK hns)).run callerA [] s₁ H ⟨[.ref a], []⟩ [.ref a] [.ref a] _ _ hr e0 (hbind s₁ (.ref a)) (.cons rfl .nil) (hsp H hO hS)) fun r s' h => ?_
    cases r with
    | error e => exact (hCX H e s' h).elim
    | ok fl =>
      cases fl with
      | next => exact False.elim h
      | brk => exact False.elim h
      | cont => exact False.elim h
      | ret u =>
        obtain ⟨v, H', os, bare, un, hok', r', q⟩ := h
        have q' : v = .bl true := q
        subst q'
        obtain rfl : u = Value.bool true := r'
        refine ⟨rfl, OldK.of_keep fun b o e => ?_, os, bare⟩
        cases q : H b with
        | none => exact un.keep b o e q (by intro z; exact absurd (show b ∈ ([] : List Addr) from z) (by simp)) (by simp)
        | some u =>
          rcases hO b with z | ⟨ob, xs, z⟩
          · rw [q] at z; cases z
          · have z2 := un.frzs b ob _ z
            obtain ⟨e1, _⟩ := hok b _ z
            obtain ⟨e2, _⟩ := hok' b _ z2
            rw [e] at e1; cases e1
            exact e2
  cases hk : K.lookup a with
  | some o =>
    -- the script is one of the module's own objects
    have e := KX a o hk
    rw [ha] at e
    cases e
    refine core (fun _ => none) (fun _ => .inl rfl) (.inr ⟨_, vs.toArray, _, hk, rfl, rfl, rfl, by rw [List.size_toArray, lenV]; exact hl, by simpa using rv⟩) (fun b u z => by have z' : (none : Option HO) = some u := z; cases z') (fun b z => absurd rfl z) fun z => absurd rfl z
  | none =>
    refine core (fun b => if b = a then some (.frz { cls := .type "list", data := .seq vs.toArray } (.lst (ns.map V.int))) else none) (fun b => ?_) (.inl (.inr ⟨{ cls := .type "list", data := .seq vs.toArray }, if_pos rfl⟩)) (fun b u z => ?_) (fun b z => ?_) fun _ => hk
    · by_cases hb : b = a
      · exact .inr ⟨_, _, if_pos hb⟩
      · exact .inl (if_neg hb)
    · by_cases hb : b = a
      · have z' := (if_pos hb).symm.trans z
        cases z'
        subst hb
        exact ⟨ha, by rw [List.length_map]; exact hl, vs, _, rv, ha⟩
      · have z' := (if_neg hb).symm.trans z
        cases z'
    · by_cases hb : b = a
      · exact hb
      · exact absurd (if_neg hb) z
end L2

namespace L2
open PySem PySem.Spec PyProof.Rows

abbrev KOf {K : PySem.W.Frag} {h : Heap} (_ : K.In h) : PySem.W.Frag := K

/-- the goal that k_head leaves (case hc), from the law's promise. F gives the function object fd (K's own) once, then the promise over every base -/
theorem walk_of {l : PySem.W.OpenLaw} {n k : Nat} {q : Program} {loose : List Str} {XP : (Str → Option Value) → Heap → Prop} {YP : World → Heap → Prop} {d : DefRec} {K : Params → PySem.W.Frag} {CX : World → CXT} {sp : World → Sp} {x : Str}
    (hn : l.most = some n) (hn2 : n ≤ sizeLine) (hdf : d.params.defaults = []) (hr : Room k callerA)
    (hY : ∀ (w : World) (h : Heap), YP w h → (K w.params).In h)
    (F : ∀ (w : World) (mg : Str → Option Value) (fa : Addr) (h : Heap), (K w.params).In h → h.Ns mainGlobals mg → mg d.name = some (.ref fa) →
      ∃ fd : FuncData, (∀ (s : Shared) (u : Value), BindsTo s fd ⟨[u], []⟩ [(x, u)]) ∧
        ∀ base : Heap, (K w.params).In base → base.Ns mainGlobals mg → FnOk l.prog w (K w.params) mg base (CX w) k fa fd [x] (sp w))
    (hsp : ∀ (w : World) (H : Hp) (a : Addr) (ns : List Int), ns.length ≤ n → Only H → SqL (K w.params) H a (ns.map V.int) → sp w [.ref a] H (fun v _ => v = .bl true) fun _ _ _ => False)
    (hCX : ∀ (w : World) (H : Hp) (s : Shared) (e : Value) (s' : Shared), CX w [] H s (fun _ _ _ => False) e s' → False) :
    PySem.W.WalkO q loose XP YP l.row.toRowW d [] (fun f vs => PySem.call f vs) := by
  refine Att.attach_call hn hdf fun w s₀ s₁ mg mb fa o pm cd doc a vs ns G Y ho hd hcd hmg hobj hints hlen hg => ?_
  have KX := hY w _ Y
  obtain ⟨fd, hb, hF⟩ := F w mg fa _ KX G.T.g hmg
  exact law_call KX G.T.g G.T.b G.T.builtins G.T.nolimit hg hobj hints (Nat.le_trans hlen hn2) hr hF hb (fun H hO hS => hsp w H a ns hlen hO hS) fun H e s' => hCX w H s₁ e s'
/-- the same where the promise hangs on the written part alone: (sp := My.sp_law), no hole under a binder -/
theorem walk_ofK {l : PySem.W.OpenLaw} {n k : Nat} {q : Program} {loose : List Str} {XP : (Str → Option Value) → Heap → Prop} {YP : World → Heap → Prop} {d : DefRec} {K : Params → PySem.W.Frag} {CX : CXT} {sp : PySem.W.Frag → Sp} {x : Str}
    (hn : l.most = some n) (hn2 : n ≤ sizeLine) (hdf : d.params.defaults = []) (hr : Room k callerA)
    (hY : ∀ (w : World) (h : Heap), YP w h → (K w.params).In h)
    (F : ∀ (w : World) (mg : Str → Option Value) (fa : Addr) (h : Heap), (K w.params).In h → h.Ns mainGlobals mg → mg d.name = some (.ref fa) →
      ∃ fd : FuncData, (∀ (s : Shared) (u : Value), BindsTo s fd ⟨[u], []⟩ [(x, u)]) ∧
        ∀ base : Heap, (K w.params).In base → base.Ns mainGlobals mg → FnOk l.prog w (K w.params) mg base CX k fa fd [x] (sp (K w.params)))
    (hsp : ∀ (K : PySem.W.Frag) (H : Hp) (a : Addr) (ns : List Int), ns.length ≤ n → Only H → SqL K H a (ns.map V.int) → sp K [.ref a] H (fun v _ => v = .bl true) fun _ _ _ => False)
    (hCX : ∀ (H : Hp) (s : Shared) (e : Value) (s' : Shared), CX [] H s (fun _ _ _ => False) e s' → False) :
    PySem.W.WalkO q loose XP YP l.row.toRowW d [] (fun f vs => PySem.call f vs) :=
  walk_of (K := K) (CX := fun _ => CX) (sp := fun w => sp (K w.params)) hn hn2 hdf hr hY F (fun w H a ns h1 h2 h3 => hsp (K w.params) H a ns h1 h2 h3) fun _ H s e s' => hCX H s e s'
end L2

/- THE LAST THEOREM (shape; LID, My.* are yours):
   My.Adr: a structure of the addresses that your layer names (classes, functions); My.Txt K t: a structure (Prop) of the equations over K;
   My.txt_mk : {K} {implicit addresses ..} (e1 : nsIn K mainGlobals "law" = some (some (.ref f))) (e2 : K.lookup f = some ⟨oc, od, .func (fnOf "law" "law" params body scope dV kV doc pm an cdv ct), sl⟩) (e3 : codeIn K cdv "law" = true) .. : ∃ t, My.Txt K t

set_option maxRecDepth 100000 in
set_option maxHeartbeats 0 in
theorem PySem.Challenge.cw_LID_holds : PySem.Challenge.rw_LID.Holds := by
  w_on; o_law; k_head; (case hw => w_witness2)
  k_fill
  refine L2.walk_of (l := PySem.Challenge.rw_LID) (n := 63) (k := 40) (x := "script") (CX := fun w => ..) (sp := fun _ => My.sp_law) rfl (by decide) rfl ⟨rfl, by decide, by decide⟩ (fun w h Y => PySem.W.kIn_of Y) ?F ?S ?C
  case F =>
    intro w mg fa h KX G hmg
    have T : ∃ t, My.Txt (L2.KOf KX) t := by
      dsimp only [L2.KOf]                          -- K must stand as «<heap const> w.params» for k_is
      refine' My.txt_mk ?e1 ?e2 ?e3 ..
      (case e1 => PySem.W.k_is)                    -- in the order: a name -> its address -> its object -> its parts
      (case e2 => PySem.W.k_is)
      ..
    obtain ⟨t, T⟩ := T
    have e0 := hmg.symm.trans (PySem.W.mg_of KX G T.law)
    cases e0                                       -- fa is the law's own address
    exact ⟨_, fun s u => .of_eq rfl, fun base kb nb => My.law_fn T kb nb⟩     -- if «.of_eq rfl» comes too early: refine' ⟨_, ?b, fun base kb nb => My.law_fn T kb nb⟩; exact fun s u => .of_eq rfl
  case S => exact fun w H a ns hl hO hS => ..
  case C => exact ..
(the tactic k_is has no namespace: write k_is) -/

/-! SHORT WORDS over the layer: a def of the text, its body, what a loop and a test want. -/
namespace L2
open PySem PySem.Spec PyProof.Rows

/-! ### the text by places -/
/-- the j-th statement of a class's body -/
def inClass (s : Stmt) (j : Nat) : Stmt := match s with
  | .ClassDef _ _ _ body _ _ _ _ _ _ _ => body.getD j (.Pass ⟨0, 0, 0, 0⟩)
  | _ => .Pass ⟨0, 0, 0, 0⟩
def defArgs (s : Stmt) : Arguments := match s with
  | .FunctionDef _ a _ _ _ _ _ _ _ _ => a
  | _ => { posonlyargs := [], args := [], vararg := none, kwonlyargs := [], kw_defaults := [], kwarg := none, defaults := [] }
def defBody (s : Stmt) : List Stmt := match s with
  | .FunctionDef _ _ b _ _ _ _ _ _ _ => b
  | _ => []
def defScope (s : Stmt) : Scope := match s with
  | .FunctionDef _ _ _ _ _ _ sc _ _ _ => sc
  | _ => { kind := .function, names := [], isGenerator := false, isCoroutine := false }

/-! ### no exception leaves a def -/
abbrev CX0 : CXT := fun _ _ _ _ _ _ => False
abbrev E0 : XK := fun _ _ _ => False
theorem pass0 {X : Cx} : Passes CX0 X E0 := fun _ _ _ _ _ _ _ h => h.elim

/-! ### a def (or method) of the text as it stands behind the top -/
structure Fun (K : PySem.W.Frag) (x qual : Str) (st : Stmt) (f : Addr) (fd : FuncData) : Prop where
  ex : ∃ (oc : Value) (od : Option Addr) (kV doc pm : Value) (an : Option Addr) (cdv ct : Value) (osl : Array (Option Value)),
    fd = PySem.W.fnOf x qual (defArgs st) (defBody st) (defScope st) .none kV doc pm an cdv ct ∧ K.lookup f = some ⟨oc, od, .func fd, osl⟩ ∧ PySem.W.codeIn K cdv qual = true
  kp : PySem.W.keepIn K (.ref f) = true
section
variable {P : Program} {w : World} {K : PySem.W.Frag} {mg : Str → Option Value} {base : Heap}
/-- THE RULE for a def: its body as a term of rules, and the reading of that term -/
theorem Fun.ok {x qual : Str} {st : Stmt} {f : Addr} {fd : FuncData} {N ps : List Str} {k : Nat} {sp : Sp} (F : Fun K x qual st f fd) (S : FnScope N ps (defScope st)) (len : ∀ vs H Q E, sp vs H Q E → vs.length = ps.length)
    (hbody : ∀ (cdv : Value) (A : Around) (outer : List Env) (s : Shared) (H : Hp) (vs : List V) (Q : VK) (E : XK), Room k (A.deeper (envOfC qual (defScope st) s.heap.objs.size f cdv)) → sp vs H Q E →
      ∃ t, PSs (cxOf CX0 P w K mg base N qual (defScope st) f cdv A outer s H E).nox (defBody st) t ∧ t { nx := fun _ H' => Q .non H', rt := Q } (start N vs) H) : FnOk P w K mg base CX0 (k + 1) f fd ps sp := by
  obtain ⟨oc, od, kV, doc, pm, an, cdv, ct, osl, rfl, lk, hcd⟩ := F.ex
  refine fn_of lk hcd S len fun A outer s H vs Q E hr hsp => ?_
  obtain ⟨t, h, q⟩ := hbody cdv A outer s H vs Q E hr hsp
  exact ⟨t, h.nox, q⟩
/-- how its arguments bind (no defaults): h is «fun _ _ _ _ _ _ us hl => match us, hl with | [_, _], _ => rfl», one _ a parameter -/
theorem Fun.binds {x qual : Str} {st : Stmt} {f : Addr} {fd : FuncData} {ps : List Str} (F : Fun K x qual st f fd)
    (h : ∀ (kV doc pm : Value) (an : Option Addr) (cdv ct : Value) (us : List Value), us.length = ps.length → bindArgs (PySem.W.fnOf x qual (defArgs st) (defBody st) (defScope st) .none kV doc pm an cdv ct) ⟨us, []⟩ = pure (ps.zip us)) : Binds K fd ps [] := by
  obtain ⟨oc, od, kV, doc, pm, an, cdv, ct, osl, rfl, lk, hcd⟩ := F.ex
  exact .all (h kV doc pm an cdv ct)
theorem fun_mk {x qual : Str} {st : Stmt} {f : Addr} {oc : Value} {od an : Option Addr} {osl : Array (Option Value)} {kV doc pm cdv ct : Value} (l : K.lookup f = some ⟨oc, od, .func (PySem.W.fnOf x qual (defArgs st) (defBody st) (defScope st) .none kV doc pm an cdv ct), osl⟩)
    (c : PySem.W.codeIn K cdv qual = true) (k : PySem.W.keepIn K (.ref f) = true) : Fun K x qual st f (PySem.W.fnOf x qual (defArgs st) (defBody st) (defScope st) .none kV doc pm an cdv ct) := ⟨⟨oc, od, kV, doc, pm, an, cdv, ct, osl, rfl, l, c⟩, k⟩
end
theorem hu_of {A : Around} {k : Nat} (hr : Room k A) : A.units + 1 < cLine := Nat.lt_of_le_of_lt (Nat.add_le_add_left (by decide : 1 ≤ 64) _) hr.units
theorem small1000 {n : Nat} (h : n ≤ 1000) : n < sizeLine := Nat.lt_of_le_of_lt h (by decide)

/-! ### expressions in short: the name that stands in the i-th slot -/
section
variable {X : Cx}
theorem pv (i : Nat) {x : Str} {pos : Pos} (hN : X.N[i]? = some x := by rfl) (hv : Vis X.env.scope x := by first | exact Or.inl rfl | exact Or.inr (Or.inl rfl) | exact Or.inr (Or.inr rfl)) (hd : (x == ("__debug__" : Str)) = false := by decide)
    (hcd : (x == ("__classdict__" : Str)) = false := by decide) : PE X (.Name x pos) (tVar i) := pe_var hN hv hd hcd
/-- len of a dict -/
theorem call_lenD : CallR X (.builtin "len") (fun xs H Q => ∃ a kvs, xs = [V.ref a] ∧ H a = some (.dK kvs) ∧ Q (.int kvs.length) H) := by
  intro pins s σ H xs us Q I r h
  obtain ⟨a, kvs, rfl, ha, q⟩ := h
  obtain ⟨u, rfl, ru⟩ := vals1 r
  cases ru
  exact d_len I (.inl ha) fun t s' I' => ⟨.int kvs.length, H, I', ⟨t, rfl⟩, q⟩
end

/-! ### tests -/
theorem iteF {A B : Prop} (h : B) : if false = true then A else B := by
  rw [if_neg Bool.false_ne_true]
  exact h
theorem iteT {A B : Prop} (h : A) : if true = true then A else B := by
  rw [if_pos rfl]
  exact h
theorem ite2 {c A B : Prop} [Decidable c] (h1 : c → A) (h2 : ¬ c → B) : if c then A else B := by
  by_cases h : c
  · rw [if_pos h]
    exact h1 h
  · rw [if_neg h]
    exact h2 h
theorem iteNS {c A B : Prop} [Decidable c] (hc : c) (h : B) : if (!decide c) = true then A else B := by
  rw [decide_eq_true hc]
  exact iteF h

/-! ### heaps -/
/-- all that was tracked is as it was -/
def Same (H H' : Hp) : Prop := ∀ b o, H b = some o → H' b = some o
theorem Same.refl (H : Hp) : Same H H := fun _ _ h => h
theorem Same.trans {H H1 H2 : Hp} (a : Same H H1) (b : Same H1 H2) : Same H H2 := fun c o h => b c o (a c o h)
theorem Same.free {H H' : Hp} (e : Same H H') {l : Addr} (h : H' l = Option.none) : H l = Option.none := by
  cases q : H l with
  | none => rfl
  | some o =>
    rw [e l o q] at h
    cases h
theorem Same.seq {K : PySem.W.Frag} {H H' : Hp} {a : Addr} {xs : List V} (e : Same H H') (h : SqL K H a xs) : SqL K H' a xs := by
  rcases h with (h | ⟨o, h⟩) | h
  · exact .inl (.inl (e _ _ h))
  · exact .inl (.inr ⟨o, e _ _ h⟩)
  · exact .inr h

/-! ### a dict's pairs: keys that differ -/
section
variable {κ : Type} [DecidableEq κ]
theorem valV_not {kvs : List (κ × V)} {k : κ} (h : valV kvs k = none) : ¬ k ∈ kvs.map (·.1) := by
  intro m
  obtain ⟨p, hp, e⟩ := List.mem_map.mp m
  have q : (kvs.any fun kv => decide (kv.1 = k)) = true := List.any_eq_true.mpr ⟨p, hp, decide_eq_true e⟩
  rw [valV_any, h] at q
  exact absurd q (by simp)
theorem valV_in {kvs : List (κ × V)} {k : κ} {v : V} (h : valV kvs k = some v) : k ∈ kvs.map (·.1) := by
  have q : (kvs.any fun kv => decide (kv.1 = k)) = true := by
    rw [valV_any, h]
    all_goals rfl
  obtain ⟨p, hp, e⟩ := List.any_eq_true.mp q
  exact List.mem_map.mpr ⟨p, hp, of_decide_eq_true e⟩
theorem nd_snoc : ∀ {l : List κ} {k : κ}, l.Nodup → ¬ k ∈ l → (l ++ [k]).Nodup
  | [], k, _, _ => by simp
  | a :: r, k, h, hk => by
    obtain ⟨h1, h2⟩ := List.nodup_cons.mp h
    show (a :: (r ++ [k])).Nodup
    refine List.nodup_cons.mpr ⟨fun m => ?_, nd_snoc h2 fun m => hk (List.mem_cons.mpr (Or.inr m))⟩
    rcases List.mem_append.mp m with q | q
    · exact h1 q
    · exact hk (List.mem_cons.mpr (Or.inl (List.mem_singleton.mp q).symm))
theorem nd_putK {kvs : List (κ × V)} {k : κ} (v : V) (hn : (kvs.map (·.1)).Nodup) (h : valV kvs k = none) : ((putK kvs k v).map (·.1)).Nodup := by
  rw [putK_new v h, List.map_append]
  exact nd_snoc hn (valV_not h)
theorem dropK_pos {p : κ × V} {r : List (κ × V)} {k : κ} (e : p.1 = k) : dropK (p :: r) k = dropK r k := by
  unfold dropK
  rw [List.filter_cons, if_neg (by simp [e])]
theorem dropK_neg {p : κ × V} {r : List (κ × V)} {k : κ} (e : ¬ p.1 = k) : dropK (p :: r) k = p :: dropK r k := by
  unfold dropK
  rw [List.filter_cons, if_pos (by simp [e])]
theorem dropK_no : ∀ {kvs : List (κ × V)} {k : κ}, ¬ k ∈ kvs.map (·.1) → dropK kvs k = kvs
  | [], _, _ => rfl
  | p :: r, k, h => by
    have h' : ¬ k ∈ r.map (·.1) := fun m => by
      obtain ⟨q, hq, e⟩ := List.mem_map.mp m
      exact h (List.mem_map.mpr ⟨q, List.mem_cons.mpr (Or.inr hq), e⟩)
    rw [dropK_neg fun e => h (List.mem_map.mpr ⟨p, List.mem_cons.mpr (Or.inl rfl), e⟩), dropK_no h']
theorem dropK_mem {kvs : List (κ × V)} {k : κ} {p : κ × V} (h : p ∈ dropK kvs k) : p ∈ kvs := (List.mem_filter.mp h).1
theorem nd_dropK : ∀ {kvs : List (κ × V)} {k : κ}, (kvs.map (·.1)).Nodup → ((dropK kvs k).map (·.1)).Nodup
  | [], _, _ => List.nodup_nil
  | p :: r, k, h => by
    have h : (p.1 :: r.map (·.1)).Nodup := h
    obtain ⟨h1, h2⟩ := List.nodup_cons.mp h
    by_cases e : p.1 = k
    · rw [dropK_pos e]
      exact nd_dropK h2
    · rw [dropK_neg e]
      show (p.1 :: (dropK r k).map (·.1)).Nodup
      refine List.nodup_cons.mpr ⟨fun m => h1 ?_, nd_dropK h2⟩
      obtain ⟨q, hq, eq⟩ := List.mem_map.mp m
      exact List.mem_map.mpr ⟨q, dropK_mem hq, eq⟩
theorem dropK_len : ∀ {kvs : List (κ × V)} {k : κ}, (kvs.map (·.1)).Nodup → k ∈ kvs.map (·.1) → (dropK kvs k).length + 1 = kvs.length
  | [], _, _, m => by simp at m
  | p :: r, k, h, m => by
    have h : (p.1 :: r.map (·.1)).Nodup := h
    have m : k = p.1 ∨ k ∈ r.map (·.1) := List.mem_cons.mp m
    obtain ⟨h1, h2⟩ := List.nodup_cons.mp h
    by_cases e : p.1 = k
    · subst e
      rw [dropK_pos rfl, dropK_no h1]
      all_goals rfl
    · have m' : k ∈ r.map (·.1) := m.resolve_left fun z => e z.symm
      have q := dropK_len h2 m'
      rw [dropK_neg e, List.length_cons, List.length_cons]
      omega
end
/-! ### lists -/
theorem at_of {xs : List V} {z : Int} {j : Nat} {v : V} (e : z = (j : Int)) (h : xs[j]? = some v) : atI xs z = some v := by
  rw [e]
  exact atI_nat h
theorem nd_ix {α : Type} {l : List α} (hN : l.Nodup) {i j : Nat} {x : α} (a : l[i]? = some x) (b : l[j]? = some x) : i = j := by
  obtain ⟨h1, e1⟩ := List.getElem?_eq_some_iff.mp a
  obtain ⟨h2, e2⟩ := List.getElem?_eq_some_iff.mp b
  exact (List.getElem_inj hN).mp (e1.trans e2.symm)
theorem sum_set : ∀ {l : List Int} {j : Nat} {z y : Int}, l[j]? = some z → (l.set j y).sum = l.sum - z + y
  | [], j, z, y, h => by simp at h
  | a :: r, 0, z, y, h => by
    have e : a = z := Option.some.inj h
    subst e
    show (y :: r).sum = (a :: r).sum - a + y
    rw [List.sum_cons, List.sum_cons]
    omega
  | a :: r, j + 1, z, y, h => by
    have ih := sum_set (l := r) (j := j) (z := z) (y := y) h
    show (a :: r.set j y).sum = (a :: r).sum - z + y
    rw [List.sum_cons, List.sum_cons, ih]
    omega
theorem sum_take : ∀ {l : List Int} {i : Nat} {z : Int}, l[i]? = some z → (l.take (i + 1)).sum = (l.take i).sum + z
  | [], i, z, h => by simp at h
  | a :: r, 0, z, h => by
    have e : a = z := Option.some.inj h
    subst e
    show ([a] : List Int).sum = ([] : List Int).sum + a
    rw [List.sum_cons]
    exact Int.add_comm _ _
  | a :: r, i + 1, z, h => by
    have ih := sum_take (l := r) (i := i) (z := z) h
    show (a :: r.take (i + 1)).sum = (a :: r.take i).sum + z
    rw [List.sum_cons, List.sum_cons, ih]
    omega
/-- a new instance and its __init__ leave all that was tracked as it was -/
theorem Same.made {H H1 : Hp} {x dx C : Addr} (nx : H x = Option.none) (nd : H dx = Option.none) (k : ∀ b o, (upd (upd H dx (.own x)) x (.ins C dx [])) b = some o → b ≠ x → H1 b = some o) : Same H H1 := fun b o e =>
  k b o (by rw [upd_ne (ne_of_none e nx), upd_ne (ne_of_none e nd)]; exact e) (ne_of_none e nx)
end L2

set_option Elab.async false
set_option linter.all false
set_option maxRecDepth 100000
namespace En
open PySem PySem.Spec PyProof.Rows L2

/-! ## plain data, the store, results -/
inductive D where
  | p (d : PyData)
  | ref (n : Nat)
  | exc (c : Str) (fs : List (Str × PyData))
  | kl (ds : List PyData)
inductive GO where
  | lst (ds : List D)
  | ins (c : Str) (fs : List (Str × D))
abbrev G := List GO
structure Exc where
  cls : Str
  fs : List (Str × PyData)
inductive R (a : Type) where
  | ok (x : a) (g : G)
  | exc (x : Exc) (g : G)
  | stuck
def R.bind {a b : Type} (r : R a) (k : a → G → R b) : R b := match r with
  | .ok x g => k x g
  | .exc x g => .exc x g
  | .stuck => .stuck
@[simp] theorem R.bind_ok {a b : Type} (x : a) (g : G) (k : a → G → R b) : (R.ok x g).bind k = k x g := rfl
@[simp] theorem R.bind_exc {a b : Type} (x : Exc) (g : G) (k : a → G → R b) : (R.exc x g : R a).bind k = R.exc x g := rfl
@[simp] theorem R.bind_stuck {a b : Type} (k : a → G → R b) : (R.stuck : R a).bind k = R.stuck := rfl

/-- no exception -/
def R.nox {a : Type} (r : R a) : R a := match r with
  | .ok x g => .ok x g
  | _ => .stuck
@[simp] theorem R.nox_ok {a : Type} (x : a) (g : G) : (R.ok x g).nox = R.ok x g := rfl
@[simp] theorem R.nox_exc {a : Type} (x : Exc) (g : G) : (R.exc x g : R a).nox = R.stuck := rfl
@[simp] theorem R.nox_stuck {a : Type} : (R.stuck : R a).nox = R.stuck := rfl
def flatP : PyData → Bool
  | .none => true
  | .bool _ => true
  | .int _ => true
  | .str _ => true
  | _ => false
def kd : Key → PyData
  | .inl i => .int i
  | .inr x => .str x

/-! ## what stands for what -/
/-- the addresses of the store's objects; of what is being built -/
structure Ad where
  m : List Addr
  b : List Addr
def Ad.out (z : Ad) (a : Addr) : Prop := a ∉ z.m ∧ a ∉ z.b
/-- a list that is never written: tracked and none of m, or the module's own -/
def LIn (K : PySem.W.Frag) (m : Ad) (H : Hp) (a : Addr) (xs : List V) : Prop :=
  (m.out a ∧ Rd H a (.lst xs)) ∨
    ∃ (o : Obj) (its : Array Value) (n : Nat), K.lookup a = some o ∧ o.cls = .type "list" ∧ o.dict = none ∧ o.data = .seq its n ∧ its.size ≤ sizeLine ∧ Vals xs its.toList
def TIn (K : PySem.W.Frag) (m : Ad) (H : Hp) (a : Addr) (xs : List V) : Prop :=
  (m.out a ∧ Rd H a (.tup xs)) ∨
    ∃ (o : Obj) (its : Array Value) (n : Nat), K.lookup a = some o ∧ o.cls = .type "tuple" ∧ o.data = .seq its n ∧ its.size ≤ sizeLine ∧ Vals xs its.toList
theorem LIn.sq {K : PySem.W.Frag} {m : Ad} {H : Hp} {a : Addr} {xs : List V} (h : LIn K m H a xs) : SqL K H a xs := by
  rcases h with ⟨_, h⟩ | h
  · exact .inl h
  · exact .inr h
theorem TIn.sq {K : PySem.W.Frag} {m : Ad} {H : Hp} {a : Addr} {xs : List V} (h : TIn K m H a xs) : SqT K H a xs := by
  rcases h with ⟨_, h⟩ | h
  · exact .inl h
  · exact .inr h

mutual
inductive Rp (K : PySem.W.Frag) (m : Ad) (H : Hp) : V → PyData → Prop
  | non : Rp K m H .non .none
  | bl (b : Bool) : Rp K m H (.bl b) (.bool b)
  | int (i : Int) : Rp K m H (.int i) (.int i)
  | str (x : Str) : Rp K m H (.str x) (.str x)
  | lst {a : Addr} {xs : List V} {ds : List PyData} : m.out a → H a = some (.lst xs) → Rps K m H xs ds → Rp K m H (.ref a) (.list ds)
  | tup {a : Addr} {xs : List V} {ds : List PyData} : TIn K m H a xs → Rps K m H xs ds → Rp K m H (.ref a) (.tuple ds)
  | dct {a : Addr} {kvs : List (Key × V)} {ds : List (PyData × PyData)} : m.out a → H a = some (.dK kvs) → Rpk K m H kvs ds → Rp K m H (.ref a) (.dict ds)
inductive Rps (K : PySem.W.Frag) (m : Ad) (H : Hp) : List V → List PyData → Prop
  | nil : Rps K m H [] []
  | cons {v : V} {vs : List V} {d : PyData} {ds : List PyData} : Rp K m H v d → Rps K m H vs ds → Rps K m H (v :: vs) (d :: ds)
inductive Rpk (K : PySem.W.Frag) (m : Ad) (H : Hp) : List (Key × V) → List (PyData × PyData) → Prop
  | nil : Rpk K m H [] []
  | cons {k : Key} {v : V} {r : List (Key × V)} {d : PyData} {ds : List (PyData × PyData)} : flatP d = true → Rp K m H v d → Rpk K m H r ds → Rpk K m H ((k, v) :: r) ((kd k, d) :: ds)
end

def RpD (K : PySem.W.Frag) (m : Ad) (H : Hp) (v : V) : D → Prop
  | .p d => Rp K m H v d
  | .ref n => ∃ a, v = .ref a ∧ m.m[n]? = some a
  | .exc _ _ => False
  | .kl ds => ∃ a xs, v = .ref a ∧ LIn K m H a xs ∧ Rps K m H xs ds
def RpDs (K : PySem.W.Frag) (m : Ad) (H : Hp) : List V → List D → Prop := Paired (RpD K m H)

def GOk (K : PySem.W.Frag) (m : Ad) (H : Hp) (a : Addr) : GO → Prop
  | .lst ds => ∃ xs, H a = some (.lst xs) ∧ RpDs K m H xs ds
  | .ins _ _ => False
structure SG (K : PySem.W.Frag) (m : Ad) (H : Hp) (g : G) : Prop where
  len : m.m.length = g.length
  nd : m.m.Nodup
  obj : ∀ (n : Nat) (a : Addr) (o : GO), m.m[n]? = some a → g[n]? = some o → GOk K m H a o
  lb : ∀ a ∈ m.b, ∃ o, H a = some o
  bm : ∀ a ∈ m.b, a ∉ m.m

/-- from m, H on to m', H': nothing that is not in m has changed, what is new in m was not there -/
structure Ext (m : Ad) (H : Hp) (m' : Ad) (H' : Hp) : Prop where
  app : ∃ ms, m'.m = m.m ++ ms ∧ ∀ a ∈ ms, H a = none
  bb : m'.b = m.b
  keep : ∀ a o, H a = some o → a ∉ m.m → H' a = some o
  live : ∀ a ∈ m.m, ∀ o, H a = some o → ∃ o', H' a = some o'

theorem SG.live {K : PySem.W.Frag} {m : Ad} {H : Hp} {g : G} (s : SG K m H g) {a : Addr} (h : a ∈ m.m) : ∃ o, H a = some o := by
  obtain ⟨n, hn, e⟩ := List.getElem_of_mem h
  have h1 : m.m[n]? = some a := by rw [List.getElem?_eq_getElem hn, e]
  have h2 : n < g.length := by rw [← s.len]; exact hn
  have q := s.obj n a g[n] h1 (List.getElem?_eq_getElem h2)
  cases e2 : g[n] with
  | lst ds => rw [e2] at q; obtain ⟨xs, h, _⟩ := q; exact ⟨_, h⟩
  | ins c fs => rw [e2] at q; exact q.elim
theorem SG.fresh {K : PySem.W.Frag} {m : Ad} {H : Hp} {g : G} (s : SG K m H g) {a : Addr} (h : H a = none) : m.out a := by
  constructor
  · intro z; obtain ⟨o, e⟩ := s.live z; rw [h] at e; cases e
  · intro z; obtain ⟨o, e⟩ := s.lb a z; rw [h] at e; cases e

section
variable {K : PySem.W.Frag} {m m1 m2 : Ad} {H H1 H2 : Hp} {g : G}
theorem Ext.refl : Ext m H m H := ⟨⟨[], by simp, fun _ h => nomatch h⟩, rfl, fun _ _ h _ => h, fun _ _ o h => ⟨o, h⟩⟩
theorem Ext.mem (e : Ext m H m1 H1) {a : Addr} (h : a ∈ m.m) : a ∈ m1.m := by
  obtain ⟨ms, r, _⟩ := e.app
  rw [r]
  exact List.mem_append_left _ h
theorem Ext.get (e : Ext m H m1 H1) {n : Nat} {a : Addr} (h : m.m[n]? = some a) : m1.m[n]? = some a := by
  obtain ⟨ms, r, _⟩ := e.app
  rw [r, List.getElem?_append_left (List.getElem?_eq_some_iff.mp h).1]
  exact h
theorem Ext.notin (e : Ext m H m1 H1) {a : Addr} {o : HO} (h : H a = some o) (hn : a ∉ m.m) : a ∉ m1.m := by
  obtain ⟨ms, r, hf⟩ := e.app
  rw [r]
  intro z
  rcases List.mem_append.mp z with z | z
  · exact hn z
  · rw [hf a z] at h; cases h
theorem Ext.outs (e : Ext m H m1 H1) {a : Addr} {o : HO} (h : H a = some o) (hn : m.out a) : m1.out a := ⟨e.notin h hn.1, by rw [e.bb]; exact hn.2⟩
theorem Ext.trans (e : Ext m H m1 H1) (f : Ext m1 H1 m2 H2) : Ext m H m2 H2 := by
  obtain ⟨ms, r1, hf⟩ := e.app
  obtain ⟨ms2, r2, hf2⟩ := f.app
  refine ⟨⟨ms ++ ms2, by rw [r2, r1, List.append_assoc], fun a ha => ?_⟩, f.bb.trans e.bb, fun a o h hn => f.keep a o (e.keep a o h hn) (e.notin h hn), fun a ha o h => ?_⟩
  · rcases List.mem_append.mp ha with z | z
    · exact hf a z
    · cases q : H a with
      | none => rfl
      | some o =>
        by_cases hm : a ∈ m.m
        · obtain ⟨o', q'⟩ := e.live a hm o q
          rw [hf2 a z] at q'; cases q'
        · have := e.keep a o q hm
          rw [hf2 a z] at this; cases this
  · obtain ⟨o1, h1⟩ := e.live a ha o h
    exact f.live a (e.mem ha) o1 h1
/-- the weak form: what is read stays -/
structure Wk (m : Ad) (H : Hp) (m' : Ad) (H' : Hp) : Prop where
  keep : ∀ a o, H a = some o → m.out a → H' a = some o ∧ m'.out a
  get : ∀ (n : Nat) (a : Addr), m.m[n]? = some a → m'.m[n]? = some a
theorem Ext.wk (e : Ext m H m1 H1) : Wk m H m1 H1 := ⟨fun a o h hn => ⟨e.keep a o h hn.1, e.outs h hn⟩, fun _ _ h => e.get h⟩
theorem Wk.refl : Wk m H m H := ⟨fun _ _ h n => ⟨h, n⟩, fun _ _ h => h⟩
theorem Wk.trans (e : Wk m H m1 H1) (f : Wk m1 H1 m2 H2) : Wk m H m2 H2 := ⟨fun a o h n => f.keep a o (e.keep a o h n).1 (e.keep a o h n).2, fun n a h => f.get n a (e.get n a h)⟩
theorem LIn.mono (e : Wk m H m1 H1) {a : Addr} {xs : List V} (h : LIn K m H a xs) : LIn K m1 H1 a xs := by
  rcases h with ⟨hn, h⟩ | h
  · rcases h with h | ⟨o, h⟩
    · exact .inl ⟨(e.keep _ _ h hn).2, .inl (e.keep _ _ h hn).1⟩
    · exact .inl ⟨(e.keep _ _ h hn).2, .inr ⟨o, (e.keep _ _ h hn).1⟩⟩
  · exact .inr h
theorem TIn.mono (e : Wk m H m1 H1) {a : Addr} {xs : List V} (h : TIn K m H a xs) : TIn K m1 H1 a xs := by
  rcases h with ⟨hn, h⟩ | h
  · rcases h with h | ⟨o, h⟩
    · exact .inl ⟨(e.keep _ _ h hn).2, .inl (e.keep _ _ h hn).1⟩
    · exact .inl ⟨(e.keep _ _ h hn).2, .inr ⟨o, (e.keep _ _ h hn).1⟩⟩
  · exact .inr h
mutual
theorem Rp.mono (e : Wk m H m1 H1) : ∀ (d : PyData) (v : V), Rp K m H v d → Rp K m1 H1 v d
  | .none, _, h => by cases h; exact .non
  | .bool b, _, h => by cases h; exact .bl b
  | .int i, _, h => by cases h; exact .int i
  | .str x, _, h => by cases h; exact .str x
  | .list ds, _, h => by
    cases h with
    | lst a b c => exact .lst (e.keep _ _ b a).2 (e.keep _ _ b a).1 (Rps.mono e ds _ c)
  | .tuple ds, _, h => by
    cases h with
    | tup a b => exact .tup (a.mono e) (Rps.mono e ds _ b)
  | .dict ds, _, h => by
    cases h with
    | dct a b c => exact .dct (e.keep _ _ b a).2 (e.keep _ _ b a).1 (Rpk.mono e ds _ c)
theorem Rps.mono (e : Wk m H m1 H1) : ∀ (ds : List PyData) (vs : List V), Rps K m H vs ds → Rps K m1 H1 vs ds
  | [], _, h => by cases h; exact .nil
  | d :: ds, _, h => by
    cases h with
    | cons a b => exact .cons (Rp.mono e d _ a) (Rps.mono e ds _ b)
theorem Rpk.mono (e : Wk m H m1 H1) : ∀ (ds : List (PyData × PyData)) (vs : List (Key × V)), Rpk K m H vs ds → Rpk K m1 H1 vs ds
  | [], _, h => by cases h; exact .nil
  | (_, d) :: ds, _, h => by
    cases h with
    | cons f a b => exact .cons f (Rp.mono e d _ a) (Rpk.mono e ds _ b)
end
theorem RpD.wk (e : Wk m H m1 H1) {d : D} {v : V} (h : RpD K m H v d) : RpD K m1 H1 v d := by
  cases d with
  | p d => exact Rp.mono e d v h
  | ref n => obtain ⟨a, r, h⟩ := h; exact ⟨a, r, e.get _ _ h⟩
  | exc c fs => exact h
  | kl ds => obtain ⟨a, xs, r, l, q⟩ := h; exact ⟨a, xs, r, l.mono e, Rps.mono e ds _ q⟩
theorem RpDs.wk (e : Wk m H m1 H1) {ds : List D} {vs : List V} (h : RpDs K m H vs ds) : RpDs K m1 H1 vs ds := Paired.mapP h fun _ _ r => r.wk e
theorem RpD.mono (e : Ext m H m1 H1) {d : D} {v : V} (h : RpD K m H v d) : RpD K m1 H1 v d := h.wk e.wk
theorem RpDs.mono (e : Ext m H m1 H1) {ds : List D} {vs : List V} (h : RpDs K m H vs ds) : RpDs K m1 H1 vs ds := h.wk e.wk
theorem Rps.len : ∀ {ds : List PyData} {vs : List V}, Rps K m H vs ds → vs.length = ds.length
  | _, _, .nil => rfl
  | _, _, .cons _ b => by rw [List.length_cons, List.length_cons, Rps.len b]
theorem Rps.get : ∀ {ds : List PyData} {vs : List V} {i : Nat} {d : PyData}, Rps K m H vs ds → ds[i]? = some d → ∃ v, vs[i]? = some v ∧ Rp K m H v d
  | _, _, _, _, .nil, e => by simp at e
  | _, _, 0, _, .cons r _, e => by simp at e; subst e; exact ⟨_, rfl, r⟩
  | _, _, i + 1, d, .cons _ t, e => by
    obtain ⟨u, h1, h2⟩ := Rps.get (i := i) (d := d) t (by simpa using e)
    exact ⟨u, by simpa using h1, h2⟩
theorem Rps.getv : ∀ {ds : List PyData} {vs : List V} {i : Nat} {v : V}, Rps K m H vs ds → vs[i]? = some v → ∃ d, ds[i]? = some d ∧ Rp K m H v d
  | _, _, _, _, .nil, e => by simp at e
  | _, _, 0, _, .cons r _, e => by simp at e; subst e; exact ⟨_, rfl, r⟩
  | _, _, i + 1, d, .cons _ t, e => by
    obtain ⟨u, h1, h2⟩ := Rps.getv (i := i) (v := d) t (by simpa using e)
    exact ⟨u, by simpa using h1, h2⟩
theorem Rps.append : ∀ {ds es : List PyData} {vs us : List V}, Rps K m H vs ds → Rps K m H us es → Rps K m H (vs ++ us) (ds ++ es)
  | _, _, _, _, .nil, s => s
  | _, _, _, _, .cons r t, s => .cons r (Rps.append t s)
theorem Rps.take : ∀ {ds : List PyData} {vs : List V} (n : Nat), Rps K m H vs ds → Rps K m H (vs.take n) (ds.take n)
  | _, _, 0, _ => .nil
  | _, _, _ + 1, .nil => .nil
  | _, _, n + 1, .cons r t => .cons r (Rps.take n t)
theorem Rps.drop : ∀ {ds : List PyData} {vs : List V} (n : Nat), Rps K m H vs ds → Rps K m H (vs.drop n) (ds.drop n)
  | _, _, 0, r => r
  | _, _, _ + 1, .nil => .nil
  | _, _, n + 1, .cons _ t => Rps.drop n t
theorem Rps.rev {ds : List PyData} {vs : List V} (h : Rps K m H vs ds) : Rps K m H vs.reverse ds.reverse := by
  induction ds generalizing vs with
  | nil => cases h; exact .nil
  | cons d ds ih =>
    cases h with
    | cons a b =>
      rw [List.reverse_cons, List.reverse_cons]
      exact (ih b).append (.cons a .nil)
end

/-! ## the frame and the store -/
abbrev Env := List (Option D)
structure Sim (K : PySem.W.Frag) (m : Ad) (H : Hp) (σ : L2.St) (ρ : Env) (g : G) : Prop where
  slot : ∀ (i : Nat) (d : D), ρ[i]? = some (some d) → ∃ v, σ[i]? = some (some v) ∧ RpD K m H v d
  len : σ.length = ρ.length
  sg : SG K m H g
theorem Sim.mono {K : PySem.W.Frag} {m m1 : Ad} {H H1 : Hp} {σ : L2.St} {ρ : Env} {g g1 : G} (s : Sim K m H σ ρ g) (e : Ext m H m1 H1) (sg : SG K m1 H1 g1) : Sim K m1 H1 σ ρ g1 :=
  ⟨fun i d h => let ⟨v, h1, h2⟩ := s.slot i d h; ⟨v, h1, h2.mono e⟩, s.len, sg⟩
theorem Sim.set {K : PySem.W.Frag} {m : Ad} {H : Hp} {σ : L2.St} {ρ : Env} {g : G} {v : V} {d : D} (s : Sim K m H σ ρ g) (i : Nat) (r : RpD K m H v d) : Sim K m H (σ.set i (some v)) (ρ.set i (some d)) g := by
  refine ⟨fun j e h => ?_, by rw [List.length_set, List.length_set, s.len], s.sg⟩
  by_cases hij : i = j
  · subst hij
    rw [List.getElem?_set] at h ⊢
    by_cases hl : i < ρ.length
    · rw [if_pos rfl, if_pos hl] at h
      cases h
      rw [if_pos rfl, if_pos (by rw [s.len]; exact hl)]
      exact ⟨v, rfl, r⟩
    · rw [if_pos rfl, if_neg hl] at h; cases h
  · rw [List.getElem?_set_ne hij] at h ⊢
    exact s.slot j e h

/-! ## what a result says of the goal -/
/-- what an exception's class value and dict are -/
def RpX (mg : Str → Option Value) (H : Hp) (x : Exc) (cv : Value) (od : Option Addr) : Prop := mg x.cls = some cv ∧ x.fs = [] ∧ od = none

section
variable (K : PySem.W.Frag) (mg : Str → Option Value) (E : XK)
/-- any kind of result: w stands for x by Rel -/
def Lf {α β : Type} (Rel : Ad → Hp → β → α → Prop) (m : Ad) (H : Hp) (r : R α) (Q : β → Hp → Prop) : Prop :=
  match r with
  | .ok x g => ∀ m' H' w, Ext m H m' H' → SG K m' H' g → Rel m' H' w x → Q w H'
  | .exc x g => ∀ m' H' cv od, Ext m H m' H' → SG K m' H' g → RpX mg H' x cv od → E cv od H'
  | .stuck => False
end
section
variable {K : PySem.W.Frag} {mg : Str → Option Value} {E : XK} {α β γ δ : Type} {Rel : Ad → Hp → β → α → Prop} {Rel' : Ad → Hp → δ → γ → Prop} {m m1 : Ad} {H H1 : Hp}
theorem Lf.mono {r : R α} {Q Q' : β → Hp → Prop} (h : Lf K mg E Rel m H r Q) (q : ∀ w H, Q w H → Q' w H) : Lf K mg E Rel m H r Q' := by
  cases r with
  | ok x g => exact fun m' H' w a b c => q w H' (h m' H' w a b c)
  | exc x g => exact h
  | stuck => exact h
/-- a result at a later state -/
theorem Lf.later {r : R α} {Q : β → Hp → Prop} (h : Lf K mg E Rel m H r Q) (e : Ext m H m1 H1) : Lf K mg E Rel m1 H1 r Q := by
  cases r with
  | ok x g => exact fun m' H' w a b c => h m' H' w (e.trans a) b c
  | exc x g => exact fun m' H' cv od a b c => h m' H' cv od (e.trans a) b c
  | stuck => exact h
/-- THE STEP -/
theorem Lf.bind {r : R α} {k : α → G → R γ} {Q : δ → Hp → Prop} (h : Lf K mg E Rel' m H (r.bind k) Q) :
    Lf K mg E Rel m H r (fun w H1 => ∃ m1 x g1, Ext m H m1 H1 ∧ SG K m1 H1 g1 ∧ Rel m1 H1 w x ∧ Lf K mg E Rel' m1 H1 (k x g1) Q) := by
  cases r with
  | ok x g => exact fun m' H' w a b c => ⟨m', x, g, a, b, c, Lf.later h a⟩
  | exc x g => exact h
  | stuck => exact h
theorem Lf.ok {x : α} {g : G} {w : β} {Q : β → Hp → Prop} (h : Lf K mg E Rel m H (.ok x g) Q) (sg : SG K m H g) (r : Rel m H w x) : Q w H := h m H w Ext.refl sg r
end

/-- an expression; a test; an argument list -/
def LE (K : PySem.W.Frag) (mg : Str → Option Value) (E : XK) (f : Env → G → R D) : TE := fun σ H Q => ∃ m ρ g, Sim K m H σ ρ g ∧ Lf K mg E (RpD K) m H (f ρ g) Q
def LT (K : PySem.W.Frag) (mg : Str → Option Value) (E : XK) (f : Env → G → R Bool) : TT := fun σ H Q => ∃ m ρ g, Sim K m H σ ρ g ∧ Lf K mg E (fun _ _ (b : Bool) c => b = c) m H (f ρ g) Q
def LA (K : PySem.W.Frag) (mg : Str → Option Value) (E : XK) (f : Env → G → R (List D)) : TA := fun σ H Q => ∃ m ρ g, Sim K m H σ ρ g ∧ Lf K mg E (RpDs K) m H (f ρ g) Q

/-! ## statements -/
inductive SR where
  | nx (ρ : Env) (g : G)
  | rt (d : D) (g : G)
  | bk (ρ : Env) (g : G)
  | ct (ρ : Env) (g : G)
  | exc (x : Exc) (g : G)
  | stuck
def SR.andThen (r : SR) (k : Env → G → SR) : SR := match r with
  | .nx ρ g => k ρ g
  | r => r
def R.toS {α : Type} (r : R α) (k : α → G → SR) : SR := match r with
  | .ok x g => k x g
  | .exc x g => .exc x g
  | .stuck => .stuck
@[simp] theorem R.toS_ok {α : Type} (x : α) (g : G) (k : α → G → SR) : (R.ok x g).toS k = k x g := rfl
@[simp] theorem R.toS_exc {α : Type} (x : Exc) (g : G) (k : α → G → SR) : (R.exc x g : R α).toS k = SR.exc x g := rfl
@[simp] theorem R.toS_stuck {α : Type} (k : α → G → SR) : (R.stuck : R α).toS k = SR.stuck := rfl
@[simp] theorem SR.andThen_nx (ρ : Env) (g : G) (k : Env → G → SR) : (SR.nx ρ g).andThen k = k ρ g := rfl
@[simp] theorem SR.andThen_rt (d : D) (g : G) (k : Env → G → SR) : (SR.rt d g).andThen k = .rt d g := rfl
@[simp] theorem SR.andThen_bk (ρ : Env) (g : G) (k : Env → G → SR) : (SR.bk ρ g).andThen k = .bk ρ g := rfl
@[simp] theorem SR.andThen_ct (ρ : Env) (g : G) (k : Env → G → SR) : (SR.ct ρ g).andThen k = .ct ρ g := rfl
@[simp] theorem SR.andThen_exc (x : Exc) (g : G) (k : Env → G → SR) : (SR.exc x g).andThen k = .exc x g := rfl
@[simp] theorem SR.andThen_stuck (k : Env → G → SR) : (SR.stuck).andThen k = .stuck := rfl

section
variable (K : PySem.W.Frag) (mg : Str → Option Value) (E : XK)
def Ls (m : Ad) (H : Hp) (r : SR) (D : Ends) : Prop :=
  match r with
  | .nx ρ g => ∀ m' H' σ', Ext m H m' H' → Sim K m' H' σ' ρ g → D.nx σ' H'
  | .rt d g => ∀ m' H' v, Ext m H m' H' → SG K m' H' g → RpD K m' H' v d → D.rt v H'
  | .bk ρ g => ∀ m' H' σ', Ext m H m' H' → Sim K m' H' σ' ρ g → D.bk σ' H'
  | .ct ρ g => ∀ m' H' σ', Ext m H m' H' → Sim K m' H' σ' ρ g → D.ct σ' H'
  | .exc x g => ∀ m' H' cv od, Ext m H m' H' → SG K m' H' g → RpX mg H' x cv od → E cv od H'
  | .stuck => False
def LS (f : Env → G → SR) : TS := fun D σ H => ∃ m ρ g, Sim K m H σ ρ g ∧ Ls K mg E m H (f ρ g) D
end
section
variable {K : PySem.W.Frag} {mg : Str → Option Value} {E : XK} {α β : Type} {Rel : Ad → Hp → β → α → Prop} {m m1 : Ad} {H H1 : Hp}
theorem Ls.later {r : SR} {D : Ends} (h : Ls K mg E m H r D) (e : Ext m H m1 H1) : Ls K mg E m1 H1 r D := by
  cases r with
  | nx ρ g => exact fun m' H' s a b => h m' H' s (e.trans a) b
  | rt d g => exact fun m' H' s a b c => h m' H' s (e.trans a) b c
  | bk ρ g => exact fun m' H' s a b => h m' H' s (e.trans a) b
  | ct ρ g => exact fun m' H' s a b => h m' H' s (e.trans a) b
  | exc x g => exact fun m' H' cv od a b c => h m' H' cv od (e.trans a) b c
  | stuck => exact h
theorem Ls.ofR {r : R α} {k : α → G → SR} {D : Ends} (h : Ls K mg E m H (r.toS k) D) :
    Lf K mg E Rel m H r (fun w H1 => ∃ m1 x g1, Ext m H m1 H1 ∧ SG K m1 H1 g1 ∧ Rel m1 H1 w x ∧ Ls K mg E m1 H1 (k x g1) D) := by
  cases r with
  | ok x g => exact fun m' H' w a b c => ⟨m', x, g, a, b, c, Ls.later h a⟩
  | exc x g => exact h
  | stuck => exact h
theorem Ls.seq {r : SR} {k : Env → G → SR} {D : Ends} (h : Ls K mg E m H (r.andThen k) D) : Ls K mg E m H r { D with nx := LS K mg E k D } := by
  cases r with
  | nx ρ g => exact fun m' H' σ' a b => ⟨m', ρ, g, b, Ls.later h a⟩
  | rt d g => exact h
  | bk ρ g => exact h
  | ct ρ g => exact h
  | exc x g => exact h
  | stuck => exact h
end
end En

set_option Elab.async false
set_option linter.all false
set_option maxRecDepth 100000
namespace En
open PySem PySem.Spec PyProof.Rows L2

/-! ## the small language -/
inductive BO where
  | add | sub | mul | mod | fdiv | pow
inductive CO where
  | eq | ne | lt | le | gt | ge | isN | notN | inn | nin
inductive TY where
  | int | bool | str | tuple | list | dict
inductive BF where
  | len | repr | all | any | tuple | list | max | min | sum
mutual
inductive E where
  | stuck
  | lit (d : PyData)
  | var (i : Nat)
  | call (f : Str) (a : Es)
  | bf (f : BF) (mu : Bool) (a : Es)
  | bin (o : BO) (mu : Bool) (a b : E)
  | cmp (o : CO) (a b : E)
  | chain (o o' : CO) (a b c : E)
  | and_ (a b : E)
  | or_ (a b : E)
  | not_ (a : E)
  | neg (a : E)
  | ite (c a b : E)
  | tup (a : Es)
  | lst (mu : Bool) (a : Es)
  | dct (k : List Key) (a : Es)
  | ix (a b : E)
  | sl (a : E) (lo hi : Op)
  | rev (a : E)
  | isi (a : E) (t : TY)
  | comp (mu : Bool) (tt : Bool) (tg : List Nat) (it : It) (c : Op) (e : E)
inductive Es where
  | nil
  | cons (a : E) (r : Es)
inductive Op where
  | no
  | so (a : E)
inductive It where
  | seq (a : E)
  | rng (a : E)
  | rng2 (a b : E)
  | enum (a : E)
end
inductive S where
  | stuck
  | skip
  | seq (a b : S)
  | ret (e : E)
  | retN
  | ex (e : E)
  | app (o e : E)
  | asg (tt : Bool) (tg : List Nat) (e : E)
  | par (i j : Nat) (a b : E)
  | setIx (o i e : E)
  | ite (c : E) (a b : S)
  | for_ (tt : Bool) (tg : List Nat) (it : It) (b : S)
  | brk
  | cnt

/-! ## its meaning -/
abbrev D.b (c : Bool) : D := .p (.bool c)
def lim : Nat := 1000000
def listOf (g : G) : D → Option (List D)
  | .p (.list ds) => some (ds.map .p)
  | .ref n => match g[n]? with
    | some (.lst ds) => some ds
    | _ => none
  | .kl ds => some (ds.map .p)
  | _ => none
/-- .. one that stands by itself -/
def catOf (g : G) : D → Option (List D)
  | .kl _ => none
  | d => listOf g d
def allP : List D → Option (List PyData)
  | [] => some []
  | .p d :: r => (allP r).map (d :: ·)
  | _ :: _ => none
/-- a new list -/
def fin (mu : Bool) (ds : List D) (g : G) : R D :=
  if ds.length ≤ lim then
    if mu then .ok (.ref g.length) (g ++ [.lst ds]) else match allP ds with
      | some ps => .ok (.p (.list ps)) g
      | none => .stuck
  else .stuck
/-- a new tuple -/
def finT (ds : List D) (g : G) : R D :=
  if ds.length ≤ lim then match allP ds with
    | some ps => .ok (.p (.tuple ps)) g
    | none => .stuck
  else .stuck
def truth (g : G) : D → R Bool
  | .kl ds => .ok (!ds.isEmpty) g
  | .p .none => .ok false g
  | .p (.bool b) => .ok b g
  | .p (.int i) => .ok (i != 0) g
  | .p (.str x) => if x.length ≤ lim then .ok (x.length != 0) g else .stuck
  | .p (.list ds) => .ok (!ds.isEmpty) g
  | .p (.tuple ds) => .ok (!ds.isEmpty) g
  | .ref n => match g[n]? with
    | some (.lst ds) => .ok (!ds.isEmpty) g
    | _ => .stuck
  | _ => .stuck
def asB (d : D) (g : G) : R Bool := match d with
  | .p (.bool b) => .ok b g
  | _ => .stuck
def opAdd (mu : Bool) (x y : D) (g : G) : R D := match x, y with
  | .p (.int i), .p (.int j) => .ok (.p (.int (i + j))) g
  | .p (.str a), .p (.str b) => if a.length + b.length ≤ lim then .ok (.p (.str (a ++ b))) g else .stuck
  | .p (.tuple a), .p (.tuple b) => if a.length + b.length ≤ lim then .ok (.p (.tuple (a ++ b))) g else .stuck
  | x, y => match catOf g x, catOf g y with
    | some a, some b => fin mu (a ++ b) g
    | _, _ => .stuck
def opSub (x y : D) (g : G) : R D := match x, y with
  | .p (.int i), .p (.int j) => .ok (.p (.int (i - j))) g
  | _, _ => .stuck
def opMul (x y : D) (g : G) : R D := match x, y with
  | .p (.int i), .p (.int j) => if (-(2 ^ 64) < i ∧ i < 2 ^ 64) ∨ (-(2 ^ 64) < j ∧ j < 2 ^ 64) then .ok (.p (.int (i * j))) g else .stuck
  | .p (.tuple a), .p (.int j) => if 2 ≤ j ∧ j < 1000 ∧ a ≠ [] ∧ a.length * j.toNat ≤ lim then .ok (.p (.tuple (List.replicate j.toNat a).flatten)) g else .stuck
  | _, _ => .stuck
def opMod (x y : D) (g : G) : R D := match x, y with
  | .p (.int i), .p (.int j) => if 0 < j then .ok (.p (.int (i % j))) g else .stuck
  | _, _ => .stuck
def opDiv (x y : D) (g : G) : R D := match x, y with
  | .p (.int i), .p (.int j) => if 0 < j ∧ j < 1073741824 then .ok (.p (.int (i / j))) g else .stuck
  | _, _ => .stuck
def opPow (x y : D) (g : G) : R D := match x, y with
  | .p (.int i), .p (.int j) => if 0 ≤ j ∧ j ≤ 1000 ∧ i.natAbs < 2 ^ 64 then .ok (.p (.int (i ^ j.toNat))) g else .stuck
  | _, _ => .stuck
def opNeg (x : D) (g : G) : R D := match x with
  | .p (.int i) => .ok (.p (.int (-i))) g
  | _ => .stuck
def opBin (o : BO) (mu : Bool) (x y : D) (g : G) : R D := match o with
  | .add => opAdd mu x y g
  | .sub => opSub x y g
  | .mul => opMul x y g
  | .mod => opMod x y g
  | .fdiv => opDiv x y g
  | .pow => opPow x y g
def opRel (p : Int → Int → Bool) (x y : D) (g : G) : R D := match x, y with
  | .p (.int i), .p (.int j) => .ok (.b (p i j)) g
  | _, _ => .stuck
def opEq (x y : D) (g : G) : R D := match x, y with
  | .p (.int i), .p (.int j) => .ok (.b (decide (i = j))) g
  | .p (.str i), .p (.str j) => .ok (.b (decide (i = j))) g
  | .p (.tuple a), .p (.tuple []) => .ok (.b a.isEmpty) g
  | .p a, .p b => if SeqAt.shaped a = true ∧ SeqAt.shaped b = true then .ok (.b (PyData.eqv a b)) g else .stuck
  | _, _ => .stuck
def opNe (x y : D) (g : G) : R D := match x, y with
  | .p (.int i), .p (.int j) => .ok (.b (!decide (i = j))) g
  | .p (.str i), .p (.str j) => .ok (.b (!decide (i = j))) g
  | .p a, .p b => if SeqAt.shaped a = true ∧ SeqAt.shaped b = true then .ok (.b (!PyData.eqv a b)) g else .stuck
  | _, _ => .stuck
def PyData.isN : PyData → Bool
  | .none => true
  | _ => false
def opIs (n : Bool) (x y : D) (g : G) : R D := match x, y with
  | .p a, .p .none => .ok (.b (PyData.isN a != n)) g
  | .ref _, .p .none => .ok (.b n) g
  | _, _ => .stuck
def opCmp (o : CO) (x y : D) (g : G) : R D := match o with
  | .lt => opRel (fun i j => decide (i < j)) x y g
  | .le => opRel (fun i j => decide (i ≤ j)) x y g
  | .gt => opRel (fun i j => decide (j < i)) x y g
  | .ge => opRel (fun i j => decide (j ≤ i)) x y g
  | .eq => opEq x y g
  | .ne => opNe x y g
  | .isN => opIs false x y g
  | .notN => opIs true x y g
  | _ => .stuck
def D.isTy : D → TY → Bool
  | .p (.int _), .int => true
  | .p (.bool _), .int => true
  | .p (.bool _), .bool => true
  | .p (.str _), .str => true
  | .p (.tuple _), .tuple => true
  | .p (.list _), .list => true
  | .ref _, .list => true
  | .p (.dict _), .dict => true
  | _, _ => false
def isiD (x : D) (t : TY) (g : G) : R D := match x with
  | .exc _ _ => .stuck
  | .kl _ => .stuck
  | .ref n => match g[n]? with
    | some (.lst _) => .ok (.b (match t with | .list => true | _ => false)) g
    | _ => .stuck
  | x => .ok (.b (x.isTy t)) g
/-- data without anything of the store -/
def pure? (g : G) (d : D) : Option PyData := match d with
  | .p d => some d
  | d => match listOf g d with
    | some ds => (allP ds).map .list
    | none => none
def boolsD : List D → Option (List Bool)
  | [] => some []
  | .p (.bool b) :: r => (boolsD r).map (b :: ·)
  | _ :: _ => none
def intsD : List D → Option (List Int)
  | [] => some []
  | .p (.int b) :: r => (intsD r).map (b :: ·)
  | _ :: _ => none
def bfLen (x : D) (g : G) : R D := match x with
  | .p (.tuple a) => .ok (.p (.int a.length)) g
  | .p (.str a) => if a.length ≤ lim then .ok (.p (.int a.length)) g else .stuck
  | x => match listOf g x with
    | some a => .ok (.p (.int a.length)) g
    | none => .stuck
def bfRepr (x : D) (g : G) : R D := match pure? g x with
  | some d => if d.showable = true ∧ d.shown.length ≤ lim ∧ d.depth ≤ 60 then .ok (.p (.str d.shown)) g else .stuck
  | none => .stuck
def bfAll (all : Bool) (x : D) (g : G) : R D := match (listOf g x).bind boolsD with
  | some bs => .ok (.b (if all then bs.all id else bs.any id)) g
  | none => .stuck
def bfTuple (x : D) (g : G) : R D := match x with
  | .p (.tuple a) => .ok (.p (.tuple a)) g
  | x => match listOf g x with
    | some a => finT a g
    | none => .stuck
def bfList (mu : Bool) (x : D) (g : G) : R D := match x with
  | .p (.tuple a) => fin mu (a.map .p) g
  | x => match listOf g x with
    | some a => fin mu a g
    | none => .stuck
def bfSum (x : D) (g : G) : R D := match (listOf g x).bind intsD with
  | some ns => .ok (.p (.int ns.sum)) g
  | none => .stuck
def bfMM (mx : Bool) (x y : D) (g : G) : R D := match x, y with
  | .p (.int i), .p (.int j) => .ok (.p (.int (if mx then (if j > i then j else i) else (if j < i then j else i)))) g
  | _, _ => .stuck
def opBf (f : BF) (mu : Bool) (xs : List D) (g : G) : R D := match f, xs with
  | .len, [x] => bfLen x g
  | .repr, [x] => bfRepr x g
  | .all, [x] => bfAll true x g
  | .any, [x] => bfAll false x g
  | .tuple, [x] => bfTuple x g
  | .list, [x] => bfList mu x g
  | .max, [x, y] => bfMM true x y g
  | .min, [x, y] => bfMM false x y g
  | .sum, [x] => bfSum x g
  | _, _ => .stuck
def opIx (x y : D) (g : G) : R D := match x, y with
  | .p (.tuple a), .p (.int i) => match atI a i with
    | some d => .ok (.p d) g
    | none => .stuck
  | x, .p (.int i) => match (listOf g x).bind fun a => atI a i with
    | some d => .ok d g
    | none => .stuck
  | _, _ => .stuck
def cutP {α : Type} (xs : List α) (lo hi : Option Int) : List α := (xs.drop (HT.sIx xs.length 0 lo)).take (HT.sIx xs.length xs.length hi - HT.sIx xs.length 0 lo)
def opSl (x : D) (lo hi : Option Int) (g : G) : R D := match x with
  | .p (.tuple a) => .ok (.p (.tuple (cutP a lo hi))) g
  | _ => .stuck
def opRev (x : D) (g : G) : R D := match x with
  | .p (.tuple a) => .ok (.p (.tuple a.reverse)) g
  | _ => .stuck
def part (d : Option D) (g : G) : R (Option Int) := match d with
  | none => .ok none g
  | some (.p (.int i)) => .ok (some i) g
  | _ => .stuck
/-- what is walked -/
inductive Src where
  | vals (ds : List D)
  | live (n k : Nat)
def Src.get : Src → Nat → G → Option (Option D)
  | .vals ds, i, _ => some ds[i]?
  | .live n _, i, g => match g[n]? with
    | some (.lst ds) => some ds[i]?
    | _ => none
def Src.fuel : Src → Nat
  | .vals ds => ds.length + 1
  | .live _ k => k + 1
def enumL : Nat → List D → Option (List D)
  | _, [] => some []
  | i, .p d :: r => (enumL (i + 1) r).map (.p (.tuple [.int i, d]) :: ·)
  | _, _ :: _ => none
def rngL (lo : Int) : Nat → List D
  | 0 => []
  | n + 1 => .p (.int lo) :: rngL (lo + 1) n
def srcSeq (x : D) (g : G) : R Src := match x with
  | .p (.tuple a) => .ok (.vals (a.map .p)) g
  | .p (.list a) => .ok (.vals (a.map .p)) g
  | .kl a => .ok (.vals (a.map .p)) g
  | .ref n => match g[n]? with
    | some (.lst ds) => .ok (.live n ds.length) g
    | _ => .stuck
  | _ => .stuck
def srcRng (lo hi : D) (g : G) : R Src := match lo, hi with
  | .p (.int i), .p (.int j) => if -(2 ^ 62) ≤ i ∧ i < 2 ^ 62 ∧ -(2 ^ 62) ≤ j ∧ j < 2 ^ 62 then .ok (.vals (rngL i (j - i).toNat)) g else .stuck
  | _, _ => .stuck
def srcEnum (x : D) (g : G) : R Src := match x with
  | .p (.list a) => match enumL 0 (a.map .p) with
    | some ds => .ok (.vals ds) g
    | none => .stuck
  | .p (.tuple a) => match enumL 0 (a.map .p) with
    | some ds => .ok (.vals ds) g
    | none => .stuck
  | _ => .stuck
def sets : List Nat → List D → Env → Env
  | i :: is, d :: ds, ρ => sets is ds (ρ.set i (some d))
  | _, _, ρ => ρ
/-- a target -/
def asgT (tt : Bool) (tg : List Nat) (d : D) (ρ : Env) : Option Env := match tt, tg, d with
  | false, [i], d => some (ρ.set i (some d))
  | true, tg, .p (.tuple ds) => if ds.length = tg.length then some (sets tg (ds.map .p) ρ) else none
  | _, _, _ => none
def wipeD (ρ : Env) : List Nat → Env
  | [] => ρ
  | v :: vs => (wipeD ρ vs).set v none
/-- a comprehension's turns -/
def compG (get : Nat → G → Option (Option D)) (f : D → G → R (Option D)) : Nat → Nat → List D → G → R (List D)
  | 0, _, _, _ => .stuck
  | k + 1, i, acc, g => match get i g with
    | none => .stuck
    | some none => .ok acc g
    | some (some d) => (f d g).bind fun o g1 => match o with
      | none => compG get f k (i + 1) acc g1
      | some y => if acc.length < lim then compG get f k (i + 1) (acc ++ [y]) g1 else .stuck
def forG (get : Nat → G → Option (Option D)) (f : D → Env → G → SR) : Nat → Nat → Env → G → SR
  | 0, _, _, _ => .stuck
  | k + 1, i, ρ, g => match get i g with
    | none => .stuck
    | some none => .nx ρ g
    | some (some d) => match f d ρ g with
      | .nx ρ' g' => forG get f k (i + 1) ρ' g'
      | .ct ρ' g' => forG get f k (i + 1) ρ' g'
      | .bk ρ' g' => .nx ρ' g'
      | r => r
def compF (fI : Env → G → R Src) (fc : Env → G → R Bool) (fe : Env → G → R D) (mu tt : Bool) (tg : List Nat) : Env → G → R D := fun ρ g => (fI ρ g).bind fun s g => (compG s.get (fun d g => match asgT tt tg d (wipeD ρ tg) with
        | none => .stuck
        | some ρ' => (fc ρ' g).nox.bind fun k g => if k then (fe ρ' g).nox.bind fun y g => .ok (some y) g else .ok none g) s.fuel 0 [] g).bind fun ys g => fin mu ys g
/-- as a test, or as a value -/
def tst (t : Bool) (r : R D) : R D := if t then r.bind fun d g => (truth g d).bind fun b g => .ok (.b b) g else r
/-- o.append(..), o's list there ahead of what is handed in -/
def appF (x : D) (f : G → R D) (ρ : Env) (g : G) : SR := match x with
  | .ref n => match g[n]? with
    | some (.lst _) => (f g).toS fun y g => match g[n]? with
      | some (.lst ds) => if ds.length < lim then .nx ρ (g.set n (.lst (ds ++ [y]))) else .stuck
      | _ => .stuck
    | _ => .stuck
  | _ => .stuck
section
variable (Φ : Str → List D → G → R D)
mutual
def den : E → Bool → Env → G → R D
  | .stuck, _, _, _ => .stuck
  | .lit d, t, _, g => tst t (.ok (.p d) g)
  | .var i, t, ρ, g => tst t (match ρ[i]? with
    | some (some d) => .ok d g
    | _ => .stuck)
  | .call f a, t, ρ, g => tst t ((dens a ρ g).bind fun xs g => Φ f xs g)
  | .bf f mu a, t, ρ, g => tst t ((dens a ρ g).bind fun xs g => opBf f mu xs g)
  | .bin o mu a b, t, ρ, g => tst t ((den a false ρ g).bind fun x g => (den b false ρ g).bind fun y g => opBin o mu x y g)
  | .cmp o a b, _, ρ, g => (den a false ρ g).bind fun x g => (den b false ρ g).bind fun y g => opCmp o x y g
  | .chain o o' a b c, _, ρ, g => (den a false ρ g).bind fun x g => (den b false ρ g).bind fun y g => (opCmp o x y g).bind fun r g => (asB r g).bind fun k g => if k then (den c false ρ g).bind fun z g => opCmp o' y z g else .ok (.b false) g
  | .and_ a b, t, ρ, g => (den a t ρ g).bind fun x g => (asB x g).bind fun k g => if k then den b t ρ g else .ok (.b false) g
  | .or_ a b, t, ρ, g => (den a t ρ g).bind fun x g => (asB x g).bind fun k g => if k then .ok (.b true) g else den b t ρ g
  | .not_ a, t, ρ, g => (den a t ρ g).bind fun x g => (asB x g).bind fun k g => .ok (.b (!k)) g
  | .neg a, t, ρ, g => tst t ((den a false ρ g).bind fun x g => opNeg x g)
  | .ite c a b, t, ρ, g => (den c true ρ g).bind fun x g => (asB x g).bind fun k g => if k then den a t ρ g else den b t ρ g
  | .tup a, t, ρ, g => tst t ((dens a ρ g).bind fun xs g => finT xs g)
  | .lst mu a, t, ρ, g => tst t ((dens a ρ g).bind fun xs g => fin mu xs g)
  | .dct ks a, t, ρ, g => tst t ((dens a ρ g).bind fun xs g => match allP xs with
    | some ps => if ks.length = ps.length ∧ ps.length ≤ 1 ∧ ps.all flatP = true then .ok (.p (.dict ((ks.map kd).zip ps))) g else .stuck
    | none => .stuck)
  | .ix a b, t, ρ, g => tst t ((den a false ρ g).bind fun x g => (den b false ρ g).bind fun y g => opIx x y g)
  | .sl a lo hi, t, ρ, g => tst t ((den a false ρ g).bind fun x g => (denO lo ρ g).bind fun l g => (part l g).bind fun l g => (denO hi ρ g).bind fun h g => (part h g).bind fun h g => opSl x l h g)
  | .rev a, t, ρ, g => tst t ((den a false ρ g).bind fun x g => opRev x g)
  | .isi a ty, t, ρ, g => tst t ((den a false ρ g).bind fun x g => isiD x ty g)
  | .comp mu tt tg it c e, t, ρ, g => tst t (compF (fun ρ g => denI it ρ g) (fun ρ g => denC c ρ g) (fun ρ g => den e false ρ g) mu tt tg ρ g)
def dens : Es → Env → G → R (List D)
  | .nil, _, g => .ok [] g
  | .cons a r, ρ, g => (den a false ρ g).bind fun x g => (dens r ρ g).bind fun xs g => .ok (x :: xs) g
def denO : Op → Env → G → R (Option D)
  | .no, _, g => .ok none g
  | .so a, ρ, g => (den a false ρ g).bind fun x g => .ok (some x) g
/-- a clause's test -/
def denC : Op → Env → G → R Bool
  | .no, _, g => .ok true g
  | .so a, ρ, g => (den a true ρ g).bind fun x g => asB x g
def denI : It → Env → G → R Src
  | .seq a, ρ, g => (den a false ρ g).bind fun x g => srcSeq x g
  | .rng a, ρ, g => (den a false ρ g).bind fun x g => srcRng (.p (.int 0)) x g
  | .rng2 a b, ρ, g => (den a false ρ g).bind fun x g => (den b false ρ g).bind fun y g => srcRng x y g
  | .enum a, ρ, g => (den a false ρ g).bind fun x g => srcEnum x g
end
def denT (e : E) (ρ : Env) (g : G) : R Bool := (den Φ e true ρ g).bind fun x g => asB x g
def denS : S → Env → G → SR
  | .stuck, _, _ => .stuck
  | .skip, ρ, g => .nx ρ g
  | .seq a b, ρ, g => (denS a ρ g).andThen fun ρ g => denS b ρ g
  | .ret e, ρ, g => (den Φ e false ρ g).toS fun d g => .rt d g
  | .retN, _, g => .rt (.p .none) g
  | .ex e, ρ, g => (den Φ e false ρ g).toS fun _ g => .nx ρ g
  | .app o e, ρ, g => (den Φ o false ρ g).toS fun x g => appF x (fun g => den Φ e false ρ g) ρ g
  | .asg tt tg e, ρ, g => (den Φ e false ρ g).toS fun d g => match asgT tt tg d ρ with
    | some ρ' => .nx ρ' g
    | none => .stuck
  | .par i j a b, ρ, g => (den Φ a false ρ g).toS fun x g => (den Φ b false ρ g).toS fun y g => .nx ((ρ.set i (some x)).set j (some y)) g
  | .setIx o i e, ρ, g => (den Φ e false ρ g).toS fun y g => (den Φ o false ρ g).toS fun x g => (den Φ i false ρ g).toS fun k g => match x, k with
    | .ref n, .p (.int k) => match g[n]? with
      | some (.lst ds) => match ixN ds.length k with
        | some j => .nx ρ (g.set n (.lst (ds.set j y)))
        | none => .stuck
      | _ => .stuck
    | _, _ => .stuck
  | .ite c a b, ρ, g => (denT Φ c ρ g).toS fun k g => if k then denS a ρ g else denS b ρ g
  | .for_ tt tg it b, ρ, g => (denI Φ it ρ g).toS fun s g => forG s.get (fun d ρ g => match asgT tt tg d ρ with
      | none => .stuck
      | some ρ' => denS b ρ' g) s.fuel 0 ρ g
  | .brk, ρ, g => .bk ρ g
  | .cnt, ρ, g => .ct ρ g
end
def fnR : SR → R D
  | .nx _ g => .ok (.p .none) g
  | .rt d g => .ok d g
  | .exc x g => .exc x g
  | _ => .stuck
structure Ent where
  ps : List Str
  n : Nat
  body : S
def startD (n : Nat) (ds : List D) : Env := ds.map some ++ List.replicate (n - ds.length) none
def Fn (T : List (Str × Ent)) : Nat → Str → List D → G → R D
  | 0, _, _, _ => .stuck
  | k + 1, f, ds, g => match T.lookup f with
    | none => .stuck
    | some e => if ds.length = e.ps.length then fnR (denS (Fn T k) e.body (startD e.n ds) g) else .stuck
end En

set_option Elab.async false
set_option linter.all false
set_option maxRecDepth 100000
namespace En
open PySem PySem.Spec PyProof.Rows L2

section
variable {K : PySem.W.Frag} {mg : Str → Option Value} {X0 : XK} {z z1 : Ad} {H H1 : Hp} {g : G} {v : V} {d : D}
theorem lim_le : lim ≤ sizeLine := by decide
theorem rp_int {i : Int} (h : RpD K z H v (.p (.int i))) : v = .int i := by cases (show Rp K z H v (.int i) from h); rfl
theorem rp_bool {b : Bool} (h : RpD K z H v (.p (.bool b))) : v = .bl b := by cases (show Rp K z H v (.bool b) from h); rfl
theorem rp_str {x : Str} (h : RpD K z H v (.p (.str x))) : v = .str x := by cases (show Rp K z H v (.str x) from h); rfl
theorem rp_none (h : RpD K z H v (.p .none)) : v = .non := by cases (show Rp K z H v .none from h); rfl
theorem rp_tup {ds : List PyData} (h : RpD K z H v (.p (.tuple ds))) : ∃ a xs, v = .ref a ∧ TIn K z H a xs ∧ Rps K z H xs ds := by
  cases (show Rp K z H v (.tuple ds) from h) with
  | tup a b => exact ⟨_, _, rfl, a, b⟩
theorem rp_lst {ds : List PyData} (h : RpD K z H v (.p (.list ds))) : ∃ a xs, v = .ref a ∧ z.out a ∧ H a = some (.lst xs) ∧ Rps K z H xs ds := by
  cases (show Rp K z H v (.list ds) from h) with
  | lst a b c => exact ⟨_, _, rfl, a, b, c⟩
theorem rpds_of : ∀ {ds : List PyData} {xs : List V}, Rps K z H xs ds → RpDs K z H xs (ds.map .p)
  | _, _, .nil => .nil
  | _, _, .cons a b => .cons a (rpds_of b)
theorem rps_of : ∀ {ds : List D} {ps : List PyData} {xs : List V}, allP ds = some ps → RpDs K z H xs ds → Rps K z H xs ps
  | [], _, _, e, h => by cases h; cases e; exact .nil
  | .p d :: r, _, _, e, h => by
    cases h with
    | cons a b =>
      unfold allP at e
      cases q : allP r with
      | none => rw [q] at e; cases e
      | some ps =>
        rw [q] at e; cases e
        exact .cons a (rps_of q b)
  | .ref _ :: _, _, _, e, _ => by cases e
  | .exc _ _ :: _, _, _, e, _ => by cases e
  | .kl _ :: _, _, _, e, _ => by cases e
theorem allP_map (ps : List PyData) : allP (ps.map .p) = some ps := by
  induction ps with
  | nil => rfl
  | cons a r ih => show (allP (r.map .p)).map (a :: ·) = _; rw [ih]; rfl
theorem allP_len : ∀ {ds : List D} {ps : List PyData}, allP ds = some ps → ds.length = ps.length
  | [], _, e => by cases e; rfl
  | .p d :: r, _, e => by
    unfold allP at e
    cases q : allP r with
    | none => rw [q] at e; cases e
    | some ps => rw [q] at e; cases e; rw [List.length_cons, List.length_cons, allP_len q]
  | .ref _ :: _, _, e => by cases e
  | .exc _ _ :: _, _, e => by cases e
  | .kl _ :: _, _, e => by cases e
theorem rp_list {ds : List D} (h : listOf g d = some ds) (s : SG K z H g) (r : RpD K z H v d) : ∃ a xs, v = .ref a ∧ SqL K H a xs ∧ RpDs K z H xs ds := by
  cases d with
  | p d =>
    cases d with
    | list ps =>
      cases h
      obtain ⟨a, xs, e, _, l, q⟩ := rp_lst r
      exact ⟨a, xs, e, SqL.of l, rpds_of q⟩
    | none => cases h
    | bool b => cases h
    | int i => cases h
    | str x => cases h
    | tuple xs => cases h
    | dict xs => cases h
  | ref n =>
    obtain ⟨a, rfl, e⟩ := r
    unfold listOf at h
    simp only at h
    split at h
    · next ds' q =>
      cases h
      obtain ⟨xs, h1, h2⟩ := s.obj n a _ e q
      exact ⟨a, xs, rfl, SqL.of h1, h2⟩
    · cases h
  | exc c fs => cases h
  | kl ps =>
    cases h
    obtain ⟨a, xs, e, l, q⟩ := r
    exact ⟨a, xs, e, l.sq, rpds_of q⟩
theorem rp_cat {ds : List D} (h : catOf g d = some ds) (s : SG K z H g) (r : RpD K z H v d) : ∃ a xs, v = .ref a ∧ H a = some (.lst xs) ∧ RpDs K z H xs ds := by
  cases d with
  | p d =>
    cases d with
    | list ps =>
      cases h
      obtain ⟨a, xs, e, _, l, q⟩ := rp_lst r
      exact ⟨a, xs, e, l, rpds_of q⟩
    | none => cases h
    | bool b => cases h
    | int i => cases h
    | str x => cases h
    | tuple xs => cases h
    | dict xs => cases h
  | ref n =>
    obtain ⟨a, rfl, e⟩ := r
    unfold catOf listOf at h
    simp only at h
    split at h
    · next ds' q =>
      cases h
      obtain ⟨xs, h1, h2⟩ := s.obj n a _ e q
      exact ⟨a, xs, rfl, h1, h2⟩
    · cases h
  | exc c fs => cases h
  | kl ps => cases h
theorem RpDs.append : ∀ {ds es : List D} {vs us : List V}, RpDs K z H vs ds → RpDs K z H us es → RpDs K z H (vs ++ us) (ds ++ es)
  | _, _, _, _, .nil, s => s
  | _, _, _, _, .cons r t, s => .cons r (RpDs.append t s)
theorem RpDs.get : ∀ {ds : List D} {vs : List V} {i : Nat} {d : D}, RpDs K z H vs ds → ds[i]? = some d → ∃ v, vs[i]? = some v ∧ RpD K z H v d
  | _, _, _, _, .nil, e => by simp at e
  | _, _, 0, _, .cons r _, e => by simp at e; subst e; exact ⟨_, rfl, r⟩
  | _, _, i + 1, d, .cons _ t, e => by
    obtain ⟨u, h1, h2⟩ := RpDs.get (i := i) (d := d) t (by simpa using e)
    exact ⟨u, by simpa using h1, h2⟩
theorem rpds_len {ds : List D} {xs : List V} (h : RpDs K z H xs ds) : xs.length = ds.length := Paired.length h

/-- a new object laid at p, not in the store -/
theorem Ext.new (s : SG K z H g) {p : Addr} {o : HO} (hp : H p = none) : Ext z H z (upd H p o) :=
  ⟨⟨[], by simp, fun _ h => nomatch h⟩, rfl, fun a u h _ => by rw [upd_ne (ne_of_none h hp)]; exact h, fun a _ u h => ⟨u, by rw [upd_ne (ne_of_none h hp)]; exact h⟩⟩
theorem GOk.mono {o : GO} {a : Addr} (e : Wk z H z1 H1) (ha : ∀ u, H a = some u → H1 a = some u) (h : GOk K z H a o) : GOk K z1 H1 a o := by
  cases o with
  | lst ds => obtain ⟨xs, h1, h2⟩ := h; exact ⟨xs, ha _ h1, h2.wk e⟩
  | ins c fs => exact h
theorem SG.new (s : SG K z H g) {p : Addr} {o : HO} (hp : H p = none) : SG K z (upd H p o) g :=
  ⟨s.len, s.nd, fun n a go h1 h2 => GOk.mono (Ext.new s hp).wk (fun u h => by rw [upd_ne (ne_of_none h hp)]; exact h) (s.obj n a go h1 h2), fun a h => let ⟨u, q⟩ := s.lb a h; ⟨u, by rw [upd_ne (ne_of_none q hp)]; exact q⟩, s.bm⟩
/-- .. and in the store -/
theorem Ext.newM (s : SG K z H g) {p : Addr} {o : HO} (hp : H p = none) : Ext z H { z with m := z.m ++ [p] } (upd H p o) :=
  ⟨⟨[p], rfl, fun a h => by rw [List.mem_singleton.mp h]; exact hp⟩, rfl, fun a u h _ => by rw [upd_ne (ne_of_none h hp)]; exact h, fun a _ u h => ⟨u, by rw [upd_ne (ne_of_none h hp)]; exact h⟩⟩
theorem SG.newM (s : SG K z H g) {p : Addr} {xs : List V} {ds : List D} (hp : H p = none) (r : RpDs K z H xs ds) : SG K { z with m := z.m ++ [p] } (upd H p (.lst xs)) (g ++ [.lst ds]) := by
  have e := Ext.newM (o := .lst xs) s hp
  refine ⟨by rw [List.length_append, List.length_append, s.len]; rfl, ?_, fun n a go h1 h2 => ?_, fun a h => let ⟨u, q⟩ := s.lb a h; ⟨u, by rw [upd_ne (ne_of_none q hp)]; exact q⟩, fun a h hm => ?_⟩
  · exact L2.nd_snoc s.nd (s.fresh hp).1
  · by_cases hn : n < z.m.length
    · have h1' : z.m[n]? = some a := by rw [← h1]; exact (List.getElem?_append_left hn).symm
      have h2' : g[n]? = some go := by rw [← h2]; exact (List.getElem?_append_left (by rw [← s.len]; exact hn)).symm
      exact GOk.mono e.wk (fun u h => by rw [upd_ne (ne_of_none h hp)]; exact h) (s.obj n a go h1' h2')
    · have h1' : (z.m ++ [p])[n]? = some a := h1
      rw [List.getElem?_append_right (by omega)] at h1'
      rw [List.getElem?_append_right (by rw [← s.len]; omega)] at h2
      have k : n - z.m.length = 0 := by
        have := (List.getElem?_eq_some_iff.mp h1').1
        simp at this; omega
      rw [k] at h1'
      rw [← s.len, k] at h2
      cases h1'; cases h2
      exact ⟨xs, upd_same, r.wk e.wk⟩
  · rcases List.mem_append.mp hm with q | q
    · exact s.bm a h q
    · rw [List.mem_singleton.mp q] at h
      exact (s.fresh hp).2 h
/-- a new list -/
theorem fin_ok {mu : Bool} {ds : List D} {xs : List V} {Q : VK} (s : SG K z H g) (r : RpDs K z H xs ds) (h : Lf K mg X0 (RpD K) z H (fin mu ds g) Q) : xs.length ≤ sizeLine ∧ ∀ p, H p = none → Q (.ref p) (upd H p (.lst xs)) := by
  unfold fin at h
  split at h
  · next hl =>
    refine ⟨by rw [rpds_len r]; exact Nat.le_trans hl lim_le, fun p hp => ?_⟩
    cases mu with
    | true =>
      exact h _ _ (.ref p) (Ext.newM s hp) (s.newM hp r) ⟨p, rfl, by show (z.m ++ [p])[g.length]? = _; rw [← s.len]; simp⟩
    | false =>
      simp only [Bool.false_eq_true, if_false] at h
      split at h
      · next ps e =>
        have q := rps_of e r
        refine h _ _ (.ref p) (Ext.new s hp) (s.new hp) (.lst (s.fresh hp) upd_same (Rps.mono (Ext.new s hp).wk _ _ q))
      · exact h.elim
  · exact h.elim
theorem finT_ok {ds : List D} {xs : List V} {Q : VK} (s : SG K z H g) (r : RpDs K z H xs ds) (h : Lf K mg X0 (RpD K) z H (finT ds g) Q) : xs.length ≤ sizeLine ∧ ∀ p, H p = none → Q (.ref p) (upd H p (.tup xs)) := by
  unfold finT at h
  split at h
  · next hl =>
    refine ⟨by rw [rpds_len r]; exact Nat.le_trans hl lim_le, fun p hp => ?_⟩
    split at h
    · next ps e =>
      have q := rps_of e r
      refine h _ _ (.ref p) (Ext.new s hp) (s.new hp) (.tup (.inl ⟨s.fresh hp, .inl upd_same⟩) (Rps.mono (Ext.new s hp).wk _ _ q))
    · exact h.elim
  · exact h.elim
/-- a new tuple of plain data -/
theorem tup_ok {ps : List PyData} {xs : List V} {Q : VK} (s : SG K z H g) (r : Rps K z H xs ps) (h : Lf K mg X0 (RpD K) z H (.ok (.p (.tuple ps)) g) Q) : ∀ p, H p = none → Q (.ref p) (upd H p (.tup xs)) :=
  fun p hp => h _ _ (.ref p) (Ext.new s hp) (s.new hp) (.tup (.inl ⟨s.fresh hp, .inl upd_same⟩) (Rps.mono (Ext.new s hp).wk _ _ r))
end

/-! ## rules for operators -/
section
variable {X : Cx} {X0 : XK}
theorem OpR.or {f : Value → Value → Sem Value} {r r' : R2} (h : OpR X f r) (h' : OpR X f r') : OpR X f (fun x y H Q => r x y H Q ∨ r' x y H Q) := by
  intro pins s σ H x y v u Q I rx ry q
  rcases q with q | q
  · exact h pins s σ H x y v u Q I rx ry q
  · exact h' pins s σ H x y v u Q I rx ry q
/-- t + u of tuples whose left is empty -/
theorem op_catT0 : OpR X (binaryOp .Add) (fun x y H Q => ∃ a b ys, x = .ref a ∧ y = .ref b ∧ SqT X.K H a [] ∧ SqT X.K H b ys ∧ Q (.ref b) H) := by
  intro pins s σ H x y v u Q I rx ry h
  obtain ⟨a, b, ys, rfl, rfl, ha, hb, q⟩ := h
  cases rx
  cases ry
  obtain ⟨its, r1, p1, _⟩ := I.tuple ha
  cases r1
  obtain ⟨its2, r2, p2, _⟩ := I.tuple hb
  obtain ⟨⟨cls, dd, data, sl⟩, ho, hc, n, hd⟩ := id p1
  obtain ⟨⟨cls2, dd2, data2, sl2⟩, ho2, hc2, n2, hd2⟩ := id p2
  simp only at hc hd hc2 hd2
  subst hc hd hc2 hd2
  exact concat_meets ⟨_, ho, rfl⟩ ⟨_, ho2, rfl⟩ noFill_tuple_add seq_tuple_add PySem.F.slot_tuple_add PySem.F.entry_tuple_add (PySem.F.args_tuple_add_2 _ _)
      (tuple_addW0 a b #[] its2.toArray n n2 dd dd2 sl sl2 (by simp)) ⟨ho, ho2, ⟨.ref b, H, I, rfl, q⟩⟩
end
end En

set_option Elab.async false
set_option linter.all false
set_option maxRecDepth 100000
namespace En
open PySem PySem.Spec PyProof.Rows L2

/-- an operation upon plain data tells the operator's reading -/
def OpS (K : PySem.W.Frag) (mg : Str → Option Value) (X0 : XK) (r : R2) (f : D → D → G → R D) : Prop :=
  ∀ (z : Ad) (H : Hp) (g : G) (x y : D) (v u : V) (Q : VK), SG K z H g → RpD K z H v x → RpD K z H u y → Lf K mg X0 (RpD K) z H (f x y g) Q → r v u H Q

section
variable {X : Cx} {K : PySem.W.Frag} {mg : Str → Option Value} {X0 : XK}
def rAdd (K : PySem.W.Frag) : R2 := fun x y H Q => rI0 (fun i j => .int (i + j)) x y H Q ∨ (∃ i j, x = .str i ∧ y = .str j ∧ i.length + j.length ≤ sizeLine ∧ Q (.str (i ++ j)) H) ∨ rCatT K x y H Q ∨
  (∃ a b ys, x = .ref a ∧ y = .ref b ∧ SqT K H a [] ∧ SqT K H b ys ∧ Q (.ref b) H) ∨ rCat x y H Q
theorem op_addD : OpR X (binaryOp .Add) (rAdd X.K) := OpR.or op_add (OpR.or op_add_str (OpR.or op_catT (OpR.or op_catT0 op_cat)))
theorem ops_add {mu : Bool} : OpS K mg X0 (rAdd K) (opAdd mu) := by
  intro z H g x y v u Q s rx ry h
  unfold opAdd at h
  split at h
  · rw [rp_int rx, rp_int ry]
    exact .inl ⟨_, _, rfl, rfl, h.ok s (.int _)⟩
  · next a b =>
    split at h
    · next hl =>
      rw [rp_str rx, rp_str ry]
      exact .inr (.inl ⟨_, _, rfl, rfl, Nat.le_trans hl lim_le, h.ok s (.str _)⟩)
    · exact h.elim
  · next a b =>
    split at h
    · next hl =>
      obtain ⟨p, xs, rfl, tx, qx⟩ := rp_tup rx
      obtain ⟨p', ys, rfl, ty, qy⟩ := rp_tup ry
      have lx := qx.len
      have ly := qy.len
      cases a with
      | nil =>
        cases qx
        exact .inr (.inr (.inr (.inl ⟨p, p', ys, rfl, rfl, tx.sq, ty.sq, h.ok s (.tup ty qy)⟩)))
      | cons a0 ar =>
        refine .inr (.inr (.inl ⟨p, p', xs, ys, rfl, rfl, tx.sq, ty.sq, ?_, ?_, fun e => ?_, fun e => ?_⟩))
        · intro e; rw [e] at lx; cases lx
        · rw [lx, ly]; exact Nat.le_trans hl lim_le
        · rw [e] at ly
          have : b = [] := List.eq_nil_of_length_eq_zero ly.symm
          subst this
          rw [List.append_nil] at h
          exact h.ok s (.tup tx qx)
        · exact tup_ok s (qx.append qy) h
    · exact h.elim
  · split at h
    · next a b ea eb =>
      obtain ⟨p, xs, rfl, tx, qx⟩ := rp_cat ea s rx
      obtain ⟨p', ys, rfl, ty, qy⟩ := rp_cat eb s ry
      obtain ⟨h1, h2⟩ := fin_ok s (RpDs.append qx qy) h
      rw [List.length_append] at h1
      exact .inr (.inr (.inr (.inr ⟨p, p', xs, ys, rfl, rfl, tx, ty, h1, h2⟩)))
    · exact h.elim
theorem ops_sub : OpS K mg X0 (rI0 fun i j => .int (i - j)) opSub := by
  intro z H g x y v u Q s rx ry h
  unfold opSub at h
  split at h
  · rw [rp_int rx, rp_int ry]
    exact ⟨_, _, rfl, rfl, h.ok s (.int _)⟩
  · exact h.elim
theorem ops_mod : OpS K mg X0 (rI (fun _ j => 0 < j) fun i j => .int (i % j)) opMod := by
  intro z H g x y v u Q s rx ry h
  unfold opMod at h
  split at h
  · split at h
    · next hj =>
      rw [rp_int rx, rp_int ry]
      exact ⟨_, _, rfl, rfl, hj, h.ok s (.int _)⟩
    · exact h.elim
  · exact h.elim
theorem ops_div : OpS K mg X0 (rI CDiv fun i j => .int (i / j)) opDiv := by
  intro z H g x y v u Q s rx ry h
  unfold opDiv at h
  split at h
  · split at h
    · next hj =>
      rw [rp_int rx, rp_int ry]
      exact ⟨_, _, rfl, rfl, ⟨hj.1, hj.2⟩, h.ok s (.int _)⟩
    · exact h.elim
  · exact h.elim
theorem ops_pow : OpS K mg X0 (rI CPow fun i j => .int (i ^ j.toNat)) opPow := by
  intro z H g x y v u Q s rx ry h
  unfold opPow at h
  split at h
  · split at h
    · next hj =>
      rw [rp_int rx, rp_int ry]
      exact ⟨_, _, rfl, rfl, ⟨hj.1, by omega, hj.2.2⟩, h.ok s (.int _)⟩
    · exact h.elim
  · exact h.elim
theorem ops_rel {p : Int → Int → Bool} : OpS K mg X0 (rI0 fun i j => .bl (p i j)) (opRel p) := by
  intro z H g x y v u Q s rx ry h
  unfold opRel at h
  split at h
  · rw [rp_int rx, rp_int ry]
    exact ⟨_, _, rfl, rfl, h.ok s (.bl _)⟩
  · exact h.elim
/-- a tuple times a written number -/
def rMulT (K : PySem.W.Frag) : R2 := fun x y H Q => ∃ a k xs, x = .ref a ∧ y = .int k ∧ SqT K H a xs ∧ xs ≠ [] ∧ 2 ≤ k ∧ k < 1000 ∧ xs.length * k.toNat ≤ sizeLine ∧ ∀ p, H p = none → Q (.ref p) (upd H p (.tup (List.replicate k.toNat xs).flatten))
def rMul (K : PySem.W.Frag) : R2 := fun x y H Q => rI CMul (fun i j => .int (i * j)) x y H Q ∨ rMulT K x y H Q
theorem Rps.rep {z : Ad} {H : Hp} {ds : List PyData} {vs : List V} (h : Rps K z H vs ds) : ∀ n, Rps K z H (List.replicate n vs).flatten (List.replicate n ds).flatten
  | 0 => .nil
  | n + 1 => by rw [List.replicate_succ, List.replicate_succ, List.flatten_cons, List.flatten_cons]; exact h.append (Rps.rep h n)
theorem ops_mul : OpS K mg X0 (rMul K) opMul := by
  intro z H g x y v u Q s rx ry h
  unfold opMul at h
  split at h
  · split at h
    · next hj =>
      rw [rp_int rx, rp_int ry]
      exact .inl ⟨_, _, rfl, rfl, hj, h.ok s (.int _)⟩
    · exact h.elim
  · next a j =>
    split at h
    · next hj =>
      obtain ⟨p, xs, rfl, tx, qx⟩ := rp_tup rx
      rw [rp_int ry]
      have lx := qx.len
      refine .inr ⟨p, _, xs, rfl, rfl, tx.sq, fun e => ?_, hj.1, hj.2.1, ?_, tup_ok s (qx.rep _) h⟩
      · rw [e] at lx; exact hj.2.2.1 (List.eq_nil_of_length_eq_zero lx.symm)
      · rw [lx]; exact Nat.le_trans hj.2.2.2 lim_le
    · exact h.elim
  · exact h.elim
end
theorem noFill_tuple_mul : fillsNumberSlot (.type "tuple") "mul" = pure false :=
  PySem.fillsNumberSlot_seq (id := "tuple.__mul__") (r := some (.builtin "tuple.__rmul__")) PySem.F.slot_tuple_mul.lookup (by decide +kernel) PySem.F.slot_tuple_rmul.lookup (by decide +kernel)
theorem repeat_tuple : seqRepeat? (.type "tuple") = pure (some (.builtin "tuple.__mul__")) := by
  unfold seqRepeat?
  rw [PySem.seqSlot_of (T := "tuple") (name := "__mul__") (id := "tuple.__mul__") PySem.F.slot_tuple_mul.lookup (by decide +kernel), PySem.seqSlot_of (T := "tuple") (name := "__rmul__") (id := "tuple.__rmul__") PySem.F.slot_tuple_rmul.lookup (by decide +kernel)]
  rfl
theorem rmul_tuple (a : Int) (t : Tok) (l : Addr) (items : Array Value) (n : Nat) (dd : Option Addr) (sl : Array (Option Value)) :
    Meets (Builtin.«int.__rmul__» ⟨[.int a t, .ref l], []⟩) (fun _ R s => s.heap.get? l = some { cls := .type "tuple", dict := dd, data := .seq items n, slots := sl } ∧ R (.ok (.ret Value.notImplemented)) s) :=
  .of_wp fun prog w A R s h => by obtain ⟨hp, g, d, tk, os⟩ := s; obtain ⟨hl, h⟩ := h; wp_walk using wpAny_loadPart' hl; exact ⟨_, rfl, h⟩
theorem mul_tupleW (l : Addr) (items : Array Value) (n : Nat) (dd : Option Addr) (sl : Array (Option Value)) (x : Int) (u : Tok) (h1 : (decide (x < -(2 ^ 63)) || decide (x ≥ 2 ^ 63)) = false) (h2 : (items.isEmpty || x == 1) = false) (h3 : (decide (x ≤ 0) || items.isEmpty) = false) 
   (h4 : ¬ ((items.size : Int) * x > (2 ^ 63 - 1) / 8)) (h5 : ((List.replicate x.toNat items).foldl (· ++ ·) #[]).size ≤ sizeLine) (h6 : Builtin.Tuple.tupleTooMany ((items.size : Int) * x) = false) :
    Meets (Builtin.«tuple.__mul__» ⟨[.ref l, .int x u], []⟩) (fun _ R s => s.heap.get? l = some { cls := .type "tuple", dict := dd, data := .seq items n, slots := sl } ∧ R (.ok (.ret (Value.ref s.heap.objs.size))) { s with heap := s.heap.push { cls := Value.type "tuple", data := Data.seq ((List.replicate x.toNat items).foldl (· ++ ·) #[]) }, toks := s.toks }) :=
  .of_wp fun prog w A R s h => by
    obtain ⟨hp, g, d, tk, os⟩ := s; obtain ⟨hl, h⟩ := h
    wp_walk using wpAny_loadPart' hl
    refine wpAny_ite_false (decide_eq_false (by rw [h1]; exact Bool.false_ne_true)) ?_
    wp_walk using wpAny_loadPart' hl
    refine wpAny_ite_false (decide_eq_false h4) ?_
    wp_walk using wpAny_loadPart' hl
    exact ⟨_, rfl, h⟩
theorem foldl_repT (its : List Value) (m : Nat) : List.foldl (fun x1 x2 => x1 ++ x2) #[] (List.replicate m its.toArray) = (List.replicate m its).flatten.toArray := by
  have := foldl_rep its m []
  rw [List.nil_append] at this
  exact this
section
variable {X : Cx}
theorem op_mulT : OpR X (binaryOp .Mult) (rMulT X.K) := by
  intro pins s σ H x y v u Q I rx ry h
  obtain ⟨a, k, xs, rfl, rfl, ha, hne, h1, h2, hz, q⟩ := h
  cases rx
  obtain ⟨t, rfl⟩ := ry
  obtain ⟨its, r, ht, hzz⟩ := I.tuple ha
  obtain ⟨⟨cls, dd, data, sl⟩, ho, hc, n, hd⟩ := id ht
  simp only at hc hd
  subst hc hd
  have hl := r.length
  have hi : its ≠ [] := fun e => by subst e; exact hne (List.eq_nil_of_length_eq_zero hl)
  have hie : its.toArray.isEmpty = false := by cases its with | nil => exact absurd rfl hi | cons _ _ => simp
  have hn0 : its.length * k.toNat ≤ sizeLine := by rw [← hl]; exact hz
  have hprod : (its.toArray.size : Int) * k = ((its.length * k.toNat : Nat) : Int) := by
    rw [List.size_toArray, Int.natCast_mul, Int.toNat_of_nonneg (by omega)]
  have hs : sizeLine = 16777216 := sizeLine_eq
  have hlen : (List.replicate k.toNat its).flatten.length = k.toNat * its.length := len_rep its k.toNat
  have hsz : (List.foldl (fun x1 x2 => x1 ++ x2) #[] (List.replicate k.toNat its.toArray)).size ≤ sizeLine := by
    rw [foldl_repT, List.size_toArray, hlen, Nat.mul_comm]; exact hn0
  refine wpAny_binaryOp_repeat_ref (T := "tuple") (U := "int") (by decide) ⟨_, ho, rfl⟩ (fun s' => typeIs_int s' k t) noFill_tuple_mul PySem.F.fills_int_mul PySem.F.slot_int_rmul repeat_tuple PySem.F.slot_int_index.lookup
    (call_meets PySem.F.slot_int_rmul (typeIs_int s k t) PySem.F.entry_int_rmul (PySem.F.args_int_rmul_2 _ _) (rmul_tuple k t a its.toArray n dd sl)
      ⟨ho, rfl, ⟨_, ho, rfl⟩, call_meets PySem.F.slot_tuple_mul ⟨_, ho, rfl⟩ PySem.F.entry_tuple_mul (PySem.F.args_tuple_mul_2 _ _) (mul_tupleW a its.toArray n dd sl k t ?_ ?_ ?_ ?_ hsz ?_) ⟨ho, ?_⟩⟩)
  · rw [Bool.or_eq_false_iff]; exact ⟨decide_eq_false (by omega), decide_eq_false (by omega)⟩
  · rw [hie, Bool.false_or]; exact beq_eq_false_iff_ne.mpr (by omega)
  · rw [hie, Bool.or_false]; exact decide_eq_false (by omega)
  · rw [hprod]; omega
  · rw [hprod]; unfold Builtin.Tuple.tupleTooMany; first | (exact decide_eq_false (by omega)) | (simp; omega)
  · rw [foldl_repT]
    refine ⟨.ref s.heap.objs.size, _, I.laid (t' := s.toks) (o := .tup (List.replicate k.toNat xs).flatten) (fun b ob q => Heap.get?_push_of_some _ q) (Nat.le_refl _) ?_, rfl, q _ (I.hok.fresh (Nat.le_refl _))⟩
    refine ⟨by rw [len_rep, Nat.mul_comm]; exact hz, _, ?_, IsTup.new _ _⟩
    exact r.rep k.toNat
end
end En

set_option Elab.async false
set_option linter.all false
set_option maxRecDepth 100000
namespace En
open PySem PySem.Spec PyProof.Rows L2
section
variable {X : Cx} {K : PySem.W.Frag} {mg : Str → Option Value} {X0 : XK}
theorem op_mulD : OpR X (binaryOp .Mult) (rMul X.K) := OpR.or op_mul op_mulT
/-! ## comparisons -/
mutual
theorem Rp.dp {z : Ad} {H : Hp} : ∀ (d : PyData) (v : V), Rp K z H v d → d.canLay0 = true → Dp K H v d
  | .none, _, h, _ => by cases h; exact .non
  | .bool b, _, h, _ => by cases h; exact .bl b
  | .int i, _, h, _ => by cases h; exact .int i
  | .str x, _, h, _ => by cases h; exact .str x
  | .list ds, _, h, c => by
    cases h with
    | lst a b q => exact .lst (SqL.of b) (Rps.dp ds _ q (by simpa [PyData.canLay0] using c))
  | .tuple ds, _, h, c => by
    cases h with
    | tup a q => exact .tup a.sq (Rps.dp ds _ q (by simpa [PyData.canLay0] using c))
  | .dict ds, _, h, c => by simp [PyData.canLay0] at c
theorem Rps.dp {z : Ad} {H : Hp} : ∀ (ds : List PyData) (vs : List V), Rps K z H vs ds → PyData.canLayAll0 ds = true → DpAll K H vs ds
  | [], _, h, _ => by cases h; exact .nil
  | d :: ds, _, h, c => by
    have c' : d.canLay0 = true ∧ PyData.canLayAll0 ds = true := by simpa [PyData.canLayAll0] using c
    cases h with
    | cons a b => exact .cons (Rp.dp d _ a c'.1) (Rps.dp ds _ b c'.2)
end
theorem op_eqT0 (hu : X.A.units < cLine) : OpR X (compareOp .Eq) (fun x y H Q => ∃ a b xs, x = .ref a ∧ y = .ref b ∧ SqT X.K H a xs ∧ SqT X.K H b [] ∧ Q (.bl xs.isEmpty) H) := by
  intro pins s σ H x y v u Q I rx ry h
  obtain ⟨a, b, xs, rfl, rfl, ha, hb, q⟩ := h
  cases rx
  cases ry
  obtain ⟨its, r1, p1, _⟩ := I.tuple ha
  obtain ⟨its2, r2, p2, _⟩ := I.tuple hb
  cases r2
  refine SeqAt.eq_tupleAt (e := fun _ => true) (show s.heap.IsTuple a its.toArray from p1) (show s.heap.IsTuple b #[] from p2) hu (fun j h1 h2 => absurd h2 (by simp)) ?_
  refine ⟨.bl xs.isEmpty, H, I, ?_, q⟩
  show Value.bool _ = Value.bool _
  congr 1
  cases r1 with
  | nil => simp
  | cons _ _ => simp
def rEqA (K : PySem.W.Frag) : R2 := fun x y H Q => rEq x y H Q ∨ (∃ a b xs, x = .ref a ∧ y = .ref b ∧ SqT K H a xs ∧ SqT K H b [] ∧ Q (.bl xs.isEmpty) H) ∨ rEqD K x y H Q
theorem op_eqA {k : Nat} (hr : Room k X.A) : OpR X (compareOp .Eq) (rEqA X.K) := OpR.or op_eq (OpR.or (op_eqT0 hr.units0) (op_eqD hr.units))
theorem ops_eq : OpS K mg X0 (rEqA K) opEq := by
  intro z H g x y v u Q s rx ry h
  unfold opEq at h
  split at h
  · rw [rp_int rx, rp_int ry]
    refine .inl ⟨rfl, ?_⟩
    have q := h.ok s (.bl _)
    rw [dec_int, Bool.beq_eq_decide_eq]; exact q
  · next a b =>
    rw [rp_str rx, rp_str ry]
    refine .inl ⟨rfl, ?_⟩
    have q := h.ok s (.bl _)
    have e : decide (V.str a = V.str b) = decide (a = b) := by simp
    rw [e]; exact q
  · obtain ⟨p, xs, rfl, tx, qx⟩ := rp_tup rx
    obtain ⟨p', ys, rfl, ty, qy⟩ := rp_tup ry
    cases qy
    have q := h.ok s (.bl _)
    refine .inr (.inl ⟨p, p', xs, rfl, rfl, tx.sq, ty.sq, ?_⟩)
    cases qx with
    | nil => exact q
    | cons _ _ => exact q
  · split at h
    · next hc => exact .inr (.inr ⟨_, _, Rp.dp _ _ rx (SeqAt.canLay_of_shaped hc.1), Rp.dp _ _ ry (SeqAt.canLay_of_shaped hc.2), hc.1, hc.2, h.ok s (.bl _)⟩)
    · exact h.elim
  · exact h.elim
def rNeA (K : PySem.W.Frag) : R2 := fun x y H Q => rNe x y H Q ∨ rNeD K x y H Q
theorem op_neA {k : Nat} (hr : Room k X.A) : OpR X (compareOp .NotEq) (rNeA X.K) := OpR.or op_ne (op_neD hr.units)
theorem ops_ne : OpS K mg X0 (rNeA K) opNe := by
  intro z H g x y v u Q s rx ry h
  unfold opNe at h
  split at h
  · rw [rp_int rx, rp_int ry]
    refine .inl ⟨rfl, ?_⟩
    have q := h.ok s (.bl _)
    rw [dec_int, Bool.beq_eq_decide_eq]; exact q
  · next a b =>
    rw [rp_str rx, rp_str ry]
    refine .inl ⟨rfl, ?_⟩
    have q := h.ok s (.bl _)
    have e : decide (V.str a = V.str b) = decide (a = b) := by simp
    rw [e]; exact q
  · split at h
    · next hc => exact .inr ⟨_, _, Rp.dp _ _ rx (SeqAt.canLay_of_shaped hc.1), Rp.dp _ _ ry (SeqAt.canLay_of_shaped hc.2), hc.1, hc.2, h.ok s (.bl _)⟩
    · exact h.elim
  · exact h.elim
theorem isN_of {z : Ad} {H : Hp} {v : V} {d : PyData} (r : Rp K z H v d) : decide (v = .non) = PyData.isN d := by
  cases r <;> rfl
theorem ops_is : OpS K mg X0 (fun x y H Q => y = .non ∧ Q (.bl (decide (x = .non))) H) (opIs false) := by
  intro z H g x y v u Q s rx ry h
  unfold opIs at h
  split at h
  · refine ⟨rp_none ry, ?_⟩
    rw [isN_of rx]
    have q := h.ok s (.bl _)
    simpa using q
  · obtain ⟨a, rfl, _⟩ := rx
    exact ⟨rp_none ry, h.ok s (.bl _)⟩
  · exact h.elim
theorem ops_isn : OpS K mg X0 (fun x y H Q => y = .non ∧ Q (.bl (!decide (x = .non))) H) (opIs true) := by
  intro z H g x y v u Q s rx ry h
  unfold opIs at h
  split at h
  · refine ⟨rp_none ry, ?_⟩
    rw [isN_of rx]
    have q := h.ok s (.bl _)
    simpa using q
  · obtain ⟨a, rfl, _⟩ := rx
    exact ⟨rp_none ry, h.ok s (.bl _)⟩
  · exact h.elim
/-- the comparison's operator and rule -/
def CO.op : CO → CmpOp
  | .eq => .Eq | .ne => .NotEq | .lt => .Lt | .le => .LtE | .gt => .Gt | .ge => .GtE | .isN => .Is | .notN => .IsNot | .inn => .In | .nin => .NotIn
theorem cmp_ok {k : Nat} (hr : Room k X.A) (o : CO) : ∃ r, OpR X (compareOp o.op) r ∧ OpS X.K mg X0 r (opCmp o) := by
  cases o with
  | eq => exact ⟨_, op_eqA hr, ops_eq⟩
  | ne => exact ⟨_, op_neA hr, ops_ne⟩
  | lt => exact ⟨_, op_lt, ops_rel⟩
  | le => exact ⟨_, op_le, ops_rel⟩
  | gt => exact ⟨_, op_gt, ops_rel⟩
  | ge => exact ⟨_, op_ge, ops_rel⟩
  | isN => exact ⟨_, op_isN, ops_is⟩
  | notN => exact ⟨_, op_notN, ops_isn⟩
  | inn => exact ⟨fun _ _ _ _ => False, fun _ _ _ _ _ _ _ _ _ _ _ _ h => h.elim, fun _ _ _ _ _ _ _ _ _ _ _ h => h⟩
  | nin => exact ⟨fun _ _ _ _ => False, fun _ _ _ _ _ _ _ _ _ _ _ _ h => h.elim, fun _ _ _ _ _ _ _ _ _ _ _ h => h⟩
def BO.op : BO → Operator
  | .add => .Add | .sub => .Sub | .mul => .Mult | .mod => .Mod | .fdiv => .FloorDiv | .pow => .Pow
theorem bin_ok (o : BO) (mu : Bool) : ∃ r, OpR X (binaryOp o.op) r ∧ OpS X.K mg X0 r (opBin o mu) := by
  cases o with
  | add => exact ⟨_, op_addD, ops_add⟩
  | sub => exact ⟨_, op_sub, ops_sub⟩
  | mul => exact ⟨_, op_mulD, ops_mul⟩
  | mod => exact ⟨_, op_mod, ops_mod⟩
  | fdiv => exact ⟨_, op_fdiv, ops_div⟩
  | pow => exact ⟨_, op_pow, ops_pow⟩
/-! ## isinstance -/
def TY.nm : TY → String
  | .int => "int" | .bool => "bool" | .str => "str" | .tuple => "tuple" | .list => "list" | .dict => "dict"
theorem kit_pairs (t : TY) : PySem.W.kitOne K (.type "NoneType") (.type t.nm) = some false ∧ PySem.W.kitOne K (.type "bool") (.type t.nm) = some (match t with | .int => true | .bool => true | _ => false) ∧
    PySem.W.kitOne K (.type "int") (.type t.nm) = some (match t with | .int => true | _ => false) ∧ PySem.W.kitOne K (.type "str") (.type t.nm) = some (match t with | .str => true | _ => false) ∧
    PySem.W.kitOne K (.type "tuple") (.type t.nm) = some (match t with | .tuple => true | _ => false) ∧ PySem.W.kitOne K (.type "list") (.type t.nm) = some (match t with | .list => true | _ => false) ∧
    PySem.W.kitOne K (.type "dict") (.type t.nm) = some (match t with | .dict => true | _ => false) := by
  cases t <;> refine ⟨?_, ?_, ?_, ?_, ?_, ?_, ?_⟩ <;> rfl
end
end En

set_option Elab.async false
set_option linter.all false
set_option maxRecDepth 100000
namespace En
open PySem PySem.Spec PyProof.Rows L2
section
variable {X : Cx} {K : PySem.W.Frag} {mg : Str → Option Value} {X0 : XK}
/-! ## isinstance -/
def TyW (K : PySem.W.Frag) (H : Hp) (x : V) (T : String) : Prop := match x with
  | .non => T = "NoneType"
  | .bl _ => T = "bool"
  | .int _ => T = "int"
  | .str _ => T = "str"
  | .ref a => (T = "list" ∧ ∃ xs, SqL K H a xs) ∨ (T = "tuple" ∧ ∃ xs, SqT K H a xs) ∨ (T = "dict" ∧ ∃ kvs, H a = some (.dK kvs))
  | _ => False
theorem cr_isi : CallR X (.builtin "isinstance") (fun xs H Q => ∃ x n T b, xs = [x, .ty n] ∧ TyW X.K H x T ∧ PySem.W.kitOne X.K (.type T) (.type n) = some b ∧ Q (.bl b) H) := by
  intro pins s σ H xs us Q I r h
  obtain ⟨x, n, T, b, rfl, ty, e, q⟩ := h
  cases r with
  | @cons _ u _ us' rx r2 =>
    cases r2 with
    | @cons _ u2 _ _ r3 r4 =>
      cases r4
      cases (show u2 = Value.type n from r3)
      have fin : ∀ tk, EP X pins σ Q (.bool b) { s with toks := tk } := fun tk => ⟨.bl b, H, I.tok tk, rfl, q⟩
      cases x with
      | non => cases (show T = "NoneType" from ty); cases (show u = Value.none from rx); exact PySem.W.kia_one PySem.W.kitx_none I.kIn True.intro e (fun z => nomatch z) fin
      | bl y => cases (show T = "bool" from ty); cases (show u = Value.bool y from rx); exact PySem.W.kia_one PySem.W.kitx_bool I.kIn True.intro e (fun z => nomatch z) fin
      | int i => cases (show T = "int" from ty); obtain ⟨t, q⟩ := (show ∃ t, u = Value.int i t from rx); cases q; exact PySem.W.kia_one PySem.W.kitx_int I.kIn True.intro e (fun z => nomatch z) fin
      | str y => cases (show T = "str" from ty); obtain ⟨t, q⟩ := (show ∃ t, u = Value.str y t from rx); cases q; exact PySem.W.kia_one PySem.W.kitx_str I.kIn True.intro e (fun z => nomatch z) fin
      | ref a =>
        cases (show u = Value.ref a from rx)
        rcases ty with ⟨rfl, ys, hq⟩ | ⟨rfl, ys, hq⟩ | ⟨rfl, kvs, hq⟩
        · obtain ⟨its, _, ⟨o, n', h1, h2, _, _⟩, _⟩ := I.list hq
          exact PySem.W.kia_one PySem.W.kitx_list I.kIn ⟨o, h1, h2⟩ e (fun z => nomatch z) fin
        · obtain ⟨its, _, ⟨o, h1, h2, _⟩, _⟩ := I.tuple hq
          exact PySem.W.kia_one PySem.W.kitx_tuple I.kIn ⟨o, h1, h2⟩ e (fun z => nomatch z) fin
        · obtain ⟨_, _, vs, _, p⟩ := (show ObjOk X.prog X.w H s.heap a (.dK kvs) from I.hok a _ hq)
          obtain ⟨o, es, ep, h1, h2, _⟩ := p
          exact PySem.W.kia_one PySem.W.kitx_dict I.kIn ⟨o, h1, h2.1⟩ e (fun z => nomatch z) fin
      | byt _ => exact ty.elim
      | flt _ => exact ty.elim
      | ty _ => exact ty.elim
theorem isi_ok {z : Ad} {H : Hp} {g : G} {x : D} {t : TY} {v : V} {Q : VK} (s : SG K z H g) (r : RpD K z H v x) (h : Lf K mg X0 (RpD K) z H (isiD x t g) Q) :
    ∃ x n T b, [v, V.ty t.nm] = [x, .ty n] ∧ TyW K H x T ∧ PySem.W.kitOne K (.type T) (.type n) = some b ∧ Q (.bl b) H := by
  obtain ⟨k1, k2, k3, k4, k5, k6, k7⟩ := kit_pairs (K := K) t
  cases x with
  | p d =>
    have q : Q (.bl (D.isTy (.p d) t)) H := h.ok s (.bl _)
    refine ⟨v, t.nm, ?_⟩
    cases d with
    | none => rw [rp_none r]; exact ⟨_, _, rfl, rfl, k1, by cases t <;> exact q⟩
    | bool b => rw [rp_bool r]; exact ⟨_, _, rfl, rfl, k2, by cases t <;> exact q⟩
    | int b => rw [rp_int r]; exact ⟨_, _, rfl, rfl, k3, by cases t <;> exact q⟩
    | str b => rw [rp_str r]; exact ⟨_, _, rfl, rfl, k4, by cases t <;> exact q⟩
    | tuple ds =>
      obtain ⟨a, xs, rfl, tx, _⟩ := rp_tup r
      exact ⟨_, _, rfl, .inr (.inl ⟨rfl, xs, tx.sq⟩), k5, by cases t <;> exact q⟩
    | list ds =>
      obtain ⟨a, xs, rfl, _, tx, _⟩ := rp_lst r
      exact ⟨_, _, rfl, .inl ⟨rfl, xs, SqL.of tx⟩, k6, by cases t <;> exact q⟩
    | dict ds =>
      cases (show Rp K z H v (.dict ds) from r) with
      | dct a b c => exact ⟨_, _, rfl, .inr (.inr ⟨rfl, _, b⟩), k7, by cases t <;> exact q⟩
  | ref n =>
    unfold isiD at h
    simp only at h
    split at h
    · next ds e =>
      obtain ⟨a, rfl, ea⟩ := r
      obtain ⟨xs, h1, _⟩ := s.obj n a _ ea e
      exact ⟨_, _, _, _, rfl, .inl ⟨rfl, xs, SqL.of h1⟩, k6, h.ok s (.bl _)⟩
    · exact h.elim
  | exc c fs => exact h.elim
  | kl ds => exact h.elim
/-! ## repr -/
mutual
inductive RX (h : Heap) : Value → PyData → Prop
  | leaf {v : Value} {d : PyData} {as : List Addr} : Reads h v d as → (d.hasDict = true → sysModules ∉ as) → RX h v d
  | lst {a : Addr} {o : Obj} {l : List Value} {n : Nat} {ds : List PyData} : h.get? a = some o → o.cls = .type "list" → o.data = .seq l.toArray n → RXs h l ds → RX h (.ref a) (.list ds)
  | tup {a : Addr} {o : Obj} {l : List Value} {n : Nat} {ds : List PyData} : h.get? a = some o → o.cls = .type "tuple" → o.data = .seq l.toArray n → RXs h l ds → RX h (.ref a) (.tuple ds)
inductive RXs (h : Heap) : List Value → List PyData → Prop
  | nil : RXs h [] []
  | cons {v : Value} {l : List Value} {d : PyData} {ds : List PyData} : RX h v d → RXs h l ds → RXs h (v :: l) (d :: ds)
end
mutual
theorem RX.reads {h : Heap} : ∀ (d : PyData) (v : Value), RX h v d → ∃ as, Reads h v d as
  | d, _, .leaf r _ => ⟨_, r⟩
  | .list ds, _, .lst a b c q => let ⟨_, r⟩ := RXs.reads ds _ q; ⟨_, .list a b c r⟩
  | .tuple ds, _, .tup a b c q => let ⟨_, r⟩ := RXs.reads ds _ q; ⟨_, .tuple a b c r⟩
theorem RXs.reads {h : Heap} : ∀ (ds : List PyData) (vs : List Value), RXs h vs ds → ∃ as, ReadsAll h vs ds as
  | [], _, .nil => ⟨_, .nil⟩
  | d :: ds, _, .cons a b => let ⟨_, r⟩ := RX.reads d _ a; let ⟨_, q⟩ := RXs.reads ds _ b; ⟨_, .cons r q⟩
end
mutual
theorem RX.shows {P : Program} {w : World} {h : Heap} : ∀ (d : PyData) (v : Value), RX h v d → d.showable = true → d.shown.length ≤ sizeLine → ∃ bs, ReadAtMost h d.depth bs ∧ ReprK P w bs h d.depth v d.shown
  | d, _, .leaf r q, s1, s2 => ReprK.of_reads r s1 q s2
  | .list ds, _, .lst (a := x) (l := l) a b c q, s1, s2 => by
    obtain ⟨as, ra⟩ := RXs.reads ds _ q
    have rr := Reads.list a b c ra
    have s2' : (listText (PyData.shownAll ds)).length ≤ sizeLine := by simpa only [PyData.shown] using s2
    obtain ⟨bs, h1, h2⟩ := RXs.shows (P := P) (w := w) ds l q (by simpa [PyData.showable] using s1) fun t ht => Nat.le_trans (listText_mem_le ht) s2'
    have nm : x ∉ bs := not_mem_of_deeper rr (by simp only [PyData.depth]; omega) h1
    refine ⟨x :: bs, ReadAtMost.cons rr (by simp only [PyData.depth]; omega) h1, ?_⟩
    simp only [PyData.depth, PyData.shown]
    cases l with
    | nil =>
      cases q
      simp only [PyData.shownAll, listText_nil]
      exact ReprK.listEmpty a b c
    | cons y l' => exact ReprK.list a b c nm (by simpa using h2.length_eq) fun i y e => h2.item i y (by simpa using e)
  | .tuple ds, _, .tup (a := x) (l := l) a b c q, s1, s2 => by
    obtain ⟨as, ra⟩ := RXs.reads ds _ q
    have rr := Reads.tuple a b c ra
    have s2' : (tupleText (PyData.shownAll ds)).length ≤ sizeLine := by simpa only [PyData.shown] using s2
    obtain ⟨bs, h1, h2⟩ := RXs.shows (P := P) (w := w) ds l q (by simpa [PyData.showable] using s1) fun t ht => Nat.le_trans (tupleText_mem_le ht) s2'
    have nm : x ∉ bs := not_mem_of_deeper rr (by simp only [PyData.depth]; omega) h1
    refine ⟨x :: bs, ReadAtMost.cons rr (by simp only [PyData.depth]; omega) h1, ?_⟩
    simp only [PyData.depth, PyData.shown]
    exact ReprK.tuple a b c nm h2
theorem RXs.shows {P : Program} {w : World} {h : Heap} : ∀ (ds : List PyData) (vs : List Value), RXs h vs ds → PyData.showableAll ds = true → (∀ t ∈ PyData.shownAll ds, t.length ≤ sizeLine) →
    ∃ bs, ReadAtMost h (PyData.depthAll ds) bs ∧ ReprAllK P w bs h (PyData.depthAll ds) vs (PyData.shownAll ds)
  | [], _, .nil, _, _ => ⟨[], (fun _ q => nomatch q), by simp only [PyData.shownAll]; exact .nil⟩
  | d :: ds, _, .cons a b, s1, s2 => by
    have s1' : d.showable = true ∧ PyData.showableAll ds = true := by simpa [PyData.showableAll] using s1
    obtain ⟨b1, h1, k1⟩ := RX.shows (P := P) (w := w) d _ a s1'.1 (s2 _ (by simp only [PyData.shownAll]; exact List.mem_cons_self ..))
    obtain ⟨b2, h2, k2⟩ := RXs.shows (P := P) (w := w) ds _ b s1'.2 fun t ht => s2 t (by simp only [PyData.shownAll]; exact List.mem_cons_of_mem _ ht)
    refine ⟨b1 ++ b2, ?_, ?_⟩
    · simp only [PyData.depthAll]
      exact (h1.mono (Nat.le_max_left _ _)).append (h2.mono (Nat.le_max_right _ _))
    · simp only [PyData.depthAll, PyData.shownAll]
      exact .cons ((k1.more fun x hx => List.mem_append_left _ hx).level_le (Nat.le_max_left _ _)) (k2.more_le (fun x hx => List.mem_append_right _ hx) (Nat.le_max_right _ _))
end
/-- repr(x) -/
theorem call_reprX {P : Program} {w : World} {A : Around} {E' : Value → Shared → Prop} {s : Shared} {Q : Value → Shared → Prop} {v : Value} {d : PyData} (r : RX s.heap v d) (s1 : d.showable = true) (s2 : d.shown.length ≤ sizeLine) (hg : A.guards = some []) (hu : A.units + (d.depth + 1) < cLine)
    (q : ∀ h' u tk, (∀ b o, s.heap.get? b = some o → h'.get? b = some o) → Q (.str d.shown u) { s with heap := h', toks := tk }) : wpAny (model P w) A (call (.builtin "repr") [v]) Q E' s := by
  cases r with
  | leaf r hs =>
    cases r with
    | none => simp only [PyData.shown] at q; exact PySem.P.repr_of_none (q s.heap _ _ fun _ _ e => e)
    | bool b => simp only [PyData.shown] at q; exact PySem.P.repr_of_bool (q s.heap _ _ fun _ _ e => e)
    | int i t => simp only [PyData.shown] at q; exact PySem.P.repr_of_int (by simpa [PyData.showable] using s1) (q s.heap _ _ fun _ _ e => e)
    | str x t => simp only [PyData.shown] at q s2; exact PySem.P.repr_of_str (q s.heap _ _ fun _ _ e => e) s2
    | list a b c dd => exact repr_of_reads' (.list a b c dd) s1 hs hg hu (fun _ _ e => e) q s2
    | tuple a b c dd => exact repr_of_reads' (.tuple a b c dd) s1 hs hg hu (fun _ _ e => e) q s2
    | dict a b c dd ee => exact repr_of_reads' (.dict a b c dd ee) s1 hs hg hu (fun _ _ e => e) q s2
  | lst a b c qq =>
    rename_i x o l n ds
    obtain ⟨as, ra⟩ := RXs.reads ds _ qq
    have s2' : (listText (PyData.shownAll ds)).length ≤ sizeLine := by simpa only [PyData.shown] using s2
    obtain ⟨bs, h1, h2⟩ := RXs.shows (P := P) (w := w) ds l qq (by simpa [PyData.showable] using s1) fun t ht => Nat.le_trans (listText_mem_le ht) s2'
    have nm : x ∉ bs := not_mem_of_deeper (Reads.list a b c ra) (by simp only [PyData.depth]; omega) h1
    simp only [PyData.depth] at hu
    simp only [PyData.shown] at q
    refine call_repr_slot (T := "list") (by omega) ⟨o, a, b⟩ PySem.F.slot_list_repr.toG ?_
    cases l with
    | nil =>
      cases qq
      simp only [PyData.shownAll, listText_nil] at q
      exact call_list_repr_empty ⟨o, a, b⟩ a c ⟨_, _, rfl, q s.heap _ _ fun _ _ e => e⟩
    | cons y l' =>
      exact call_list_reprK a b c nm (by simpa using h2.length_eq) (fun i y e => h2.item i y (by simpa using e)) hg (fun b _ => Clear.nil b) (by show A.units + 1 + _ < cLine; omega) (fun _ _ e => e) (fun h' u tk k => ⟨_, _, rfl, q h' u tk k⟩) s2'
  | tup a b c qq =>
    rename_i x o l n ds
    obtain ⟨as, ra⟩ := RXs.reads ds _ qq
    have s2' : (tupleText (PyData.shownAll ds)).length ≤ sizeLine := by simpa only [PyData.shown] using s2
    obtain ⟨bs, h1, h2⟩ := RXs.shows (P := P) (w := w) ds l qq (by simpa [PyData.showable] using s1) fun t ht => Nat.le_trans (tupleText_mem_le ht) s2'
    have nm : x ∉ bs := not_mem_of_deeper (Reads.tuple a b c ra) (by simp only [PyData.depth]; omega) h1
    simp only [PyData.depth] at hu
    simp only [PyData.shown] at q
    refine call_repr_slot (T := "tuple") (by omega) ⟨o, a, b⟩ PySem.F.slot_tuple_repr ?_
    exact call_tuple_reprK a b c nm h2 hg (fun b _ => Clear.nil b) (by show A.units + 1 + _ < cLine; omega) (fun _ _ e => e) (fun h' u tk k => ⟨_, _, rfl, q h' u tk k⟩) s2'
end
end En

set_option Elab.async false
set_option linter.all false
set_option maxRecDepth 100000
namespace En
open PySem PySem.Spec PyProof.Rows L2
section
variable {X : Cx} {K : PySem.W.Frag} {mg : Str → Option Value} {X0 : XK} {pins : List (Addr × Obj)} {σ : L2.St} {H : Hp} {s : Shared} {z : Ad}
theorem flat_reads {d : PyData} {v : V} {u : Value} (f : flatP d = true) (h : Rp K z H v d) (r : RelV v u) : Reads s.heap u d [] := by
  cases h with
  | non => cases r; exact .none
  | bl b => cases r; exact .bool b
  | int i => obtain ⟨t, rfl⟩ := r; exact .int i t
  | str x => obtain ⟨t, rfl⟩ := r; exact .str x t
  | lst _ _ _ => cases f
  | tup _ _ => cases f
  | dct _ _ _ => cases f
theorem pairs_reads {P : Program} {w : World} : ∀ {ds : List (PyData × PyData)} {kvs : List (Key × V)} {vs : List (Key × Value)} {es : List DictEntry}, Rpk K z H kvs ds → KV kvs vs → Pairs (mixKind P w) es vs →
    ReadsAll s.heap (es.map (·.key)) (ds.map (·.1)) [] ∧ ReadsAll s.heap (es.map (·.val)) (ds.map (·.2)) []
  | _, _, _, _, .nil, .nil, .nil => ⟨.nil, .nil⟩
  | _, _, _, _, .cons f a b, .cons c d, .cons e1 e2 e3 => by
    obtain ⟨h1, h2⟩ := pairs_reads b d e3
    refine ⟨ReadsAll.cons (as := []) (bs := []) ?_ h1, ReadsAll.cons (as := []) (bs := []) ?_ h2⟩
    · obtain ⟨c1, c2⟩ := c
      rw [← c1] at e1
      rcases keyIs_shape e1 with ⟨i, t, k1, k2⟩ | ⟨x, t, k1, k2⟩
      · have k1 : _ = Sum.inl i := k1
        subst k1
        show Reads s.heap (DictEntry.key _) (.int i) []
        rw [k2]; exact .int i t
      · have k1 : _ = Sum.inr x := k1
        subst k1
        show Reads s.heap (DictEntry.key _) (.str x) []
        rw [k2]; exact .str x t
    · show Reads s.heap (DictEntry.val _) _ []
      rw [e2]; exact flat_reads f a c.2
mutual
theorem Rp.rx (I : Inv X pins σ H s) : ∀ (d : PyData) (v : V) (u : Value), Rp X.K z H v d → RelV v u → RX s.heap u d
  | .none, _, _, h, r => .leaf (flat_reads rfl h r) fun _ q => nomatch q
  | .bool b, _, _, h, r => .leaf (flat_reads rfl h r) fun _ q => nomatch q
  | .int b, _, _, h, r => .leaf (flat_reads rfl h r) fun _ q => nomatch q
  | .str b, _, _, h, r => .leaf (flat_reads rfl h r) fun _ q => nomatch q
  | .list ds, _, _, h, r => by
    cases h with
    | lst a b c =>
      cases r
      obtain ⟨_, its, n, rv, e⟩ := I.hok _ _ b
      exact .lst e rfl rfl (Rps.rx I ds _ its c rv)
  | .tuple ds, _, _, h, r => by
    cases h with
    | tup a c =>
      cases r
      obtain ⟨its, rv, ⟨o, ho, hc, n, hd⟩, _⟩ := I.tuple a.sq
      exact .tup ho hc hd (Rps.rx I ds _ its c rv)
  | .dict ds, _, _, h, r => by
    cases h with
    | @dct a kvs _ h1 b c =>
      cases r
      obtain ⟨_, hs, vs, kv, o, es, ep, g1, g2, g3, _, g5, _⟩ := I.hok _ _ b
      obtain ⟨r1, r2⟩ := pairs_reads (s := s) c kv g5
      refine .leaf (Reads.dict g1 g2.1 g3 r1 r2) fun _ q => ?_
      have e : sysModules = a := by simpa using q
      rw [← e] at hs
      simp at hs
theorem Rps.rx (I : Inv X pins σ H s) : ∀ (ds : List PyData) (vs : List V) (us : List Value), Rps X.K z H vs ds → Vals vs us → RXs s.heap us ds
  | [], _, _, h, r => by cases h; cases r; exact .nil
  | d :: ds, _, _, h, r => by
    cases h with
    | cons a b =>
      cases r with
      | cons c e => exact .cons (Rp.rx I d _ _ a c) (Rps.rx I ds _ _ b e)
end
/-- what repr shows -/
def RR (K : PySem.W.Frag) (H : Hp) (v : V) (d : PyData) : Prop := (∃ z, Rp K z H v d) ∨ ∃ z a xs ps, v = .ref a ∧ d = .list ps ∧ SqL K H a xs ∧ Rps K z H xs ps
theorem cr_repr {k : Nat} (hr : Room k X.A) : CallR X (.builtin "repr") (fun xs H Q => ∃ v d, xs = [v] ∧ RR X.K H v d ∧ d.showable = true ∧ d.shown.length ≤ sizeLine ∧ d.depth ≤ 60 ∧ Q (.str d.shown) H) := by
  intro pins s σ H xs us Q I r h
  obtain ⟨v, d, rfl, rr, s1, s2, s3, q⟩ := h
  obtain ⟨u, rfl, ru⟩ := vals1 r
  have hu := hr.units
  have rx : RX s.heap u d := by
    rcases rr with ⟨z, rr⟩ | ⟨z, a, xs, ps, rfl, rfl, hq, rr⟩
    · exact Rp.rx I d v u rr ru
    · cases ru
      obtain ⟨its, rv, ⟨o, n, ho, hc, _, hd⟩, _⟩ := I.list hq
      exact .lst ho hc hd (Rps.rx I ps _ its rr rv)
  exact call_reprX rx s1 s2 hr.gd (by omega) fun h' u tk k => ⟨.str d.shown, H, I.kept (h' := h') (t' := tk) k, ⟨u, rfl⟩, q⟩
theorem RR.of {g : G} {x : D} {v : V} {d : PyData} (sg : SG K z H g) (r : RpD K z H v x) (h : pure? g x = some d) : RR K H v d := by
  have go : ∀ {ds : List D}, listOf g x = some ds → (allP ds).map PyData.list = some d → RR K H v d := fun {ds} h1 h2 => by
    obtain ⟨ps, e1, e2⟩ := Option.map_eq_some_iff.mp h2
    obtain ⟨a, xs, rfl, hq, rs⟩ := rp_list h1 sg r
    exact .inr ⟨z, a, xs, ps, rfl, e2.symm, hq, rps_of e1 rs⟩
  unfold pure? at h
  split at h
  · cases h; exact .inl ⟨z, r⟩
  · split at h
    · next ds e => exact go e h
    · cases h
/-! ## slices of tuples -/
theorem whole_tup {prog : Program} {w : World} {A : Around} {E' : Value → Shared → Prop} {t sl : Addr} {items : Array Value} {vl vu : Value} {lo hi : Option Int} {Q : Value → Shared → Prop} (ht : IsTup s.heap t items) (hs : s.heap.IsSliceOf sl vl vu .none) (pl : IsPart vl lo) (pu : IsPart vu hi)
    (hw : HT.sIx items.size 0 lo = 0 ∧ HT.sIx items.size items.size hi = items.size) (h : Q (.ref t) s) : wpAny (model prog w) A (getItem (.ref t) (.ref sl)) Q E' s := by
  obtain ⟨os, hos, hcs, hds⟩ := id hs
  have hTs : s.TypeIs (.ref sl) "slice" := ⟨os, hos, hcs⟩
  unfold getItem
  try with_reducible refine wpAny_holding ?_
  first | refine wpAny_bind (wpAny_pure ?_) | skip
  refine wpAny_bind (wpAny_sequenceKey ht.typeIs (by decide) ?_)
  refine wpAny_bind (wpAny_callSpecial?_slot (name := Str.ofString "__getitem__") ht.typeIs PyProof.Rows.slot_tuple_getitem
    (wpAny_call_entry PyProof.Rows.slot_tuple_getitem ht.typeIs entry_tuple_getitem ?_ (args_tuple_getitem _ _)))
  show wpAny _ _ (Builtin.Tuple.tupleItemsOf (.ref t) >>= _) _ _ s
  refine wpAny_bind (tupleItemsOf_ ht ?_)
  refine wpAny_bind (wpAny_typeOf hTs ?_)
  rw [if_pos (by decide)]
  refine wpAny_bind (HT.sliceApplied_gen hs pl pu ?_)
  show wpAny _ _ (if (((HT.sIx items.size 0 lo : Nat) : Int) == 0 && (1 : Int) == 1 && (HT.sIx items.size items.size hi - HT.sIx items.size 0 lo) == items.size) = true then _ else _) _ _ s
  rw [if_pos (by rw [hw.1, hw.2]; simp)]
  unfold Builtin.Tuple.tupleIsExact
  refine wpAny_bind (wpAny_bind (wpAny_typeOf ht.typeIs (wpAny_pure ?_)))
  rw [if_pos (by decide)]
  exact wpAny_bind (wpAny_rule (wpAny_pure ⟨_, rfl, wpAny_pure h⟩))
def rSlW (K : PySem.W.Frag) : V → Option Int → Option Int → Hp → VK → Prop := fun x lo hi H Q => ∃ a xs, x = .ref a ∧ SqT K H a xs ∧ (HT.sIx xs.length 0 lo = 0 ∧ HT.sIx xs.length xs.length hi = xs.length) ∧ Q (.ref a) H
theorem sl_whole : SlR X (rSlW X.K) := by
  intro pins s σ H x v vl vu lo hi sl Q I rx hs pl pu h
  obtain ⟨a, xs, rfl, hx, hw, q⟩ := h
  cases rx
  obtain ⟨its, r, ht, hz⟩ := I.tuple hx
  have hlen : its.toArray.size = xs.length := by rw [List.size_toArray]; exact r.length.symm
  refine ⟨"tuple", _, PyProof.Rows.slot_tuple_getitem.lookup, ht.typeIs, ?_⟩
  exact whole_tup ht hs pl pu (by rw [hlen]; exact hw) ⟨.ref a, H, I, rfl, q⟩
def rSlD (K : PySem.W.Frag) : V → Option Int → Option Int → Hp → VK → Prop := fun x lo hi H Q => rSlT K x lo hi H Q ∨ rSlW K x lo hi H Q
theorem sl_D : SlR X (rSlD X.K) := SlR.or sl_tup sl_whole
theorem sl_ok {g : G} {x : D} {v : V} {lo hi : Option Int} {Q : VK} (s : SG K z H g) (r : RpD K z H v x) (h : Lf K mg X0 (RpD K) z H (opSl x lo hi g) Q) : rSlD K v lo hi H Q := by
  unfold opSl at h
  split at h
  · next a =>
    obtain ⟨p, xs, rfl, tx, qx⟩ := rp_tup r
    have lx := qx.len
    by_cases hw : HT.sIx xs.length 0 lo = 0 ∧ HT.sIx xs.length xs.length hi = xs.length
    · refine .inr ⟨p, xs, rfl, tx.sq, hw, ?_⟩
      have e : cutP a lo hi = a := by
        unfold cutP
        rw [← lx, hw.1, hw.2, Nat.sub_zero, List.drop_zero, lx, List.take_length]
      rw [e] at h
      exact h.ok s (.tup tx qx)
    · refine .inl ⟨p, xs, rfl, tx.sq, hw, tup_ok s (ps := cutP a lo hi) ?_ h⟩
      unfold cutP cutV
      rw [← lx]
      exact (qx.drop _).take _
  · exact h.elim
/-! ## t[::-1] -/
theorem applied_rev {prog : Program} {w : World} {A : Around} {E' : Value → Shared → Prop} {sl : Addr} {vk : Value} {n : Nat} {Q : Int × Int × Nat → Shared → Prop} (hs : s.heap.IsSliceOf sl .none .none vk) (pk : IsPart vk (some (-1)))
    (h : Q ((n : Int) - 1, -1, n) s) : wpAny (model prog w) A (Builtin.Slice.sliceApplied (.ref sl) (pure (n : Int))) Q E' s := by
  obtain ⟨os, hos, hcs, hds⟩ := id hs
  unfold Builtin.Slice.sliceApplied Builtin.Slice.sliceFields
  refine wpAny_bind (wpAny_bind (wpAny_field hos hds (x := .none) rfl (wpAny_bind (wpAny_field hos hds (x := .none) rfl (wpAny_bind (wpAny_field hos hds (x := vk) rfl (wpAny_pure ?_)))))))
  refine wpAny_bind (HT.slicePart_ pk ?_)
  show wpAny _ _ (if ((-1 : Int) == 0) = true then _ else _) _ _ s
  rw [if_neg (by decide)]
  refine wpAny_bind (HT.slicePart_ .none (wpAny_bind (HT.slicePart_ .none (wpAny_bind (wpAny_pure ?_)))))
  show wpAny _ _ (pure ((n : Int) - 1, (-1 : Int), Builtin.Slice.slicePlaces ((n : Int) - 1) (-1) (-1))) _ _ s
  have e : Builtin.Slice.slicePlaces ((n : Int) - 1) (-1) (-1) = n := by
    unfold Builtin.Slice.slicePlaces
    rw [if_neg (by decide)]
    by_cases hn : (n : Int) - 1 > -1
    · rw [if_pos hn]
      have : ((n : Int) - 1 - -1 - 1) / (- -1) = (n : Int) - 1 := by
        have : (- -1 : Int) = 1 := by decide
        rw [this, Int.ediv_one]; omega
      rw [this]; omega
    · rw [if_neg hn]; omega
  rw [e]
  exact wpAny_pure h
theorem pick_rev (xs : List Value) : ((List.range xs.length).filterMap fun (k : Nat) => xs.toArray[(((xs.length : Nat) : Int) - 1 + (k : Int) * (-1)).toNat]?) = xs.reverse := by
  have e : (fun (k : Nat) => xs.toArray[(((xs.length : Nat) : Int) - 1 + (k : Int) * (-1)).toNat]?) = (fun j => xs.toArray[j]?) ∘ fun k => xs.length - 1 - k := by
    funext k
    have q : (((xs.length : Nat) : Int) - 1 + (k : Int) * (-1)).toNat = xs.length - 1 - k := by omega
    show xs.toArray[_]? = xs.toArray[xs.length - 1 - k]?
    rw [q]
  rw [e, ← List.filterMap_map, PySem.W.krv_range, List.filterMap_reverse]
  have := PySem.W.krv_all xs.toArray
  rw [List.size_toArray] at this
  rw [this]
theorem rev_tup {prog : Program} {w : World} {A : Around} {E' : Value → Shared → Prop} {t sl : Addr} {its : List Value} {vk : Value} {Q : Value → Shared → Prop} (ht : IsTup s.heap t its.toArray) (hs : s.heap.IsSliceOf sl .none .none vk) (pk : IsPart vk (some (-1)))
    (h : Q (.ref s.heap.objs.size) { s with heap := s.heap.push { cls := .type "tuple", data := .seq its.reverse.toArray } }) (hsz : its.length ≤ sizeLine) : wpAny (model prog w) A (getItem (.ref t) (.ref sl)) Q E' s := by
  obtain ⟨os, hos, hcs, hds⟩ := id hs
  have hTs : s.TypeIs (.ref sl) "slice" := ⟨os, hos, hcs⟩
  have htake : sizeOk (.seq its.reverse.toArray) := by
    show its.reverse.toArray.size ≤ sizeLine
    rw [List.size_toArray, List.length_reverse]; exact hsz
  unfold getItem
  try with_reducible refine wpAny_holding ?_
  first | refine wpAny_bind (wpAny_pure ?_) | skip
  refine wpAny_bind (wpAny_sequenceKey ht.typeIs (by decide) ?_)
  refine wpAny_bind (wpAny_callSpecial?_slot (name := Str.ofString "__getitem__") ht.typeIs PyProof.Rows.slot_tuple_getitem
    (wpAny_call_entry PyProof.Rows.slot_tuple_getitem ht.typeIs entry_tuple_getitem ?_ (args_tuple_getitem _ _)))
  show wpAny _ _ (Builtin.Tuple.tupleItemsOf (.ref t) >>= _) _ _ s
  refine wpAny_bind (tupleItemsOf_ ht ?_)
  refine wpAny_bind (wpAny_typeOf hTs ?_)
  rw [if_pos (by decide)]
  rw [List.size_toArray]
  refine wpAny_bind (applied_rev hs pk ?_)
  show wpAny _ _ (if (((its.length : Int) - 1) == 0 && (-1 : Int) == 1 && its.length == its.length) = true then _ else _) _ _ s
  have hno : ¬ ((((its.length : Int) - 1) == 0 && (-1 : Int) == 1 && its.length == its.length) = true) := by
    have : ((-1 : Int) == 1) = false := by decide
    rw [this, Bool.and_false, Bool.false_and]; exact Bool.false_ne_true
  rw [if_neg hno, pick_rev]
  first
    | exact wpAny_bind (m := Builtin.Tuple.tupleExact _) (wpAny_newObj_type (wpAny_pure ⟨_, rfl, wpAny_pure h⟩) htake)
    | exact wpAny_bind (m := Builtin.Tuple.tupleExact _) (wpAny_newObj_type (wpAny_bind (wpAny_pure (wpAny_pure ⟨_, rfl, wpAny_pure h⟩))) htake)
    | exact wpAny_bind (wpAny_bind (m := Builtin.Tuple.tupleExact _) (wpAny_newObj_type (wpAny_pure (wpAny_pure ⟨_, rfl, wpAny_pure h⟩)) htake))
    | exact wpAny_bind (wpAny_bind (m := Builtin.Tuple.tupleExact _) (wpAny_newObj_type (wpAny_pure ⟨_, rfl, wpAny_pure h⟩) htake))
def tRev (K : PySem.W.Frag) (te : TE) : TE := fun σ H Q => te σ H fun x H1 => ∃ a xs, x = .ref a ∧ SqT K H1 a xs ∧ ∀ p, H1 p = none → Q (.ref p) (upd H1 p (.tup xs.reverse))
theorem vals_rev : ∀ {xs : List V} {us : List Value}, Vals xs us → Vals xs.reverse us.reverse
  | _, _, .nil => .nil
  | _, _, .cons r t => by
    rw [List.reverse_cons, List.reverse_cons]
    exact (vals_rev t).append (.cons r .nil)
theorem pe_rev {e : Expr} {te : TE} {j : Nat} {p1 p2 p3 pos : Pos} (he : PE X e te) : PE X (.Subscript e (.Slice none none (some (.UnaryOp .USub (.Constant (.int 1) j p1) p2)) p3) pos) (tRev X.K te) := by
  intro pins s σ H Q I h
  refine Subscript_ (thn (he pins s σ H _ I h) fun v s1 ⟨x, H1, I1, r1, q1⟩ => ?_)
  obtain ⟨a, xs, rfl, hq, q⟩ := q1
  cases r1
  have pk := pe_un (X := X) (op := .USub) (pos := p2) un_neg (pe_int (i := 1) (j := j) (pos := p1))
  refine wpAny_Slice ?_
  rw [evalPart_none]
  refine wpAny_pure ?_
  refine wpAny_pure ?_
  rw [evalPart_some]
  refine thn (pk pins s1 σ H1 (fun y H2 => y = .int (-1) ∧ H2 = H1) I1 ⟨1, rfl, rfl, rfl⟩) fun vk s2 ⟨y, H2, I2, r2, e1, e2⟩ => ?_
  subst e1 e2
  obtain ⟨t, rfl⟩ := r2
  obtain ⟨its, r, ht, hz⟩ := I2.tuple hq
  have ht' : IsTup (s2.heap.push { cls := .type "slice", data := .fields #[.none, .none, .int (-1) t] }) a its.toArray := by
    obtain ⟨o, ho, hc⟩ := ht
    exact ⟨o, Heap.get?_push_of_some _ ho, hc⟩
  have I3 : Inv X pins σ H2 { s2 with heap := s2.heap.push { cls := .type "slice", data := .fields #[.none, .none, .int (-1) t] } } := I2.kept (t' := s2.toks) fun b ob q => Heap.get?_push_of_some _ q
  have hl := r.length
  refine tail_any (ops := [.ref a, .ref s2.heap.objs.size]) ht'.typeIs PyProof.Rows.slot_tuple_getitem.lookup (rev_tup (s := { s2 with heap := s2.heap.push { cls := .type "slice", data := .fields #[.none, .none, .int (-1) t] } }) ht' (Heap.IsSliceOf.new ..) (.int (-1) t) ?_ (by omega)) (by with_unfolding_all rfl)
  refine ⟨.ref (s2.heap.push { cls := .type "slice", data := .fields #[.none, .none, .int (-1) t] }).objs.size, _, I3.laid (t' := s2.toks) (o := .tup xs.reverse) (fun b ob q => Heap.get?_push_of_some _ q) (Nat.le_refl _) ?_, rfl, q _ (I3.hok.fresh (Nat.le_refl _))⟩
  exact ⟨by rw [List.length_reverse]; exact hz, its.reverse, vals_rev r, IsTup.new _ _⟩
end
end En

set_option Elab.async false
set_option linter.all false
set_option maxRecDepth 100000
namespace En
open PySem PySem.Spec PyProof.Rows L2
def JE (X : Cx) (X0 : XK) (e : Expr) (f : Env → G → R D) : Prop := PE X e (LE X.K X.mg X0 f)
def JT (X : Cx) (X0 : XK) (e : Expr) (f : Env → G → R Bool) : Prop := PT X e (LT X.K X.mg X0 f)
def JW (X : Cx) (X0 : XK) (e : Expr) (f : Env → G → R Bool) : Prop := PW X e (LT X.K X.mg X0 f)
def JA (X : Cx) (X0 : XK) (es : List Expr) (f : Env → G → R (List D)) : Prop := PA X es (LA X.K X.mg X0 f)
def asT (f : Env → G → R D) : Env → G → R Bool := fun ρ g => (f ρ g).bind asB
section
variable {X : Cx} {X0 : XK} {e a b c : Expr} {es : List Expr} {fa fb fc : Env → G → R D} {pos : Pos}
theorem JE.of {t : TE} {f : Env → G → R D} (h : PE X e t) (i : ∀ z ρ g σ H Q, Sim X.K z H σ ρ g → Lf X.K X.mg X0 (RpD X.K) z H (f ρ g) Q → t σ H Q) : JE X X0 e f :=
  fun pins s σ H Q I ⟨z, ρ, g, sm, l⟩ => h pins s σ H Q I (i z ρ g σ H Q sm l)
theorem JT.of {t : TT} {f : Env → G → R Bool} (h : PT X e t) (i : ∀ z ρ g σ H Q, Sim X.K z H σ ρ g → Lf X.K X.mg X0 (fun _ _ (b : Bool) c => b = c) z H (f ρ g) Q → t σ H Q) : JT X X0 e f :=
  fun pins s σ H Q I ⟨z, ρ, g, sm, l⟩ => h pins s σ H Q I (i z ρ g σ H Q sm l)
theorem JW.of {t : TT} {f : Env → G → R Bool} (h : PW X e t) (i : ∀ z ρ g σ H Q, Sim X.K z H σ ρ g → Lf X.K X.mg X0 (fun _ _ (b : Bool) c => b = c) z H (f ρ g) Q → t σ H Q) : JW X X0 e f :=
  fun wh pins s σ H Q I ⟨z, ρ, g, sm, l⟩ => h wh pins s σ H Q I (i z ρ g σ H Q sm l)
theorem JE.stuck : JE X X0 e (fun _ _ => .stuck) := fun _ _ _ _ _ _ ⟨_, _, _, _, l⟩ => l.elim
theorem JE.congr {f f' : Env → G → R D} (h : JE X X0 e f) (q : ∀ ρ g, f ρ g = f' ρ g) : JE X X0 e f' := by
  have : f = f' := funext fun ρ => funext fun g => q ρ g
  rw [← this]; exact h
theorem JT.congr {f f' : Env → G → R Bool} (h : JT X X0 e f) (q : ∀ ρ g, f ρ g = f' ρ g) : JT X X0 e f' := by
  have : f = f' := funext fun ρ => funext fun g => q ρ g
  rw [← this]; exact h
/-- one part, then what is made of it -/
theorem le_bind {f : Env → G → R D} {k : D → G → R D} {K : PySem.W.Frag} {mg : Str → Option Value} {σ : L2.St} {z : Ad} {H : Hp} {ρ : Env} {g : G} {Q : VK} {Qa : VK} (sm : Sim K z H σ ρ g) (l : Lf K mg X0 (RpD K) z H ((f ρ g).bind k) Q)
    (q : ∀ z1 H1 x g1 v, Sim K z1 H1 σ ρ g1 → Ext z H z1 H1 → RpD K z1 H1 v x → Lf K mg X0 (RpD K) z1 H1 (k x g1) Q → Qa v H1) : LE K mg X0 f σ H Qa :=
  ⟨z, ρ, g, sm, (Lf.bind l).mono fun v H1 ⟨z1, x, g1, e, sg, r, l1⟩ => q z1 H1 x g1 v (sm.mono e sg) e r l1⟩
theorem je_lit {d : PyData} {v : V} (h : PE X e (tC v)) (r : ∀ z H, Rp X.K z H v d) : JE X X0 e (fun _ g => .ok (.p d) g) :=
  .of h fun z ρ g σ H Q sm l => l.ok sm.sg (r z H)
theorem je_var {i : Nat} (h : PE X e (tVar i)) : JE X X0 e (fun ρ g => match ρ[i]? with | some (some d) => .ok d g | _ => .stuck) := by
  refine .of h fun z ρ g σ H Q sm l => ?_
  split at l
  · next d q =>
    obtain ⟨v, h1, h2⟩ := sm.slot i d q
    exact ⟨v, h1, l.ok sm.sg h2⟩
  · exact l.elim
theorem je_op {t : R2} {f : D → D → G → R D} (h : PE X e (tOp t (LE X.K X.mg X0 fa) (LE X.K X.mg X0 fb))) (s : OpS X.K X.mg X0 t f) : JE X X0 e (fun ρ g => (fa ρ g).bind fun x g => (fb ρ g).bind fun y g => f x y g) := by
  refine .of h fun z ρ g σ H Q sm l => ?_
  refine le_bind sm l fun z1 H1 x g1 v sm1 e1 r1 l1 => ?_
  refine le_bind sm1 l1 fun z2 H2 y g2 u sm2 e2 r2 l2 => ?_
  exact s z2 H2 g2 x y v u Q sm2.sg (r1.mono e2) r2 l2
theorem je_bin {o : BO} {mu : Bool} (ha : JE X X0 a fa) (hb : JE X X0 b fb) : JE X X0 (.BinOp a o.op b pos) (fun ρ g => (fa ρ g).bind fun x g => (fb ρ g).bind fun y g => opBin o mu x y g) := by
  obtain ⟨r, h1, h2⟩ := bin_ok (X := X) (mg := X.mg) (X0 := X0) o mu
  exact je_op (pe_op h1 ha hb) h2
theorem je_neg (ha : JE X X0 a fa) : JE X X0 (.UnaryOp .USub a pos) (fun ρ g => (fa ρ g).bind fun x g => opNeg x g) := by
  refine .of (pe_un un_neg ha) fun z ρ g σ H Q sm l => ?_
  refine le_bind sm l fun z1 H1 x g1 v sm1 e1 r1 l1 => ?_
  unfold opNeg at l1
  split at l1
  · rw [rp_int r1]; exact ⟨_, rfl, l1.ok sm1.sg (.int _)⟩
  · exact l1.elim
theorem opCmp_bool {o : CO} {x y r : D} {g g' : G} (h : opCmp o x y g = .ok r g') : ∃ k, r = .b k ∧ g' = g := by
  cases o <;> simp only [opCmp, opRel, opEq, opNe, opIs] at h <;> (repeat' (split at h)) <;> first | (cases h; exact ⟨_, rfl, rfl⟩) | cases h
theorem opCmp_exc {o : CO} {x y : D} {g g' : G} {r : Exc} : opCmp o x y g ≠ .exc r g' := by
  intro h
  cases o <;> simp only [opCmp, opRel, opEq, opNe, opIs] at h <;> (repeat' (split at h)) <;> cases h
theorem je_cmp {k : Nat} {o : CO} (hr : Room k X.A) (ho : o ≠ .inn ∧ o ≠ .nin) (ha : JE X X0 a fa) (hb : JE X X0 b fb) :
    JE X X0 (.Compare a [o.op] [b] pos) (fun ρ g => (fa ρ g).bind fun x g => (fb ρ g).bind fun y g => opCmp o x y g) ∧
    JT X X0 (.Compare a [o.op] [b] pos) (asT fun ρ g => (fa ρ g).bind fun x g => (fb ρ g).bind fun y g => opCmp o x y g) := by
  obtain ⟨r, h1, h2⟩ := cmp_ok (X := X) (mg := X.mg) (X0 := X0) hr o
  have nm : behindInMarks o.op b = false := nomark b (by cases o <;> first | decide | exact absurd rfl ho.1 | exact absurd rfl ho.2) (by cases o <;> first | decide | exact absurd rfl ho.1 | exact absurd rfl ho.2)
  refine ⟨je_op (pe_cmpR h1 ha hb nm) h2, .of (pt_cmpR h1 ha hb nm) fun z ρ g σ H Q sm l => ?_⟩
  unfold asT at l
  have l' : Lf X.K X.mg X0 (RpD X.K) z H ((fa ρ g).bind fun x g => (fb ρ g).bind fun y g => opCmp o x y g) (fun x H' => ∃ k, x = .bl k ∧ Q k H') := by
    refine (Lf.bind l).mono fun v H1 ⟨z1, x, g1, e, sg, r, l1⟩ => ?_
    unfold asB at l1
    split at l1
    · exact ⟨_, rp_bool r, l1.ok sg rfl⟩
    · exact l1.elim
  refine le_bind sm l' fun z1 H1 x g1 v sm1 e1 r1 l1 => ?_
  refine le_bind sm1 l1 fun z2 H2 y g2 u sm2 e2 r2 l2 => ?_
  exact h2 z2 H2 g2 x y v u _ sm2.sg (r1.mono e2) r2 l2
theorem asB_ok {K : PySem.W.Frag} {mg : Str → Option Value} {z : Ad} {H : Hp} {g : G} {x : D} {v : V} {α β : Type} {Rel : Ad → Hp → β → α → Prop} {k : Bool → G → R α} {Q : β → Hp → Prop} (r : RpD K z H v x) (l : Lf K mg X0 Rel z H ((asB x g).bind k) Q) : ∃ c, v = .bl c ∧ Lf K mg X0 Rel z H (k c g) Q := by
  unfold asB at l
  split at l
  · exact ⟨_, rp_bool r, l⟩
  · exact l.elim
/-- what a reading as a value says of it as a test -/
theorem lf_test {K : PySem.W.Frag} {mg : Str → Option Value} {z : Ad} {H : Hp} {r : R D} {Q : Bool → Hp → Prop} (l : Lf K mg X0 (fun _ _ (b : Bool) c => b = c) z H (r.bind asB) Q) : Lf K mg X0 (RpD K) z H r (fun x H' => ∃ k, x = .bl k ∧ Q k H') := by
  refine (Lf.bind l).mono fun v H1 ⟨z1, x, g1, e, sg, r, l1⟩ => ?_
  unfold asB at l1
  split at l1
  · exact ⟨_, rp_bool r, l1.ok sg rfl⟩
  · exact l1.elim
theorem je_chain {k : Nat} {o o' : CO} (hr : Room k X.A) (ho : o ≠ .inn ∧ o ≠ .nin) (ho' : o' ≠ .inn ∧ o' ≠ .nin) (ha : JE X X0 a fa) (hb : JE X X0 b fb) (hc : JE X X0 c fc) :
    JE X X0 (.Compare a [o.op, o'.op] [b, c] pos) (fun ρ g => (fa ρ g).bind fun x g => (fb ρ g).bind fun y g => (opCmp o x y g).bind fun r g => (asB r g).bind fun k g => if k then (fc ρ g).bind fun z g => opCmp o' y z g else .ok (.b false) g) ∧
    JT X X0 (.Compare a [o.op, o'.op] [b, c] pos) (asT fun ρ g => (fa ρ g).bind fun x g => (fb ρ g).bind fun y g => (opCmp o x y g).bind fun r g => (asB r g).bind fun k g => if k then (fc ρ g).bind fun z g => opCmp o' y z g else .ok (.b false) g) := by
  obtain ⟨r, h1, h2⟩ := cmp_ok (X := X) (mg := X.mg) (X0 := X0) hr o
  obtain ⟨r', h1', h2'⟩ := cmp_ok (X := X) (mg := X.mg) (X0 := X0) hr o'
  have nm : lastMarks [o.op, o'.op] [b, c] = false := by
    show behindInMarks o'.op c = false
    exact nomark c (by cases o' <;> first | decide | exact absurd rfl ho'.1 | exact absurd rfl ho'.2) (by cases o' <;> first | decide | exact absurd rfl ho'.1 | exact absurd rfl ho'.2)
  have key : ∀ z ρ g σ H Q, Sim X.K z H σ ρ g → Lf X.K X.mg X0 (RpD X.K) z H ((fa ρ g).bind fun x g => (fb ρ g).bind fun y g => (opCmp o x y g).bind fun r g => (asB r g).bind fun k g => if k then (fc ρ g).bind fun z g => opCmp o' y z g else .ok (.b false) g) Q → tChain r r' (LE X.K X.mg X0 fa) (LE X.K X.mg X0 fb) (LE X.K X.mg X0 fc) σ H Q := by
    intro z ρ g σ H Q sm l
    refine le_bind sm l fun z1 H1 x g1 v sm1 e1 r1 l1 => ?_
    refine le_bind sm1 l1 fun z2 H2 y g2 u sm2 e2 r2 l2 => ?_
    refine h2 z2 H2 g2 x y v u _ sm2.sg (r1.mono e2) r2 ((Lf.bind l2).mono fun w H3 ⟨z3, x3, g3, e3, sg3, r3, l3⟩ => ?_)
    obtain ⟨k, rfl, l4⟩ := asB_ok r3 l3
    refine ⟨k, rfl, ?_⟩
    cases k with
    | true =>
      rw [if_pos rfl]
      refine le_bind (sm2.mono e3 sg3) l4 fun z5 H5 x5 g5 v5 sm5 e5 r5 l5 => ?_
      exact h2' z5 H5 g5 y x5 u v5 Q sm5.sg ((r2.mono e3).mono e5) r5 l5
    | false =>
      rw [if_neg Bool.false_ne_true]
      exact l4.ok sg3 (.bl _)
  exact ⟨.of (pe_chain h1 h1' ha hb hc nm) key, .of (pt_chain h1 h1' ha hb hc nm) fun z ρ g σ H Q sm l => key z ρ g σ H _ sm (lf_test l)⟩
/-! ## and, or, not, if -/
theorem je_not (ha : JE X X0 a fa) : JE X X0 (.UnaryOp .Not a pos) (fun ρ g => (fa ρ g).bind fun x g => (asB x g).bind fun k g => .ok (.b (!k)) g) := by
  refine .of (pe_not ha) fun z ρ g σ H Q sm l => ?_
  refine le_bind sm l fun z1 H1 x g1 v sm1 e1 r1 l1 => ?_
  obtain ⟨k, rfl, l2⟩ := asB_ok r1 l1
  exact ⟨k, rfl, l2.ok sm1.sg (.bl _)⟩
variable {ta tb : Env → G → R Bool}
theorem lt_bind {f : Env → G → R Bool} {α β : Type} {Rel : Ad → Hp → β → α → Prop} {k : Bool → G → R α} {K : PySem.W.Frag} {mg : Str → Option Value} {σ : L2.St} {z : Ad} {H : Hp} {ρ : Env} {g : G} {Q : β → Hp → Prop} {Qa : Bool → Hp → Prop} (sm : Sim K z H σ ρ g) (l : Lf K mg X0 Rel z H ((f ρ g).bind k) Q)
    (q : ∀ z1 H1 x g1, Sim K z1 H1 σ ρ g1 → Ext z H z1 H1 → Lf K mg X0 Rel z1 H1 (k x g1) Q → Qa x H1) : LT K mg X0 f σ H Qa :=
  ⟨z, ρ, g, sm, (Lf.bind l).mono fun v H1 ⟨z1, x, g1, e, sg, r, l1⟩ => by subst r; exact q z1 H1 v g1 (sm.mono e sg) e l1⟩
theorem jt_not (ha : JT X X0 a ta) : JT X X0 (.UnaryOp .Not a pos) (fun ρ g => (ta ρ g).bind fun k g => .ok (!k) g) := by
  refine .of (pt_not ha) fun z ρ g σ H Q sm l => ?_
  exact lt_bind sm l fun z1 H1 x g1 sm1 e1 l1 => l1.ok sm1.sg rfl
theorem je_ite {f1 f2 : Env → G → R D} (hc : JT X X0 c ta) (ha : JE X X0 a f1) (hb : JE X X0 b f2) : JE X X0 (.IfExp c a b pos) (fun ρ g => (ta ρ g).bind fun k g => if k then f1 ρ g else f2 ρ g) := by
  refine .of (pe_ifExp hc ha hb) fun z ρ g σ H Q sm l => ?_
  refine lt_bind sm l fun z1 H1 x g1 sm1 e1 l1 => ?_
  cases x with
  | true => rw [if_pos rfl]; exact ⟨z1, ρ, g1, sm1, l1⟩
  | false => rw [if_neg Bool.false_ne_true]; exact ⟨z1, ρ, g1, sm1, l1⟩
theorem jt_ite {tc : Env → G → R Bool} (hc : JT X X0 c ta) (ha : JT X X0 a tb) (hb : JT X X0 b tc) : JT X X0 (.IfExp c a b pos) (fun ρ g => (ta ρ g).bind fun k g => if k then tb ρ g else tc ρ g) := by
  rintro pins s σ H Q I ⟨z, ρ, g, sm, l⟩
  refine isTrue_IfExp (thn (hc pins s σ H _ I (lt_bind (Qa := fun k H1 => if k = true then LT X.K X.mg X0 tb σ H1 Q else LT X.K X.mg X0 tc σ H1 Q) sm l fun z1 H1 x g1 sm1 e1 l1 => ?_)) fun d s1 ⟨H1, I1, q1⟩ => ?_)
  · cases x with
    | true => rw [if_pos rfl]; exact ⟨z1, ρ, g1, sm1, l1⟩
    | false => rw [if_neg Bool.false_ne_true]; exact ⟨z1, ρ, g1, sm1, l1⟩
  · cases d with
    | true => exact ha pins s1 σ H1 Q I1 q1
    | false => exact hb pins s1 σ H1 Q I1 q1
/-- .. as values: all but the last True or False -/
theorem je_and {rest : List Expr} (ha : JE X X0 a fa) (hb : JE X X0 (.BoolOp .And (b :: rest) pos) fb) : JE X X0 (.BoolOp .And (a :: b :: rest) pos) (fun ρ g => (fa ρ g).bind fun x g => (asB x g).bind fun k g => if k then fb ρ g else .ok (.b false) g) := by
  refine .of (pe_and ha hb) fun z ρ g σ H Q sm l => ?_
  refine le_bind sm l fun z1 H1 x g1 v sm1 e1 r1 l1 => ?_
  obtain ⟨k, rfl, l2⟩ := asB_ok r1 l1
  refine ⟨k, rfl, ?_⟩
  cases k with
  | true => rw [if_pos rfl]; exact ⟨z1, ρ, g1, sm1, l2⟩
  | false => rw [if_neg Bool.false_ne_true]; exact l2.ok sm1.sg (.bl _)
theorem je_or {rest : List Expr} (ha : JE X X0 a fa) (hb : JE X X0 (.BoolOp .Or (b :: rest) pos) fb) : JE X X0 (.BoolOp .Or (a :: b :: rest) pos) (fun ρ g => (fa ρ g).bind fun x g => (asB x g).bind fun k g => if k then .ok (.b true) g else fb ρ g) := by
  refine .of (pe_or ha hb) fun z ρ g σ H Q sm l => ?_
  refine le_bind sm l fun z1 H1 x g1 v sm1 e1 r1 l1 => ?_
  obtain ⟨k, rfl, l2⟩ := asB_ok r1 l1
  refine ⟨k, rfl, ?_⟩
  cases k with
  | true => rw [if_pos rfl]; exact l2.ok sm1.sg (.bl _)
  | false => rw [if_neg Bool.false_ne_true]; exact ⟨z1, ρ, g1, sm1, l2⟩
theorem jw_and {rest : List Expr} (ha : JT X X0 a ta) (hb : JW X X0 (.BoolOp .And (b :: rest) pos) tb) : JW X X0 (.BoolOp .And (a :: b :: rest) pos) (fun ρ g => (ta ρ g).bind fun k g => if k then tb ρ g else .ok false g) := by
  refine .of (pw_and ha hb) fun z ρ g σ H Q sm l => ?_
  refine lt_bind sm l fun z1 H1 x g1 sm1 e1 l1 => ?_
  cases x with
  | true => rw [if_pos rfl]; exact ⟨z1, ρ, g1, sm1, l1⟩
  | false => rw [if_neg Bool.false_ne_true]; exact l1.ok sm1.sg rfl
theorem jw_or {rest : List Expr} (ha : JT X X0 a ta) (hb : JW X X0 (.BoolOp .Or (b :: rest) pos) tb) : JW X X0 (.BoolOp .Or (a :: b :: rest) pos) (fun ρ g => (ta ρ g).bind fun k g => if k then .ok true g else tb ρ g) := by
  refine .of (pw_or ha hb) fun z ρ g σ H Q sm l => ?_
  refine lt_bind sm l fun z1 H1 x g1 sm1 e1 l1 => ?_
  cases x with
  | true => rw [if_pos rfl]; exact l1.ok sm1.sg rfl
  | false => rw [if_neg Bool.false_ne_true]; exact ⟨z1, ρ, g1, sm1, l1⟩
/-- any value as a test -/
theorem truth_ok {K : PySem.W.Frag} {mg : Str → Option Value} {z : Ad} {H : Hp} {g : G} {x : D} {v : V} {Q : Bool → Hp → Prop} (s : SG K z H g) (r : RpD K z H v x) (l : Lf K mg X0 (fun _ _ (b : Bool) c => b = c) z H (truth g x) Q) : ∃ k, TruV K v H k ∧ Q k H := by
  have hl := lim_le
  unfold truth at l
  split at l
  · next ds =>
    obtain ⟨a, xs, rfl, li, q⟩ := r
    refine ⟨_, .inl ⟨xs, li.sq, ?_⟩, l.ok s rfl⟩
    cases q <;> rfl
  · rw [rp_none r]; exact ⟨_, rfl, l.ok s rfl⟩
  · rw [rp_bool r]; exact ⟨_, rfl, l.ok s rfl⟩
  · rw [rp_int r]; exact ⟨_, rfl, l.ok s rfl⟩
  · next x =>
    split at l
    · next hx =>
      rw [rp_str r]
      refine ⟨_, ⟨Nat.le_trans hx hl, rfl⟩, ?_⟩
      have q := l.ok s rfl
      have e : ((x.length : Int) != 0) = (x.length != 0) := by
        cases x.length with
        | zero => rfl
        | succ n => simp; omega
      rw [e]; exact q
    · exact l.elim
  · obtain ⟨a, xs, rfl, _, tx, q⟩ := rp_lst r
    refine ⟨_, .inl ⟨xs, SqL.of tx, ?_⟩, l.ok s rfl⟩
    cases q <;> rfl
  · obtain ⟨a, xs, rfl, tx, q⟩ := rp_tup r
    refine ⟨_, .inr (.inl ⟨xs, tx.sq, ?_⟩), l.ok s rfl⟩
    cases q <;> rfl
  · next n =>
    split at l
    · next ds e =>
      obtain ⟨a, rfl, ea⟩ := r
      obtain ⟨xs, h1, q⟩ := s.obj n a _ ea e
      refine ⟨_, .inl ⟨xs, SqL.of h1, ?_⟩, l.ok s rfl⟩
      cases q <;> rfl
    · exact l.elim
  · exact l.elim
theorem jt_of {f : Env → G → R D} (h : JE X X0 e f) (he : ∀ whole, isTrue e X.env whole = (do let v ← whole; standAt e.pos; holding [v] (truthy v))) : JT X X0 e (asT fun ρ g => tst true (f ρ g)) := by
  refine .of (pt_truth h he) fun z ρ g σ H Q sm l => ?_
  have l : Lf X.K X.mg X0 (fun _ _ (b : Bool) c => b = c) z H (((f ρ g).bind fun d g => (truth g d).bind fun b g => .ok (.b b) g).bind asB) Q := l
  have l' : Lf X.K X.mg X0 (fun _ _ (b : Bool) c => b = c) z H ((f ρ g).bind fun d g => truth g d) Q := by
    cases hf : f ρ g with
    | ok d g' =>
      rw [hf] at l
      simp only [R.bind_ok] at l ⊢
      cases ht : truth g' d with
      | ok b g2 => rw [ht] at l; exact l
      | exc x g2 => rw [ht] at l; exact l
      | stuck => rw [ht] at l; exact l
    | exc x g' => rw [hf] at l; exact l
    | stuck => rw [hf] at l; exact l
  refine ⟨z, ρ, g, sm, (Lf.bind l').mono fun v H1 ⟨z1, x, g1, e, sg, r, l1⟩ => truth_ok sg r l1⟩
end
end En

set_option Elab.async false
set_option linter.all false
set_option maxRecDepth 100000
namespace En
open PySem PySem.Spec PyProof.Rows L2
def CallS (K : PySem.W.Frag) (mg : Str → Option Value) (X0 : XK) (r : List V → Hp → VK → Prop) (f : List D → G → R D) : Prop :=
  ∀ (z : Ad) (H : Hp) (g : G) (xs : List D) (vs : List V) (Q : VK), SG K z H g → RpDs K z H vs xs → Lf K mg X0 (RpD K) z H (f xs g) Q → r vs H Q
section
variable {X : Cx} {X0 : XK} {e a b c : Expr} {es : List Expr} {fa fb fc : Env → G → R D} {fs : Env → G → R (List D)} {pos : Pos}
theorem la_bind {f : Env → G → R (List D)} {α β : Type} {Rel : Ad → Hp → β → α → Prop} {k : List D → G → R α} {K : PySem.W.Frag} {mg : Str → Option Value} {σ : L2.St} {z : Ad} {H : Hp} {ρ : Env} {g : G} {Q : β → Hp → Prop} {Qa : List V → Hp → Prop} (sm : Sim K z H σ ρ g) (l : Lf K mg X0 Rel z H ((f ρ g).bind k) Q)
    (q : ∀ z1 H1 x g1 v, Sim K z1 H1 σ ρ g1 → Ext z H z1 H1 → RpDs K z1 H1 v x → Lf K mg X0 Rel z1 H1 (k x g1) Q → Qa v H1) : LA K mg X0 f σ H Qa :=
  ⟨z, ρ, g, sm, (Lf.bind l).mono fun v H1 ⟨z1, x, g1, e, sg, r, l1⟩ => q z1 H1 x g1 v (sm.mono e sg) e r l1⟩
theorem le_bind' {f : Env → G → R D} {α β : Type} {Rel : Ad → Hp → β → α → Prop} {k : D → G → R α} {K : PySem.W.Frag} {mg : Str → Option Value} {σ : L2.St} {z : Ad} {H : Hp} {ρ : Env} {g : G} {Q : β → Hp → Prop} {Qa : VK} (sm : Sim K z H σ ρ g) (l : Lf K mg X0 Rel z H ((f ρ g).bind k) Q)
    (q : ∀ z1 H1 x g1 v, Sim K z1 H1 σ ρ g1 → Ext z H z1 H1 → RpD K z1 H1 v x → Lf K mg X0 Rel z1 H1 (k x g1) Q → Qa v H1) : LE K mg X0 f σ H Qa :=
  ⟨z, ρ, g, sm, (Lf.bind l).mono fun v H1 ⟨z1, x, g1, e, sg, r, l1⟩ => q z1 H1 x g1 v (sm.mono e sg) e r l1⟩
theorem ja_nil : JA X X0 [] (fun _ g => .ok [] g) := fun pos pins s σ H Q I ⟨z, ρ, g, sm, l⟩ => pa_nil pos pins s σ H Q I (l.ok sm.sg .nil)
theorem ja_cons (ha : JE X X0 e fa) (hr : JA X X0 es fs) (hs : starEach (e :: es) X.env = (false, eval e X.env) :: starEach es X.env) : JA X X0 (e :: es) (fun ρ g => (fa ρ g).bind fun x g => (fs ρ g).bind fun xs g => .ok (x :: xs) g) := by
  rintro pos pins s σ H Q I ⟨z, ρ, g, sm, l⟩
  refine pa_cons ha hr hs pos pins s σ H Q I ?_
  refine le_bind' sm l fun z1 H1 x g1 v sm1 e1 r1 l1 => ?_
  refine la_bind sm1 l1 fun z2 H2 xs g2 vs sm2 e2 r2 l2 => ?_
  exact l2.ok sm2.sg (.cons (r1.mono e2) r2)
theorem je_tup {k : Nat} (h : JA X X0 es fs) : JE X X0 (.Tuple es k pos) (fun ρ g => (fs ρ g).bind fun xs g => finT xs g) :=
  .of (pe_tup h) fun z ρ g σ H Q sm l => la_bind sm l fun z1 H1 x g1 v sm1 e1 r1 l1 => finT_ok sm1.sg r1 l1
theorem je_lst {mu : Bool} (h : JA X X0 es fs) : JE X X0 (.List es pos) (fun ρ g => (fs ρ g).bind fun xs g => fin mu xs g) :=
  .of (pe_lst h) fun z ρ g σ H Q sm l => la_bind sm l fun z1 H1 x g1 v sm1 e1 r1 l1 => fin_ok sm1.sg r1 l1
theorem je_ix (ha : JE X X0 a fa) (hb : JE X X0 b fb) (hs : PlainIx b) : JE X X0 (.Subscript a b pos) (fun ρ g => (fa ρ g).bind fun x g => (fb ρ g).bind fun y g => opIx x y g) := by
  refine je_op (pe_ix (ix_list.or ix_tup) ha hb hs) ?_
  intro z H g x y v u Q s rx ry h
  unfold opIx at h
  split at h
  · next ds i =>
    split at h
    · next d e =>
      obtain ⟨p, xs, rfl, tx, qx⟩ := rp_tup rx
      rw [rp_int ry]
      unfold atI at e
      obtain ⟨j, e1, e2⟩ := Option.bind_eq_some_iff.mp e
      obtain ⟨w, h1, h2⟩ := qx.get e2
      refine .inr ⟨p, xs, i, w, rfl, rfl, tx.sq, ?_, h.ok s h2⟩
      unfold atI
      rw [qx.len, e1]; exact h1
    · exact h.elim
  · split at h
    · next d e =>
      obtain ⟨ds, e0, e⟩ := Option.bind_eq_some_iff.mp e
      obtain ⟨p, xs, rfl, tx, qx⟩ := rp_list e0 s rx
      rw [rp_int ry]
      unfold atI at e
      obtain ⟨j, e1, e2⟩ := Option.bind_eq_some_iff.mp e
      have hlen := rpds_len qx
      obtain ⟨w, h1, h2⟩ := RpDs.get qx e2
      refine .inl ⟨p, xs, _, w, rfl, rfl, tx, ?_, h.ok s h2⟩
      unfold atI
      rw [hlen, e1]; exact h1
    · exact h.elim
  · exact h.elim
/-! ## built-ins -/
theorem bools_of {K : PySem.W.Frag} {z : Ad} {H : Hp} : ∀ {ds : List D} {bs : List Bool} {xs : List V}, boolsD ds = some bs → RpDs K z H xs ds → xs = bs.map V.bl
  | [], _, _, e, h => by cases h; cases e; rfl
  | d :: r, _, _, e, h => by
    cases h with
    | cons a b =>
      unfold boolsD at e
      split at e
      · next q => cases q
      · next c t q =>
        cases q
        obtain ⟨bs, e1, e2⟩ := Option.map_eq_some_iff.mp e
        subst e2
        rw [rp_bool a, bools_of e1 b]; rfl
      · cases e
theorem ints_of {K : PySem.W.Frag} {z : Ad} {H : Hp} : ∀ {ds : List D} {bs : List Int} {xs : List V}, intsD ds = some bs → RpDs K z H xs ds → xs = bs.map V.int
  | [], _, _, e, h => by cases h; cases e; rfl
  | d :: r, _, _, e, h => by
    cases h with
    | cons a b =>
      unfold intsD at e
      split at e
      · next q => cases q
      · next c t q =>
        cases q
        obtain ⟨bs, e1, e2⟩ := Option.map_eq_some_iff.mp e
        subst e2
        rw [rp_int a, ints_of e1 b]; rfl
      · cases e
theorem one_of {K : PySem.W.Frag} {z : Ad} {H : Hp} {x : D} {vs : List V} (h : RpDs K z H vs [x]) : ∃ v, vs = [v] ∧ RpD K z H v x := by
  cases h with
  | cons a b => cases b; exact ⟨_, rfl, a⟩
theorem two_of {K : PySem.W.Frag} {z : Ad} {H : Hp} {x y : D} {vs : List V} (h : RpDs K z H vs [x, y]) : ∃ v u, vs = [v, u] ∧ RpD K z H v x ∧ RpD K z H u y := by
  cases h with
  | cons a b =>
    cases b with
    | cons c d => cases d; exact ⟨_, _, rfl, a, c⟩
def BF.nm : BF → Str
  | .len => "len" | .repr => "repr" | .all => "all" | .any => "any" | .tuple => "tuple" | .list => "list" | .max => "max" | .min => "min" | .sum => "sum"
def BF.val : BF → Value
  | .len => .builtin "len" | .repr => .builtin "repr" | .all => .builtin "all" | .any => .builtin "any" | .tuple => .type "tuple" | .list => .type "list" | .max => .builtin "max" | .min => .builtin "min" | .sum => .builtin "sum"
theorem BF.boot (f : BF) : bootBuiltins f.nm = some f.val := by cases f <;> decide +kernel
theorem bf_ok {k : Nat} (hr : Room k X.A) (hc : X.calm = true) (f : BF) (mu : Bool) : ∃ r, CallR X f.val r ∧ CallS X.K X.mg X0 r (opBf f mu) := by
  have hl := lim_le
  cases f with
  | len =>
    refine ⟨_, CallR.or call_len_seq call_len_str, fun z H g xs vs Q s r h => ?_⟩
    rcases xs with _ | ⟨x, _ | ⟨y, t⟩⟩
    · exact False.elim h
    · obtain ⟨v, rfl, rv⟩ := one_of r
      have h : Lf X.K X.mg X0 (RpD X.K) z H (bfLen x g) Q := h
      unfold bfLen at h
      split at h
      · obtain ⟨p, ys, rfl, tx, qx⟩ := rp_tup rv
        exact .inl ⟨p, ys, rfl, .inr tx.sq, by rw [qx.len]; exact h.ok s (.int _)⟩
      · split at h
        · next hx =>
          rw [rp_str rv]
          exact .inr ⟨_, rfl, Nat.le_trans hx hl, h.ok s (.int _)⟩
        · exact h.elim
      · split at h
        · next ds e =>
          obtain ⟨p, ys, rfl, tx, qx⟩ := rp_list e s rv
          exact .inl ⟨p, ys, rfl, .inl tx, by rw [rpds_len qx]; exact h.ok s (.int _)⟩
        · exact h.elim
    · exact False.elim h
  | repr =>
    refine ⟨_, cr_repr hr, fun z H g xs vs Q s r h => ?_⟩
    rcases xs with _ | ⟨x, _ | ⟨y, t⟩⟩
    · exact False.elim h
    · obtain ⟨v, rfl, rv⟩ := one_of r
      have h : Lf X.K X.mg X0 (RpD X.K) z H (bfRepr x g) Q := h
      unfold bfRepr at h
      split at h
      · next d e =>
        split at h
        · next hx => exact ⟨v, d, rfl, RR.of s rv e, hx.1, Nat.le_trans hx.2.1 hl, hx.2.2, h.ok s (.str _)⟩
        · exact h.elim
      · exact h.elim
    · exact False.elim h
  | all =>
    refine ⟨_, cr_all hc, fun z H g xs vs Q s r h => ?_⟩
    rcases xs with _ | ⟨x, _ | ⟨y, t⟩⟩
    · exact False.elim h
    · obtain ⟨v, rfl, rv⟩ := one_of r
      have h : Lf X.K X.mg X0 (RpD X.K) z H (bfAll true x g) Q := h
      unfold bfAll at h
      split at h
      · next bs e =>
        obtain ⟨ds, e1, e2⟩ := Option.bind_eq_some_iff.mp e
        obtain ⟨p, ys, rfl, tx, qx⟩ := rp_list e1 s rv
        exact ⟨p, bs, rfl, by rw [← bools_of e2 qx]; exact tx, h.ok s (.bl _)⟩
      · exact h.elim
    · exact False.elim h
  | any =>
    refine ⟨_, cr_any hc, fun z H g xs vs Q s r h => ?_⟩
    rcases xs with _ | ⟨x, _ | ⟨y, t⟩⟩
    · exact False.elim h
    · obtain ⟨v, rfl, rv⟩ := one_of r
      have h : Lf X.K X.mg X0 (RpD X.K) z H (bfAll false x g) Q := h
      unfold bfAll at h
      split at h
      · next bs e =>
        obtain ⟨ds, e1, e2⟩ := Option.bind_eq_some_iff.mp e
        obtain ⟨p, ys, rfl, tx, qx⟩ := rp_list e1 s rv
        exact ⟨p, bs, rfl, by rw [← bools_of e2 qx]; exact tx, h.ok s (.bl _)⟩
      · exact h.elim
    · exact False.elim h
  | tuple =>
    refine ⟨_, call_tuple_of, fun z H g xs vs Q s r h => ?_⟩
    rcases xs with _ | ⟨x, _ | ⟨y, t⟩⟩
    · exact False.elim h
    · obtain ⟨v, rfl, rv⟩ := one_of r
      have h : Lf X.K X.mg X0 (RpD X.K) z H (bfTuple x g) Q := h
      unfold bfTuple at h
      split at h
      · obtain ⟨p, ys, rfl, tx, qx⟩ := rp_tup rv
        exact ⟨p, ys, rfl, .inr ⟨tx.sq, h.ok s (.tup tx qx)⟩⟩
      · split at h
        · next ds e =>
          obtain ⟨p, ys, rfl, tx, qx⟩ := rp_list e s rv
          exact ⟨p, ys, rfl, .inl ⟨tx, (finT_ok s qx h).2⟩⟩
        · exact h.elim
    · exact False.elim h
  | list =>
    refine ⟨_, call_list_of, fun z H g xs vs Q s r h => ?_⟩
    rcases xs with _ | ⟨x, _ | ⟨y, t⟩⟩
    · exact False.elim h
    · obtain ⟨v, rfl, rv⟩ := one_of r
      have h : Lf X.K X.mg X0 (RpD X.K) z H (bfList mu x g) Q := h
      unfold bfList at h
      split at h
      · obtain ⟨p, ys, rfl, tx, qx⟩ := rp_tup rv
        exact ⟨p, ys, rfl, .inr tx.sq, (fin_ok s (rpds_of qx) h).2⟩
      · split at h
        · next ds e =>
          obtain ⟨p, ys, rfl, tx, qx⟩ := rp_list e s rv
          exact ⟨p, ys, rfl, .inl tx, (fin_ok s qx h).2⟩
        · exact h.elim
    · exact False.elim h
  | max =>
    refine ⟨_, call_max2 hc, fun z H g xs vs Q s r h => ?_⟩
    rcases xs with _ | ⟨x, _ | ⟨y, _ | ⟨w, t⟩⟩⟩
    · exact False.elim h
    · exact False.elim h
    · obtain ⟨v, u, rfl, rv, ru⟩ := two_of r
      have h : Lf X.K X.mg X0 (RpD X.K) z H (bfMM true x y g) Q := h
      unfold bfMM at h
      split at h
      · rw [rp_int rv, rp_int ru]
        exact ⟨_, _, rfl, h.ok s (.int _)⟩
      · exact h.elim
    · exact False.elim h
  | min =>
    refine ⟨_, call_min2 hc, fun z H g xs vs Q s r h => ?_⟩
    rcases xs with _ | ⟨x, _ | ⟨y, _ | ⟨w, t⟩⟩⟩
    · exact False.elim h
    · exact False.elim h
    · obtain ⟨v, u, rfl, rv, ru⟩ := two_of r
      have h : Lf X.K X.mg X0 (RpD X.K) z H (bfMM false x y g) Q := h
      unfold bfMM at h
      split at h
      · rw [rp_int rv, rp_int ru]
        exact ⟨_, _, rfl, h.ok s (.int _)⟩
      · exact h.elim
    · exact False.elim h
  | sum =>
    refine ⟨_, cr_sum hc, fun z H g xs vs Q s r h => ?_⟩
    rcases xs with _ | ⟨x, _ | ⟨y, t⟩⟩
    · exact False.elim h
    · obtain ⟨v, rfl, rv⟩ := one_of r
      have h : Lf X.K X.mg X0 (RpD X.K) z H (bfSum x g) Q := h
      unfold bfSum at h
      split at h
      · next bs e =>
        obtain ⟨ds, e1, e2⟩ := Option.bind_eq_some_iff.mp e
        obtain ⟨p, ys, rfl, tx, qx⟩ := rp_list e1 s rv
        exact ⟨p, bs, rfl, by rw [← ints_of e2 qx]; exact tx, h.ok s (.int _)⟩
      · exact h.elim
    · exact False.elim h
end
end En

set_option Elab.async false
set_option linter.all false
set_option maxRecDepth 100000
namespace En
open PySem PySem.Spec PyProof.Rows L2
def nostar : Expr → Bool
  | .Starred _ _ => false
  | _ => true
theorem star_cons {e : Expr} {es : List Expr} {env : PySem.Env} (h : nostar e = true) : starEach (e :: es) env = (false, eval e env) :: starEach es env := by
  cases e <;> first | rfl | cases h
theorem star_any {pos : Pos} {env : PySem.Env} : ∀ {es : List Expr}, es.all nostar = true → (backTo pos (starEach es env)).any (·.1) = false
  | [], _ => rfl
  | e :: es, h => by
    rw [List.all_cons, Bool.and_eq_true] at h
    rw [star_cons h.1]
    exact star_any h.2
section
variable {X : Cx} {X0 : XK} {e a b c : Expr} {es : List Expr} {fa fb fc : Env → G → R D} {fs : Env → G → R (List D)} {pos p : Pos}
/-! ## calls -/
theorem je_bf {k : Nat} {f : BF} {mu : Bool} (hr : Room k X.A) (hc : X.calm = true) (hg : Gl X f.nm) (hm : X.mg f.nm = none) (h : JA X X0 (e :: es) fs) (hs : (e :: es).all nostar = true) : JE X X0 (.Call (.Name f.nm p) (e :: es) [] pos) (fun ρ g => (fs ρ g).bind fun xs g => opBf f mu xs g) := by
  obtain ⟨r, h1, h2⟩ := bf_ok (X := X) (X0 := X0) hr hc f mu
  rw [List.all_cons, Bool.and_eq_true] at hs
  have key : PE X (.Call (.Name f.nm p) (e :: es) [] pos) (tCB r (LA X.K X.mg X0 fs)) := by
    have hb := f.boot
    cases f <;> first
      | exact pe_callB h1 hg hm hb h (by decide) (by decide) (star_cons hs.1) (star_any hs.2)
      | exact pe_callTy h1 hg hm hb h (by decide) (by decide) (star_cons hs.1) (star_any hs.2)
  refine .of key fun z ρ g σ H Q sm l => ?_
  refine la_bind sm l fun z1 H1 x g1 v sm1 e1 r1 l1 => ?_
  exact h2 z1 H1 g1 x v Q sm1.sg r1 l1
theorem je_isi {t : TY} {p2 : Pos} (hg : Gl X "isinstance") (hm : X.mg "isinstance" = none) (hg2 : Gl X (Str.ofString t.nm)) (hm2 : X.mg (Str.ofString t.nm) = none) (ha : JE X X0 a fa) (hs : nostar a = true) :
    JE X X0 (.Call (.Name "isinstance" p) [a, .Name (Str.ofString t.nm) p2] [] pos) (fun ρ g => (fa ρ g).bind fun x g => isiD x t g) := by
  have hv : bootBuiltins (Str.ofString t.nm) = some (.type t.nm) := by cases t <;> decide +kernel
  have ht : PE X (.Name (Str.ofString t.nm) p2) (tC (.ty t.nm)) := pe_bltn hg2 hm2 hv rfl (by cases t <;> decide) (by cases t <;> decide)
  have key := pe_callB (X := X) (x := "isinstance") (p := p) (pos := pos) cr_isi hg hm (by decide +kernel) (pa_cons ha (pa_cons ht pa_nil rfl) (star_cons hs)) (by decide) (by decide) (star_cons hs) rfl
  refine .of key fun z ρ g σ H Q sm l => ?_
  refine le_bind sm l fun z1 H1 x g1 v sm1 e1 r1 l1 => ?_
  exact isi_ok sm1.sg r1 l1
/-- what an own def promises -/
def spF (K : PySem.W.Frag) (mg : Str → Option Value) (n : Nat) (f : List D → G → R D) : Sp := fun vs H Q _ => vs.length = n ∧ ∃ z ds g, RpDs K z H vs ds ∧ SG K z H g ∧ Lf K mg E0 (RpD K) z H (f ds g) Q
/-- an own def, as a caller sees it -/
structure FnAt (X : Cx) (CX : CXT) (k : Nat) (x : Str) (ps : List Str) (f : List D → G → R D) : Prop where
  fn : ∃ (a : Addr) (fd : FuncData), X.mg x = some (.ref a) ∧ PySem.W.keepIn X.K (.ref a) = true ∧ Binds X.K fd ps [] ∧ FnOk X.prog X.w X.K X.mg X.base CX k a fd ps (spF X.K X.mg ps.length f)
theorem sp_of {K : PySem.W.Frag} {mg : Str → Option Value} {z : Ad} {H : Hp} {g : G} {n : Nat} {xs : List D} {vs : List V} {f : List D → G → R D} {Q : VK} (hn : ∀ xs g, xs.length ≠ n → f xs g = .stuck) (sg : SG K z H g) (r : RpDs K z H vs xs) (l : Lf K mg E0 (RpD K) z H (f xs g) Q) : spF K mg n f vs H Q X0 := by
  refine ⟨?_, z, xs, g, r, sg, l⟩
  rw [rpds_len r]
  by_cases h : xs.length = n
  · exact h
  · rw [hn xs g h] at l; exact l.elim
theorem je_call {CX : CXT} {k : Nat} (x0 : X0 = E0) {x : Str} {ps : List Str} {f : List D → G → R D} (F : FnAt X CX k x ps f) (hr : Room k X.A) (hg : Gl X x) (hx : Passes CX X X0) (hd : (x == ("__debug__" : Str)) = false) (h : JA X X0 (e :: es) fs) (hs : (e :: es).all nostar = true)
    (hn : ∀ xs g, xs.length ≠ ps.length → f xs g = .stuck) : JE X X0 (.Call (.Name x p) (e :: es) [] pos) (fun ρ g => (fs ρ g).bind fun xs g => f xs g) := by
  subst x0
  obtain ⟨ad, fd, h1, h2, h3, h4⟩ := F.fn
  rw [List.all_cons, Bool.and_eq_true] at hs
  refine .of (pe_call h4 hr hg h1 h2 h3 .nil hx h hd (star_cons hs.1) (star_any hs.2)) fun z ρ g σ H Q sm l => ?_
  refine la_bind sm l fun z1 H1 x g1 v sm1 e1 r1 l1 => ?_
  show spF _ _ _ _ (v ++ []) H1 Q E0
  rw [List.append_nil]
  exact sp_of (X0 := E0) hn sm1.sg r1 l1
theorem je_call0 {CX : CXT} {k : Nat} (x0 : X0 = E0) {x : Str} {ps : List Str} {f : List D → G → R D} (F : FnAt X CX k x ps f) (hr : Room k X.A) (hg : Gl X x) (hx : Passes CX X X0) (hd : (x == ("__debug__" : Str)) = false)
    (hn : ∀ xs g, xs.length ≠ ps.length → f xs g = .stuck) : JE X X0 (.Call (.Name x p) [] [] pos) (fun ρ g => f [] g) := by
  subst x0
  obtain ⟨ad, fd, h1, h2, h3, h4⟩ := F.fn
  refine .of (pe_call0 h4 hr hg h1 h2 h3 .nil hx hd) fun z ρ g σ H Q sm l => ?_
  exact sp_of (X0 := E0) hn sm.sg .nil l
/-! ## slices -/
def JO (X : Cx) (X0 : XK) (e : Option Expr) (f : Env → G → R (Option D)) : Prop := PO X e fun σ H Q => ∃ z ρ g, Sim X.K z H σ ρ g ∧ Lf X.K X.mg X0 (fun _ _ (b : Option Int) c => b = c) z H ((f ρ g).bind fun o g => part o g) Q
theorem jo_none : JO X X0 none (fun _ g => .ok none g) := fun pins s σ H Q I ⟨z, ρ, g, sm, l⟩ => po_none pins s σ H Q I (l.ok sm.sg rfl)
theorem jo_some (h : JE X X0 e fa) : JO X X0 (some e) (fun ρ g => (fa ρ g).bind fun x g => .ok (some x) g) := by
  rintro pins s σ H Q I ⟨z, ρ, g, sm, l⟩
  refine po_some h pins s σ H Q I ?_
  have l : Lf X.K X.mg X0 (fun _ _ (b : Option Int) c => b = c) z H (((fa ρ g).bind fun x g => .ok (some x) g).bind fun o g => part o g) Q := l
  have l' : Lf X.K X.mg X0 (fun _ _ (b : Option Int) c => b = c) z H ((fa ρ g).bind fun x g => part (some x) g) Q := by
    cases hf : fa ρ g with
    | ok d g' => rw [hf] at l; exact l
    | exc x g' => rw [hf] at l; exact l
    | stuck => rw [hf] at l; exact l
  refine le_bind' sm l' fun z1 H1 x g1 v sm1 e1 r1 l1 => ?_
  unfold part at l1
  split at l1
  · next q => cases q
  · next q => cases q; exact ⟨_, rp_int r1, l1.ok sm1.sg rfl⟩
  · exact l1.elim
variable {flo fhi : Env → G → R (Option D)} {lo hi : Option Expr}
theorem je_sl {p2 : Pos} (ha : JE X X0 a fa) (hl : JO X X0 lo flo) (hh : JO X X0 hi fhi) : JE X X0 (.Subscript a (.Slice lo hi none p2) pos) (fun ρ g => (fa ρ g).bind fun x g => (flo ρ g).bind fun l g => (part l g).bind fun l g => (fhi ρ g).bind fun h g => (part h g).bind fun h g => opSl x l h g) := by
  refine .of (pe_slice sl_D ha hl hh) fun z ρ g σ H Q sm l => ?_
  refine le_bind sm l fun z1 H1 x g1 v sm1 e1 r1 l1 => ?_
  have l1' : Lf X.K X.mg X0 (RpD X.K) z1 H1 (((flo ρ g1).bind fun o g => part o g).bind fun l g => ((fhi ρ g).bind fun o g => part o g).bind fun h g => opSl x l h g) Q := by
    have e1 : (((flo ρ g1).bind fun o g => part o g).bind fun l g => ((fhi ρ g).bind fun o g => part o g).bind fun h g => opSl x l h g) = ((flo ρ g1).bind fun l g => (part l g).bind fun l g => (fhi ρ g).bind fun h g => (part h g).bind fun h g => opSl x l h g) := by
      cases flo ρ g1 with
      | ok o g2 =>
        simp only [R.bind_ok]
        cases part o g2 with
        | ok i g3 =>
          simp only [R.bind_ok]
          cases fhi ρ g3 <;> rfl
        | exc _ _ => rfl
        | stuck => rfl
      | exc _ _ => rfl
      | stuck => rfl
    rw [e1]; exact l1
  refine ⟨z1, ρ, g1, sm1, (Lf.bind l1').mono fun lo H2 ⟨z2, x2, g2, e2, sg2, r2, l2⟩ => ?_⟩
  subst r2
  refine ⟨z2, ρ, g2, sm1.mono e2 sg2, (Lf.bind l2).mono fun hi H3 ⟨z3, x3, g3, e3, sg3, r3, l3⟩ => ?_⟩
  subst r3
  exact sl_ok sg3 ((r1.mono e2).mono e3) l3
theorem je_rev {j : Nat} {p1 p2 p3 : Pos} (ha : JE X X0 a fa) : JE X X0 (.Subscript a (.Slice none none (some (.UnaryOp .USub (.Constant (.int 1) j p1) p2)) p3) pos) (fun ρ g => (fa ρ g).bind fun x g => opRev x g) := by
  refine .of (pe_rev ha) fun z ρ g σ H Q sm l => ?_
  refine le_bind sm l fun z1 H1 x g1 v sm1 e1 r1 l1 => ?_
  unfold opRev at l1
  split at l1
  · obtain ⟨q, xs, rfl, tx, qx⟩ := rp_tup r1
    exact ⟨q, xs, rfl, tx.sq, tup_ok sm1.sg qx.rev l1⟩
  · exact l1.elim
/-! ## written dicts, none or one pair -/
theorem je_dct0 : JE X X0 (.Dict [] [] pos) (fun _ g => .ok (.p (.dict [])) g) := by
  refine .of pe_dnewK fun z ρ g σ H Q sm l => ?_
  intro d hd
  exact l _ _ (.ref d) (Ext.new sm.sg hd) (sm.sg.new hd) (.dct (sm.sg.fresh hd) upd_same .nil)
theorem je_dct1 {k v : Expr} {key : Key} {d : PyData} {vv : V} (hk : PE X k (tC (kV key))) (hv : PE X v (tC vv)) (hd : flatP d = true) (r : ∀ z H, Rp X.K z H vv d) : JE X X0 (.Dict [some k] [v] pos) (fun _ g => .ok (.p (.dict [(kd key, d)])) g) := by
  refine .of (pe_disp (pps_cons hk hv pps_nil) rfl rfl (fun z => by cases z) (by show 1 ≤ 15; decide)) fun z ρ g σ H Q sm l => ?_
  intro p hp
  refine ⟨upd_same, [(key, vv)], rfl, (by show 1 ≤ 15; decide), ?_⟩
  rw [upd_upd]
  exact l _ _ (.ref p) (Ext.new sm.sg hp) (sm.sg.new hp) (.dct (sm.sg.fresh hp) upd_same (.cons hd (r _ _) .nil))
end
end En

set_option Elab.async false
set_option linter.all false
set_option maxRecDepth 100000
namespace En
open PySem PySem.Spec PyProof.Rows L2
/-! ## what is walked -/
def JOk (K : PySem.W.Frag) (z : Ad) (H : Hp) (J : L2.It) (s : Src) : Prop :=
  ∀ (z1 : Ad) (H1 : Hp) (g1 : G) (i : Nat), Wk z H z1 H1 → SG K z1 H1 g1 → match s.get i g1 with
    | none => True
    | some none => J.stop i H1
    | some (some d) => J.go i H1 ∧ ∀ x H2, J.yld i H1 x H2 → Ext z1 H1 z1 H2 ∧ SG K z1 H2 g1 ∧ RpD K z1 H2 x d
def LI (K : PySem.W.Frag) (mg : Str → Option Value) (X0 : XK) (f : Env → G → R Src) : TI := fun σ H Q => ∃ z ρ g, Sim K z H σ ρ g ∧ Lf K mg X0 (JOk K) z H (f ρ g) Q
def JI (X : Cx) (X0 : XK) (tg iter : Expr) (f : Env → G → R Src) : Prop := PI X tg iter (LI X.K X.mg X0 f)
section
variable {X : Cx} {X0 : XK} {e a b tg : Expr} {fa fb : Env → G → R D} {pos p : Pos}
theorem JI.of {t : TI} {f : Env → G → R Src} (h : PI X tg e t) (i : ∀ z ρ g σ H Q, Sim X.K z H σ ρ g → Lf X.K X.mg X0 (JOk X.K) z H (f ρ g) Q → t σ H Q) : JI X X0 tg e f :=
  fun pins s σ H Q I ⟨z, ρ, g, sm, l⟩ => h pins s σ H Q I (i z ρ g σ H Q sm l)
theorem jok_list {K : PySem.W.Frag} {z : Ad} {H : Hp} {ad : Addr} {xs : List V} {ds : List PyData} (l : LIn K z H ad xs) (q : Rps K z H xs ds) : JOk K z H (Itl K ad) (.vals (ds.map .p)) := by
  intro z1 H1 g1 i w sg
  have l1 := (l.mono w).sq
  have q1 := Rps.mono w _ _ q
  show match some (ds.map D.p)[i]? with | none => True | some none => _ | some (some d) => _
  rw [List.getElem?_map]
  cases h : ds[i]? with
  | none =>
    refine ⟨xs, l1, ?_⟩
    rw [q1.len]; exact List.getElem?_eq_none_iff.mp h
  | some d =>
    obtain ⟨v, h1, h2⟩ := q1.get h
    refine ⟨⟨xs, v, l1, h1⟩, fun x H2 y => ?_⟩
    obtain ⟨rfl, y⟩ := y
    have := y xs l1
    rw [h1] at this; cases this
    exact ⟨Ext.refl, sg, h2⟩
theorem jok_tup {K : PySem.W.Frag} {z : Ad} {H : Hp} {ad : Addr} {xs : List V} {ds : List PyData} (l : TIn K z H ad xs) (q : Rps K z H xs ds) : JOk K z H (Itt K ad) (.vals (ds.map .p)) := by
  intro z1 H1 g1 i w sg
  have l1 := (l.mono w).sq
  have q1 := Rps.mono w _ _ q
  show match some (ds.map D.p)[i]? with | none => True | some none => _ | some (some d) => _
  rw [List.getElem?_map]
  cases h : ds[i]? with
  | none =>
    refine ⟨xs, l1, ?_⟩
    rw [q1.len]; exact List.getElem?_eq_none_iff.mp h
  | some d =>
    obtain ⟨v, h1, h2⟩ := q1.get h
    refine ⟨⟨xs, v, l1, h1⟩, fun x H2 y => ?_⟩
    obtain ⟨rfl, y⟩ := y
    have := y xs l1
    rw [h1] at this; cases this
    exact ⟨Ext.refl, sg, h2⟩
theorem jok_live {K : PySem.W.Frag} {z : Ad} {H : Hp} {ad : Addr} {n k : Nat} (h : z.m[n]? = some ad) : JOk K z H (Itl K ad) (.live n k) := by
  intro z1 H1 g1 i w sg
  have h1 := w.get n ad h
  show match (match g1[n]? with | some (.lst ds) => some ds[i]? | _ => none) with | none => True | some none => _ | some (some d) => _
  cases hg : g1[n]? with
  | none => trivial
  | some o =>
    cases o with
    | ins c fs => trivial
    | lst ds =>
      obtain ⟨xs, e1, e2⟩ := sg.obj n ad _ h1 hg
      show match some ds[i]? with | none => True | some none => _ | some (some d) => _
      cases hd : ds[i]? with
      | none =>
        refine ⟨xs, SqL.of e1, ?_⟩
        rw [rpds_len e2]; exact List.getElem?_eq_none_iff.mp hd
      | some d =>
        obtain ⟨v, q1, q2⟩ := RpDs.get e2 hd
        refine ⟨⟨xs, v, SqL.of e1, q1⟩, fun x H2 y => ?_⟩
        obtain ⟨rfl, y⟩ := y
        have := y xs (SqL.of e1)
        rw [q1] at this; cases this
        exact ⟨Ext.refl, sg, q2⟩
theorem rngL_get (lo : Int) : ∀ (n i : Nat), (rngL lo n)[i]? = if i < n then some (.p (.int (lo + i))) else none
  | 0, i => by simp [rngL]
  | n + 1, 0 => by simp [rngL]
  | n + 1, i + 1 => by
    show (rngL (lo + 1) n)[i]? = _
    rw [rngL_get (lo + 1) n i]
    by_cases h : i < n
    · rw [if_pos h, if_pos (by omega)]
      congr 3
      omega
    · rw [if_neg h, if_neg (by omega)]
theorem jok_rng {K : PySem.W.Frag} {z : Ad} {H : Hp} {lo : Int} {n : Nat} : JOk K z H (Itr lo n) (.vals (rngL lo n)) := by
  intro z1 H1 g1 i w sg
  show match some (rngL lo n)[i]? with | none => True | some none => _ | some (some d) => _
  rw [rngL_get]
  by_cases h : i < n
  · rw [if_pos h]
    refine ⟨h, fun x H2 y => ?_⟩
    obtain ⟨rfl, rfl⟩ := y
    exact ⟨Ext.refl, sg, .int _⟩
  · rw [if_neg h]
    exact Nat.le_of_not_lt h
/-- over a list or a tuple (which of them it is, the data says) -/
theorem pi_seq {l : Expr} {tl : TE} (hl : PE X l tl) : PI X tg l (fun σ H R => tl σ H fun x H1 => ∃ a, x = .ref a ∧ (((∃ xs, SqL X.K H1 a xs) ∧ R (Itl X.K a) H1) ∨ ((∃ xs, SqT X.K H1 a xs) ∧ R (Itt X.K a) H1))) := by
  intro pins s σ H R I h
  refine thn (hl pins s σ H _ I h) fun v s1 ⟨x, H1, I1, r1, q1⟩ => ?_
  obtain ⟨a, e, q⟩ := q1
  subst e
  cases r1
  have fp : ∀ b ∈ [s1.heap.objs.size], FpOk X pins H1 b := fun b hb => by
    have e : b = s1.heap.objs.size := by simpa using hb
    subst e
    exact I1.fpOk (Nat.le_refl _) (I1.hok.fresh (Nat.le_refl _))
  rcases q with ⟨⟨xs, hq⟩, q⟩ | ⟨⟨xs, hq⟩, q⟩
  · obtain ⟨its, rv, p, hz⟩ := I1.list hq
    exact wpAny_pyIter_list p.isList ⟨s1.heap.objs.size, [s1.heap.objs.size], _, _, H1, rfl, I1.kept (t' := s1.toks) fun b o e => Heap.get?_push_of_some _ e, turn_list a _, ⟨_, Heap.get?_push_size _ rfl, rfl, rfl⟩, fp, q⟩
  · obtain ⟨its, rv, p, hz⟩ := I1.tuple hq
    exact wpAny_pyIter_tuple (show s1.heap.IsTuple a its.toArray from p) ⟨s1.heap.objs.size, [s1.heap.objs.size], _, _, H1, rfl, I1.kept (t' := s1.toks) fun b o e => Heap.get?_push_of_some _ e, turn_tuple a _, ⟨_, Heap.get?_push_size _ rfl, rfl, rfl⟩, fp, q⟩
theorem ji_seq (ha : JE X X0 a fa) : JI X X0 tg a (fun ρ g => (fa ρ g).bind fun x g => srcSeq x g) := by
  refine .of (pi_seq ha) fun z ρ g σ H Q sm l => ?_
  refine le_bind' sm l fun z1 H1 x g1 v sm1 e1 r1 l1 => ?_
  unfold srcSeq at l1
  split at l1
  · obtain ⟨q, xs, rfl, tx, qx⟩ := rp_tup r1
    exact ⟨q, rfl, .inr ⟨⟨xs, tx.sq⟩, l1.ok sm1.sg (jok_tup tx qx)⟩⟩
  · obtain ⟨q, xs, rfl, ho, tx, qx⟩ := rp_lst r1
    exact ⟨q, rfl, .inl ⟨⟨xs, SqL.of tx⟩, l1.ok sm1.sg (jok_list (.inl ⟨ho, .inl tx⟩) qx)⟩⟩
  · obtain ⟨q, xs, rfl, tx, qx⟩ := r1
    exact ⟨q, rfl, .inl ⟨⟨xs, tx.sq⟩, l1.ok sm1.sg (jok_list tx qx)⟩⟩
  · next n =>
    split at l1
    · next ds e =>
      obtain ⟨q, rfl, ea⟩ := r1
      obtain ⟨xs, h1, _⟩ := sm1.sg.obj n q _ ea e
      exact ⟨q, rfl, .inl ⟨⟨xs, SqL.of h1⟩, l1.ok sm1.sg (jok_live ea)⟩⟩
    · exact l1.elim
  · exact l1.elim
theorem ji_rng (hg : Gl X "range") (hm : X.mg "range" = none) (ha : JE X X0 a fa) (hs : nostar a = true) : JI X X0 tg (.Call (.Name "range" p) [a] [] pos) (fun ρ g => (fa ρ g).bind fun x g => srcRng (.p (.int 0)) x g) := by
  refine .of (pi_range1 hg hm (pa_cons ha pa_nil (star_cons hs)) (star_cons hs)) fun z ρ g σ H Q sm l => ?_
  refine le_bind' sm l fun z1 H1 x g1 v sm1 e1 r1 l1 => ?_
  unfold srcRng at l1
  split at l1
  · next i j q =>
    cases q
    split at l1
    · next hj =>
      rw [rp_int r1]
      refine ⟨_, rfl, hj.2.2.1, hj.2.2.2, ?_⟩
      have := l1.ok sm1.sg (jok_rng (lo := 0) (n := (j - 0).toNat))
      rw [Int.sub_zero] at this
      exact this
    · exact l1.elim
  · exact l1.elim
theorem ji_rng2 (hg : Gl X "range") (hm : X.mg "range" = none) (ha : JE X X0 a fa) (hb : JE X X0 b fb) (hs : nostar a = true) (hs2 : nostar b = true) : JI X X0 tg (.Call (.Name "range" p) [a, b] [] pos) (fun ρ g => (fa ρ g).bind fun x g => (fb ρ g).bind fun y g => srcRng x y g) := by
  refine .of (pi_range2 hg hm (pa_cons ha (pa_cons hb pa_nil (star_cons hs2)) (star_cons hs)) (by rw [star_cons hs, star_cons hs2]; rfl) (star_cons hs2)) fun z ρ g σ H Q sm l => ?_
  refine le_bind' sm l fun z1 H1 x g1 v sm1 e1 r1 l1 => ?_
  refine le_bind' sm1 l1 fun z2 H2 y g2 u sm2 e2 r2 l2 => ?_
  unfold srcRng at l2
  split at l2
  · next i j =>
    split at l2
    · next hj =>
      rw [rp_int r1, rp_int r2]
      exact ⟨_, _, rfl, hj, l2.ok sm2.sg jok_rng⟩
    · exact l2.elim
  · exact l2.elim
end
/-! ## targets -/
def setsV : List Nat → List V → L2.St → L2.St
  | i :: is, v :: vs, σ => setsV is vs (σ.set i (some v))
  | _, _, σ => σ
def LG (K : PySem.W.Frag) (tt : Bool) (tg : List Nat) : TG := fun v σ H Q => ∃ z ρ g d, Sim K z H σ ρ g ∧ RpD K z H v d ∧ match asgT tt tg d ρ with
  | some ρ' => ∀ vs, Sim K z H (setsV tg vs σ) ρ' g → Q (setsV tg vs σ) H
  | none => False
theorem wipe_get (σ : L2.St) : ∀ (l : List Nat) (j : Nat), (wipe σ l)[j]? = if j ∈ l ∧ j < σ.length then some none else σ[j]?
  | [], j => by simp [wipe]
  | v :: l, j => by
    unfold wipe
    by_cases h : v = j
    · subst h
      by_cases hl : v < σ.length
      · rw [List.getElem?_set_self (by rw [wipe_length]; exact hl), if_pos ⟨List.mem_cons_self, hl⟩]
      · rw [if_neg (fun q => hl q.2), List.getElem?_eq_none (by rw [List.length_set, wipe_length]; omega), List.getElem?_eq_none (by omega)]
    · rw [List.getElem?_set_ne h, wipe_get σ l j]
      by_cases hj : j ∈ l ∧ j < σ.length
      · rw [if_pos hj, if_pos ⟨List.mem_cons_of_mem _ hj.1, hj.2⟩]
      · rw [if_neg hj, if_neg fun q => hj ⟨(List.mem_cons.mp q.1).resolve_left fun z => h z.symm, q.2⟩]
theorem setsV_length : ∀ (tg : List Nat) (vs : List V) (σ : L2.St), (setsV tg vs σ).length = σ.length
  | [], _, _ => rfl
  | _ :: _, [], _ => rfl
  | i :: is, v :: vs, σ => by
    show (setsV is vs (σ.set i (some v))).length = _
    rw [setsV_length is vs, List.length_set]
theorem wipe_sets (l : List Nat) : ∀ (tg : List Nat) (vs : List V) (σ : L2.St), (∀ i ∈ tg, i ∈ l) → wipe (setsV tg vs σ) l = wipe σ l
  | [], _, _, _ => rfl
  | _ :: _, [], _, _ => rfl
  | i :: is, v :: vs, σ, h => by
    show wipe (setsV is vs (σ.set i (some v))) l = _
    rw [wipe_sets l is vs _ fun j hj => h j (List.mem_cons_of_mem _ hj)]
    apply List.ext_getElem?
    intro j
    rw [wipe_get, wipe_get, List.length_set]
    by_cases hj : j ∈ l ∧ j < σ.length
    · rw [if_pos hj, if_pos hj]
    · rw [if_neg hj, if_neg hj]
      by_cases e : i = j
      · subst e
        have : ¬ i < σ.length := fun q => hj ⟨h i List.mem_cons_self, q⟩
        rw [List.getElem?_eq_none (by rw [List.length_set]; omega), List.getElem?_eq_none (by omega)]
      · rw [List.getElem?_set_ne e]
/-- names, one after another -/
structure Nm (X : Cx) (i : Nat) (x : Str) : Prop where
  nd : X.N.Nodup
  ix : X.N[i]? = some x
  lc : Loc X.env.scope x
  fn : X.fn x = true ∨ X.env.scope.names.lookup x = some .local
section
variable {X : Cx} {pos : Pos}
theorem pg_one {i : Nat} {x : Str} (h : Nm X i x) : PG X (.Name x pos) (LG X.K false [i]) := by
  intro pins s σ H v u Q I r hw
  refine pg_name h.nd h.ix h.lc h.fn pins s σ H v u Q I r ?_
  obtain ⟨z, ρ, g, d, sm, rv, hq⟩ := hw
  exact hq [v] (sm.set i rv)
theorem Sim.setAll {K : PySem.W.Frag} {z : Ad} {H : Hp} {g : G} : ∀ {tg : List Nat} {vs : List V} {ds : List D} {σ : L2.St} {ρ : Env}, Sim K z H σ ρ g → RpDs K z H vs ds → Sim K z H (setsV tg vs σ) (sets tg ds ρ) g
  | [], _, _, _, _, sm, _ => by unfold setsV sets; exact sm
  | _ :: _, _, _, _, _, sm, .nil => by unfold setsV sets; exact sm
  | i :: is, _, _, _, _, sm, .cons r t => by
    unfold setsV sets
    exact Sim.setAll (sm.set i r) t
inductive NmAll (X : Cx) : List Nat → List Expr → Prop
  | nil : NmAll X [] []
  | cons {i : Nat} {x : Str} {p : Pos} {is : List Nat} {es : List Expr} : Nm X i x → NmAll X is es → NmAll X (i :: is) (.Name x p :: es)
theorem pgs_all : ∀ {is : List Nat} {es : List Expr}, NmAll X is es → PGs X es (fun vs σ H Q => vs.length = is.length ∧ Q (setsV is vs σ) H)
  | _, _, .nil => fun pins s σ H vs us Q I r ⟨hl, h⟩ => pgs_nil pins s σ H vs us Q I r ⟨List.eq_nil_of_length_eq_zero hl, by rw [List.eq_nil_of_length_eq_zero hl] at h; exact h⟩
  | _, _, .cons h t => by
    intro pins s σ H vs us Q I r ⟨hl, hq⟩
    refine pgs_cons (pg_name h.nd h.ix h.lc h.fn) (pgs_all t) rfl pins s σ H vs us Q I r ?_
    cases vs with
    | nil => cases hl
    | cons v vs => exact ⟨v, vs, rfl, Nat.succ.inj hl, hq⟩
theorem NmAll.len {is : List Nat} {es : List Expr} (h : NmAll X is es) : (assignEach es X.env).length = is.length ∧ (assignEach es X.env).findIdx? (·.1) = none := by
  induction h with
  | nil => exact ⟨rfl, rfl⟩
  | cons a b ih =>
    refine ⟨?_, ?_⟩
    · show _ + 1 = _ + 1
      rw [ih.1]
    · have := ih.2
      show List.findIdx? _ ((false, _) :: _) = none
      rw [List.findIdx?_cons]
      simp [this]
theorem pg_many {k : Nat} {is : List Nat} {es : List Expr} (hc : X.calm = true) (h : NmAll X is es) : PG X (.Tuple es k pos) (LG X.K true is) := by
  intro pins s σ H v u Q I r hw
  obtain ⟨z, ρ, g, d, sm, rv, hq⟩ := hw
  obtain ⟨h1, h2⟩ := h.len
  refine pg_tup (n := is.length) hc (pgs_all h) h1 h2 pins s σ H v u Q I r ?_
  unfold asgT at hq
  split at hq
  · next ρ' e =>
    split at e
    · next q => cases q
    · next tg ds q1 =>
      split at e
      · next hl =>
        cases e
        obtain ⟨a, xs, rfl, tx, qx⟩ := rp_tup rv
        exact ⟨a, xs, rfl, tx.sq, by rw [qx.len]; exact hl, by rw [qx.len]; exact hl, hq xs (sm.setAll (rpds_of qx))⟩
      · cases e
    · cases e
  · exact hq.elim
end
end En

set_option Elab.async false
set_option linter.all false
set_option maxRecDepth 100000
namespace En
open PySem PySem.Spec PyProof.Rows L2
/-! ## comprehensions -/
section
variable {K : PySem.W.Frag} {mg : Str → Option Value} {X0 : XK} {z z' z1 z2 : Ad} {H H' H1 H2 : Hp} {g : G} {Da : Addr}
def Ad.wb (z : Ad) (b : List Addr) : Ad := { z with b := b }
theorem Ext.strip (e : Ext z H z' H') (b : List Addr) : Ext (z.wb b) H (z'.wb b) H' := ⟨e.app, rfl, e.keep, e.live⟩
/-- Da is being built: it is in b -/
structure Bld (K : PySem.W.Frag) (z1 : Ad) (H1 : Hp) (Da : Addr) (zc : Ad) (Hc : Hp) (gc : G) : Prop where
  e : Ext z1 H1 (zc.wb z1.b) Hc
  b : zc.b = Da :: z1.b
  sg : SG K zc Hc gc
theorem Bld.wk (h : Bld K z1 H1 Da z H g) (hD : H1 Da = none) : Wk z1 H1 z H := by
  refine ⟨fun a o q hn => ⟨h.e.keep a o q hn.1, ?_, ?_⟩, fun n a q => h.e.get q⟩
  · exact h.e.notin q hn.1
  · rw [h.b]
    intro m
    rcases List.mem_cons.mp m with rfl | m
    · rw [hD] at q; cases q
    · exact hn.2 m
theorem Bld.start (s : SG K z1 H1 g) (hD : H1 Da = none) : Bld K z1 H1 Da (z1.wb (Da :: z1.b)) (upd H1 Da (.lst [])) g := by
  have w : Wk z1 H1 (z1.wb (Da :: z1.b)) (upd H1 Da (.lst [])) := ⟨fun a o q hn => ⟨by rw [upd_ne (ne_of_none q hD)]; exact q, hn.1, fun m => (List.mem_cons.mp m).elim (ne_of_none q hD) hn.2⟩, fun _ _ q => q⟩
  refine ⟨⟨⟨[], by show z1.m = z1.m ++ []; simp, fun _ h => nomatch h⟩, rfl, fun a o q _ => by rw [upd_ne (ne_of_none q hD)]; exact q, fun a _ o q => ⟨o, by rw [upd_ne (ne_of_none q hD)]; exact q⟩⟩, rfl, ⟨s.len, s.nd, fun n a go q1 q2 => ?_, fun a m => ?_, fun a m => ?_⟩⟩
  · exact GOk.mono w (fun u q => by rw [upd_ne (ne_of_none q hD)]; exact q) (s.obj n a go q1 q2)
  · rcases List.mem_cons.mp m with rfl | m
    · exact ⟨_, upd_same⟩
    · obtain ⟨o, q⟩ := s.lb a m
      exact ⟨o, by rw [upd_ne (ne_of_none q hD)]; exact q⟩
  · rcases List.mem_cons.mp m with rfl | m
    · exact (s.fresh hD).1
    · exact s.bm a m
theorem Bld.step {g' : G} (h : Bld K z1 H1 Da z H g) (e : Ext z H z' H') (sg : SG K z' H' g') : Bld K z1 H1 Da z' H' g' :=
  ⟨h.e.trans (e.strip z1.b), e.bb.trans h.b, sg⟩
theorem Bld.notm (h : Bld K z1 H1 Da z H g) : Da ∉ z.m := h.sg.bm Da (by rw [h.b]; exact List.mem_cons_self)
theorem wk_upd (h : Bld K z1 H1 Da z H g) {o : HO} : Wk z H z (upd H Da o) := by
  refine ⟨fun a u q hn => ⟨?_, hn⟩, fun _ _ q => q⟩
  have : a ≠ Da := fun e => hn.2 (by rw [h.b, e]; exact List.mem_cons_self)
  rw [upd_ne this]; exact q
theorem Bld.put (h : Bld K z1 H1 Da z H g) (hD : H1 Da = none) {o : HO} : Bld K z1 H1 Da z (upd H Da o) g := by
  refine ⟨⟨h.e.app, h.e.bb, fun a u q hn => by rw [upd_ne (ne_of_none q hD)]; exact h.e.keep a u q hn, fun a m u q => by rw [upd_ne (ne_of_none q hD)]; exact h.e.live a m u q⟩, h.b, ⟨h.sg.len, h.sg.nd, fun n a go q1 q2 => ?_, fun a m => ?_, h.sg.bm⟩⟩
  · have hne : a ≠ Da := fun e => h.notm (e ▸ List.mem_of_getElem? q1)
    exact GOk.mono (wk_upd h) (fun u q => by rw [upd_ne hne]; exact q) (h.sg.obj n a go q1 q2)
  · by_cases hd : a = Da
    · subst hd; exact ⟨o, upd_same⟩
    · obtain ⟨u, q⟩ := h.sg.lb a m
      exact ⟨u, by rw [upd_ne hd]; exact q⟩
/-- it is built -/
theorem fin_end {mu : Bool} {ds : List D} {xs : List V} {Q : VK} (h : Bld K z1 H1 Da z H g) (s1 : SG K z1 H1 g') (hD : H1 Da = none) (hx : H Da = some (.lst xs)) (r : RpDs K z H xs ds) (l : Lf K mg X0 (RpD K) z1 H1 (fin mu ds g) Q) : Q (.ref Da) H := by
  have w : Wk z H (z.wb z1.b) H := ⟨fun a o q hn => ⟨q, hn.1, fun m => hn.2 (by rw [h.b]; exact List.mem_cons_of_mem _ m)⟩, fun _ _ q => q⟩
  have sgf : SG K (z.wb z1.b) H g := ⟨h.sg.len, h.sg.nd, fun n a go q1 q2 => GOk.mono w (fun _ q => q) (h.sg.obj n a go q1 q2), fun a m => h.sg.lb a (by rw [h.b]; exact List.mem_cons_of_mem _ m), fun a m => h.sg.bm a (by rw [h.b]; exact List.mem_cons_of_mem _ m)⟩
  have hout : (z.wb z1.b).out Da := ⟨h.notm, (s1.fresh hD).2⟩
  unfold fin at l
  split at l
  · cases mu with
    | true =>
      rw [if_pos rfl] at l
      obtain ⟨ms, e1, e2⟩ := h.e.app
      refine l { z.wb z1.b with m := z.m ++ [Da] } H (.ref Da) ⟨⟨ms ++ [Da], ?_, fun a m => ?_⟩, rfl, h.e.keep, h.e.live⟩ ?_ ⟨Da, rfl, ?_⟩
      · show z.m ++ [Da] = _
        rw [show z.m = z1.m ++ ms from e1, List.append_assoc]
      · rcases List.mem_append.mp m with m | m
        · exact e2 a m
        · rw [List.mem_singleton.mp m]; exact hD
      · have w2 : Wk z H { z.wb z1.b with m := z.m ++ [Da] } H := ⟨fun a o q hn => ⟨q, fun m => ?_, fun m => hn.2 (by rw [h.b]; exact List.mem_cons_of_mem _ m)⟩, fun n a q => ?_⟩
        · refine ⟨?_, ?_, fun n a go q1 q2 => ?_, fun a m => h.sg.lb a (by rw [h.b]; exact List.mem_cons_of_mem _ m), fun a m hm => ?_⟩
          · show (z.m ++ [Da]).length = (g ++ [GO.lst ds]).length
            rw [List.length_append, List.length_append, h.sg.len]; rfl
          · exact L2.nd_snoc h.sg.nd h.notm
          · have q1 : (z.m ++ [Da])[n]? = some a := q1
            by_cases hn : n < z.m.length
            · rw [List.getElem?_append_left hn] at q1
              rw [List.getElem?_append_left (by rw [← h.sg.len]; exact hn)] at q2
              exact GOk.mono w2 (fun _ q => q) (h.sg.obj n a go q1 q2)
            · rw [List.getElem?_append_right (by omega)] at q1
              rw [List.getElem?_append_right (by rw [← h.sg.len]; omega)] at q2
              have k : n - z.m.length = 0 := by
                have := (List.getElem?_eq_some_iff.mp q1).1
                simp at this; omega
              rw [k] at q1
              rw [← h.sg.len, k] at q2
              cases q1; cases q2
              exact ⟨xs, hx, r.wk w2⟩
          · rcases List.mem_append.mp hm with q | q
            · exact h.sg.bm a (by rw [h.b]; exact List.mem_cons_of_mem _ m) q
            · rw [List.mem_singleton.mp q] at m; exact hout.2 m
        · rcases List.mem_append.mp m with m | m
          · exact hn.1 m
          · rw [List.mem_singleton.mp m] at hn
            exact hn.2 (by rw [h.b]; exact List.mem_cons_self)
        · show (z.m ++ [Da])[n]? = some a
          rw [List.getElem?_append_left (List.getElem?_eq_some_iff.mp q).1]; exact q
      · show (z.m ++ [Da])[g.length]? = some Da
        rw [← h.sg.len]; simp
    | false =>
      simp only [Bool.false_eq_true, if_false] at l
      split at l
      · next ps e =>
        exact l _ _ (.ref Da) h.e sgf (.lst hout hx (Rps.mono w _ _ (rps_of e r)))
      · exact l.elim
  · exact l.elim
end
end En

set_option Elab.async false
set_option linter.all false
set_option maxRecDepth 100000
namespace En
open PySem PySem.Spec PyProof.Rows L2
theorem wipeD_some {ρ : Env} {i : Nat} {d : D} : ∀ {l : List Nat}, (wipeD ρ l)[i]? = some (some d) → ρ[i]? = some (some d) ∧ i ∉ l
  | [], h => ⟨h, by simp⟩
  | v :: l, h => by
    unfold wipeD at h
    by_cases hi : v = i
    · subst hi
      by_cases hv : v < (wipeD ρ l).length
      · rw [List.getElem?_set_self hv] at h; cases h
      · rw [List.getElem?_eq_none (by rw [List.length_set]; omega)] at h; cases h
    · rw [List.getElem?_set_ne hi] at h
      obtain ⟨h1, h2⟩ := wipeD_some h
      exact ⟨h1, fun m => (List.mem_cons.mp m).elim (fun e => hi e.symm) h2⟩
theorem wipeD_length (ρ : Env) : ∀ l : List Nat, (wipeD ρ l).length = ρ.length
  | [] => rfl
  | v :: l => by unfold wipeD; rw [List.length_set, wipeD_length ρ l]
theorem wipe_idem {σ : L2.St} {l : List Nat} : wipe (wipe σ l) l = wipe σ l := by
  apply List.ext_getElem?
  intro j
  rw [wipe_get, wipe_get, wipe_length]
  by_cases h : j ∈ l ∧ j < σ.length
  · rw [if_pos h, if_pos h]
  · rw [if_neg h]
theorem Sim.wipes {K : PySem.W.Frag} {z : Ad} {H : Hp} {σ : L2.St} {ρ : Env} {g : G} (sm : Sim K z H σ ρ g) (tg : List Nat) : Sim K z H (wipe σ tg) (wipeD ρ tg) g := by
  refine ⟨fun i d h => ?_, by rw [wipe_length, wipeD_length]; exact sm.len, sm.sg⟩
  obtain ⟨h1, h2⟩ := wipeD_some h
  obtain ⟨v, q1, q2⟩ := sm.slot i d h1
  exact ⟨v, by rw [wipe_get, if_neg fun q => h2 q.1]; exact q1, q2⟩
theorem Sim.wk {K : PySem.W.Frag} {z z1 : Ad} {H H1 : Hp} {σ : L2.St} {ρ : Env} {g g1 : G} (s : Sim K z H σ ρ g) (e : Wk z H z1 H1) (sg : SG K z1 H1 g1) : Sim K z1 H1 σ ρ g1 :=
  ⟨fun i d h => let ⟨v, h1, h2⟩ := s.slot i d h; ⟨v, h1, h2.wk e⟩, s.len, sg⟩
section
variable {X : Cx} {X0 : XK} {pos : Pos}
theorem tlc_of {fI : Env → G → R Src} {fc : Env → G → R Bool} {fe : Env → G → R D} {mu tt : Bool} {tg : List Nat} {z : Ad} {ρ : Env} {g : G} {σ : L2.St} {H : Hp} {Q : VK} (sm : Sim X.K z H σ ρ g) (l : Lf X.K X.mg X0 (RpD X.K) z H (compF fI fc fe mu tt tg ρ g) Q) :
    tLc (LI X.K X.mg X0 fI) (LG X.K tt tg) (LT X.K X.mg E0 fc) (LE X.K X.mg E0 fe) tg σ H Q := by
  refine ⟨z, ρ, g, sm, (Lf.bind l).mono fun J H1 ⟨z1, src, g1, e1, sg1, jk, l1⟩ => ?_⟩
  have sm1 := sm.mono e1 sg1
  intro Da hD
  refine ⟨fun i m Hc => ∃ zc gc acc accD, Bld X.K z1 H1 Da zc Hc gc ∧ Hc Da = some (.lst acc) ∧ RpDs X.K zc Hc acc accD ∧ Lf X.K X.mg X0 (RpD X.K) z1 H1 ((compG src.get (fun d g => match asgT tt tg d (wipeD ρ tg) with
        | none => .stuck
        | some ρ' => (fc ρ' g).nox.bind fun k g => if k then (fe ρ' g).nox.bind fun y g => .ok (some y) g else .ok none g) m i accD gc).bind fun ys g => fin mu ys g) Q, ⟨src.fuel, _, g1, [], [], Bld.start sg1 hD, upd_same, .nil, l1⟩, ?_⟩
  rintro i m Hc ⟨zc, gc, acc, accD, B, hA, ra, lr⟩
  have jc := jk zc Hc gc i (B.wk hD) B.sg
  cases m with
  | zero => exact False.elim lr
  | succ k =>
    unfold compG at lr
    cases hget : src.get i gc with
    | none => rw [hget] at lr; exact lr.elim
    | some od =>
      rw [hget] at lr jc
      cases od with
      | none =>
        left
        exact ⟨jc, fin_end B sg1 hD hA ra lr⟩
      | some d =>
        right
        obtain ⟨jgo, jy⟩ := jc
        refine ⟨jgo, _, fun H' h => ⟨k, Nat.lt_succ_self k, h⟩, fun x H2 y => ?_⟩
        obtain ⟨e2, sg2, r2⟩ := jy x H2 y
        have B2 := B.step e2 sg2
        have hA2 : H2 Da = some (.lst acc) := e2.keep _ _ hA B.notm
        have smw := (sm1.wk ((B.wk hD).trans e2.wk) sg2).wipes tg
        refine ⟨zc, wipeD ρ tg, gc, d, smw, r2, ?_⟩
        simp only at lr
        cases ha : asgT tt tg d (wipeD ρ tg) with
        | none => rw [ha] at lr; exact lr.elim
        | some ρ' =>
          rw [ha] at lr
          simp only at lr ⊢
          intro vs sm3
          refine ⟨by rw [wipe_sets tg tg vs _ fun _ m => m]; exact wipe_idem, zc, ρ', gc, sm3, ?_⟩
          cases hk : fc ρ' gc with
          | stuck => rw [hk] at lr; exact lr.elim
          | exc x g' => rw [hk] at lr; exact lr.elim
          | ok kb gk =>
            rw [hk] at lr
            simp only [R.nox_ok, R.bind_ok] at lr
            intro z3 H3 w e3 sg3 ew
            subst ew
            have B3 := B2.step e3 sg3
            have hA3 : H3 Da = some (.lst acc) := e3.keep _ _ hA2 B2.notm
            have ra3 := (ra.mono e2).mono e3
            cases w with
            | false =>
              simp only [Bool.false_eq_true, if_false, R.bind_ok] at lr ⊢
              exact ⟨z3, gk, acc, accD, B3, hA3, ra3, lr⟩
            | true =>
              simp only [if_true] at lr ⊢
              refine ⟨z3, ρ', gk, sm3.mono e3 sg3, ?_⟩
              cases hy : fe ρ' gk with
              | stuck => rw [hy] at lr; exact lr.elim
              | exc x g' => rw [hy] at lr; exact lr.elim
              | ok yv gy =>
                rw [hy] at lr
                simp only [R.nox_ok, R.bind_ok] at lr
                intro z4 H4 v4 e4 sg4 r4
                have B4 := B3.step e4 sg4
                have hA4 : H4 Da = some (.lst acc) := e4.keep _ _ hA3 B3.notm
                split at lr
                · next hlt =>
                  refine ⟨acc, hA4, ?_, z4, gy, acc ++ [v4], accD ++ [yv], B4.put hD, upd_same, ?_, lr⟩
                  · rw [rpds_len ra]; exact Nat.lt_of_lt_of_le hlt lim_le
                  · exact (RpDs.append (ra3.mono e4) (.cons r4 .nil)).wk (wk_upd B4)
                · exact lr.elim
theorem je_comp {elt tgx iter : Expr} {ifs : List Expr} {scope : Scope} {own : List (Str × Nat)} {fI : Env → G → R Src} {fc : Env → G → R Bool} {fe : Env → G → R D} {mu tt : Bool} {tg : List Nat} (hc : X.calm = true) (nd : X.N.Nodup) (hi : JI X X0 tgx iter fI) (ok : BlkOk X.N X.env.scope scope own) (hown : own.map (·.2) = tg)
    (hg : ∀ (s : Shared) (H : Hp) (C : Addr) (cl : List (Str × Addr)) (fp : List Addr), PG (X.blk s H scope (compEnvC scope cl C X.env) fp) tgx (LG X.K tt tg))
    (ht : ∀ (s : Shared) (H : Hp) (C : Addr) (cl : List (Str × Addr)) (fp : List Addr), PTs (X.blk s H scope (compEnvC scope cl C X.env) fp) ifs (LT X.K X.mg E0 fc))
    (he : ∀ (s : Shared) (H : Hp) (C : Addr) (cl : List (Str × Addr)) (fp : List Addr), PE (X.blk s H scope (compEnvC scope cl C X.env) fp) elt (LE X.K X.mg E0 fe)) (hs : ∀ x, foldedSetIterable iter X.env x = pure x) :
    JE X X0 (.ListComp elt [⟨tgx, iter, ifs, 0⟩] scope pos) (compF fI fc fe mu tt tg) := by
  subst hown
  exact .of (pe_lc hc nd hi ok hg ht he hs) fun z ρ g σ H Q sm l => tlc_of sm l
end
end En

set_option Elab.async false
set_option linter.all false
set_option maxRecDepth 100000
namespace En
open PySem PySem.Spec PyProof.Rows L2
def JS (X : Cx) (X0 : XK) (s : Stmt) (f : Env → G → SR) : Prop := PS X s (LS X.K X.mg X0 f)
def JSs (X : Cx) (X0 : XK) (s : List Stmt) (f : Env → G → SR) : Prop := PSs X s (LS X.K X.mg X0 f)
section
variable {X : Cx} {X0 : XK} {e a b c : Expr} {es : List Expr} {fa fb fc : Env → G → R D} {ft : Env → G → R Bool} {f1 f2 : Env → G → SR} {st : Stmt} {ss ss' : List Stmt} {pos p : Pos}
theorem JS.of {t : TS} {f : Env → G → SR} (h : PS X st t) (i : ∀ z ρ g σ H D, Sim X.K z H σ ρ g → Ls X.K X.mg X0 z H (f ρ g) D → t D σ H) : JS X X0 st f :=
  fun pins s σ H D I ⟨z, ρ, g, sm, l⟩ => h pins s σ H D I (i z ρ g σ H D sm l)
theorem jss_nil : JSs X X0 [] (fun ρ g => .nx ρ g) := fun pins s σ H D I ⟨z, ρ, g, sm, l⟩ => pss_nil pins s σ H D I (l z H σ Ext.refl sm)
theorem jss_cons (h1 : JS X X0 st f1) (h2 : JSs X X0 ss f2) : JSs X X0 (st :: ss) (fun ρ g => (f1 ρ g).andThen f2) :=
  fun pins s σ H D I ⟨z, ρ, g, sm, l⟩ => pss_cons h1 h2 pins s σ H D I ⟨z, ρ, g, sm, Ls.seq l⟩
theorem js_pass : JS X X0 (.Pass pos) (fun ρ g => .nx ρ g) := .of ps_pass fun z ρ g σ H D sm l => l z H σ Ext.refl sm
theorem js_break : JS X X0 (.Break pos) (fun ρ g => .bk ρ g) := .of ps_break fun z ρ g σ H D sm l => l z H σ Ext.refl sm
theorem js_continue : JS X X0 (.Continue pos) (fun ρ g => .ct ρ g) := .of ps_continue fun z ρ g σ H D sm l => l z H σ Ext.refl sm
/-- an expression, then what is done -/
theorem ls_bind {f : Env → G → R D} {k : D → G → SR} {K : PySem.W.Frag} {mg : Str → Option Value} {σ : L2.St} {z : Ad} {H : Hp} {ρ : Env} {g : G} {D' : Ends} {Qa : VK} (sm : Sim K z H σ ρ g) (l : Ls K mg X0 z H ((f ρ g).toS k) D')
    (q : ∀ z1 H1 x g1 v, Sim K z1 H1 σ ρ g1 → Ext z H z1 H1 → RpD K z1 H1 v x → Ls K mg X0 z1 H1 (k x g1) D' → Qa v H1) : LE K mg X0 f σ H Qa :=
  ⟨z, ρ, g, sm, (Ls.ofR l).mono fun v H1 ⟨z1, x, g1, e, sg, r, l1⟩ => q z1 H1 x g1 v (sm.mono e sg) e r l1⟩
theorem js_ret (h : JE X X0 e fa) : JS X X0 (.Return (some e) pos) (fun ρ g => (fa ρ g).toS fun d g => .rt d g) :=
  .of (ps_ret h) fun z ρ g σ H D sm l => ls_bind sm l fun z1 H1 x g1 v sm1 e1 r1 l1 => l1 z1 H1 v Ext.refl sm1.sg r1
theorem js_retN : JS X X0 (.Return none pos) (fun _ g => .rt (.p .none) g) := .of ps_retN fun z ρ g σ H D sm l => l z H .non Ext.refl sm.sg .non
theorem js_expr (h : JE X X0 e fa) (hs : swapsWith e none pos.line X.env = pure false) : JS X X0 (.Expr e pos) (fun ρ g => (fa ρ g).toS fun _ g => .nx ρ g) :=
  .of (ps_expr h hs) fun z ρ g σ H D sm l => ls_bind sm l fun z1 H1 x g1 v sm1 e1 r1 l1 => l1 z1 H1 σ Ext.refl sm1
theorem js_if (hc : JT X X0 c ft) (ha : JSs X X0 ss f1) (hb : JSs X X0 ss' f2) : JS X X0 (.If c ss ss' pos) (fun ρ g => (ft ρ g).toS fun k g => if k then f1 ρ g else f2 ρ g) := by
  refine .of (ps_if hc ha hb) fun z ρ g σ H D sm l => ?_
  refine ⟨z, ρ, g, sm, (Ls.ofR l).mono fun v H1 ⟨z1, x, g1, e, sg, r, l1⟩ => ?_⟩
  subst r
  cases v with
  | true => rw [if_pos rfl]; exact ⟨z1, ρ, g1, sm.mono e sg, l1⟩
  | false => rw [if_neg Bool.false_ne_true]; exact ⟨z1, ρ, g1, sm.mono e sg, l1⟩
/-- target = value -/
theorem js_asg {tgx : Expr} {tt : Bool} {tg : List Nat} (h : JE X X0 e fa) (hg : PG X tgx (LG X.K tt tg)) (hs : swapsWithSole [tgx] e pos.line X.env = pure false) (hw : swappedStores [tgx] e X.env = pure none) (h1 : (assignEach [tgx] X.env).map (·.2) = [assign tgx X.env]) :
    JS X X0 (.Assign [tgx] e pos) (fun ρ g => (fa ρ g).toS fun d g => match asgT tt tg d ρ with | some ρ' => .nx ρ' g | none => .stuck) := by
  refine .of (ps_asg h hg hs hw h1) fun z ρ g σ H D sm l => ls_bind sm l fun z1 H1 x g1 v sm1 e1 r1 l1 => ?_
  refine ⟨z1, ρ, g1, x, sm1, r1, ?_⟩
  cases q : asgT tt tg x ρ with
  | none => rw [q] at l1; exact l1.elim
  | some ρ' => rw [q] at l1; exact fun vs sm2 => l1 z1 H1 _ Ext.refl sm2
theorem js_set {i : Nat} {x : Str} {pos' : Pos} (n : Nm X i x) (h : JE X X0 e fa) (hs : swapsWith e (some (.Name x pos')) pos.line X.env = pure false) :
    JS X X0 (.Assign [.Name x pos'] e pos) (fun ρ g => (fa ρ g).toS fun d g => match asgT false [i] d ρ with | some ρ' => .nx ρ' g | none => .stuck) := by
  refine .of (ps_set n.nd n.ix n.lc h hs n.fn) fun z ρ g σ H D sm l => ls_bind sm l fun z1 H1 x g1 v sm1 e1 r1 l1 => ?_
  exact l1 z1 H1 _ Ext.refl (sm1.set i r1)
theorem js_setLc {i : Nat} {y : Str} {py : Pos} {elt tgx iter : Expr} {ifs : List Expr} {scope : Scope} {own : List (Str × Nat)} {spos : Pos} {fI : Env → G → R Src} {fe : Env → G → R D} {fk : Env → G → R Bool} {mu tt : Bool} {tg : List Nat} (hc : X.calm = true) (nd : X.N.Nodup) (hy : X.N[i]? = some y) (hyl : X.env.scope.names.lookup y = some .local)
    (hsw : swapsWith (.ListComp elt [⟨tgx, iter, ifs, 0⟩] scope pos) (some (.Name y py)) spos.line X.env = pure true) (hi : JI X X0 tgx iter fI) (ok : BlkOk X.N X.env.scope scope own) (hown : own.map (·.2) = tg)
    (hg : ∀ (s : Shared) (H : Hp) (C : Addr) (cl : List (Str × Addr)) (fp : List Addr), PG (X.blk s H scope (compEnvC scope cl C X.env) fp) tgx (LG X.K tt tg))
    (ht : ∀ (s : Shared) (H : Hp) (C : Addr) (cl : List (Str × Addr)) (fp : List Addr), PTs (X.blk s H scope (compEnvC scope cl C X.env) fp) ifs (LT X.K X.mg E0 fk))
    (he : ∀ (s : Shared) (H : Hp) (C : Addr) (cl : List (Str × Addr)) (fp : List Addr), PE (X.blk s H scope (compEnvC scope cl C X.env) fp) elt (LE X.K X.mg E0 fe)) (hs : ∀ x, foldedSetIterable iter X.env x = pure x) :
    JS X X0 (.Assign [.Name y py] (.ListComp elt [⟨tgx, iter, ifs, 0⟩] scope pos) spos) (fun ρ g => (compF fI fk fe mu tt tg ρ g).toS fun d g => match asgT false [i] d ρ with | some ρ' => .nx ρ' g | none => .stuck) := by
  subst hown
  refine .of (ps_setLc hc nd hy hyl hsw hi ok hg ht he hs) fun z ρ g σ H D sm l => ?_
  refine tlc_of (X0 := X0) sm ((Ls.ofR (Rel := RpD X.K) l).mono fun v H1 ⟨z1, x, g1, e, sg, r, l1⟩ => ?_)
  exact l1 z1 H1 _ Ext.refl ((sm.mono e sg).set i r)
/-- a, b = x, y -/
theorem js_par {i j : Nat} {x y : Str} {px py pt : Pos} {kt k2 pt2} (hc : X.calm = true) (nd : X.N.Nodup) (hi : X.N[i]? = some x) (hj : X.N[j]? = some y) (hij : i ≠ j) (hx : X.env.scope.names.lookup x = some .local) (hy : X.env.scope.names.lookup y = some .local)
    (ha : JE X X0 a fa) (hb : JE X X0 b fb) (hsa : nostar a = true) (hsb : nostar b = true) (hw : swappedStores [.Tuple [.Name x px, .Name y py] kt pt] (.Tuple [a, b] k2 pt2) X.env = pure (some [x, y])) :
    JS X X0 (.Assign [.Tuple [.Name x px, .Name y py] kt pt] (.Tuple [a, b] k2 pt2) pos) (fun ρ g => (fa ρ g).toS fun v g => (fb ρ g).toS fun w g => .nx ((ρ.set i (some v)).set j (some w)) g) := by
  refine .of (ps_par hc nd hi hj hij hx hy (pa_cons ha (pa_cons hb pa_nil (star_cons hsb)) (star_cons hsa)) hw) fun z ρ g σ H D sm l => ?_
  refine ls_bind sm l fun z1 H1 x1 g1 v sm1 e1 r1 l1 => ?_
  refine ls_bind sm1 l1 fun z2 H2 x2 g2 u sm2 e2 r2 l2 => ?_
  exact ⟨v, u, rfl, l2 z2 H2 _ Ext.refl ((sm2.set i (r1.mono e2)).set j r2)⟩
/-! ## the store -/
theorem SG.put {K : PySem.W.Frag} {z : Ad} {H : Hp} {g : G} {n : Nat} {ad : Addr} {xs : List V} {ds : List D} (s : SG K z H g) (h : z.m[n]? = some ad) (r : RpDs K z H xs ds) : Ext z H z (upd H ad (.lst xs)) ∧ SG K z (upd H ad (.lst xs)) (g.set n (.lst ds)) := by
  have hm : ad ∈ z.m := List.mem_of_getElem? h
  have w : Wk z H z (upd H ad (.lst xs)) := ⟨fun a o q hn => ⟨by rw [upd_ne (show a ≠ ad from fun e => hn.1 (by rw [e]; exact hm))]; exact q, hn⟩, fun _ _ q => q⟩
  refine ⟨⟨⟨[], by simp, fun _ h => nomatch h⟩, rfl, fun a o q hn => by rw [upd_ne (show a ≠ ad from fun e => hn (by rw [e]; exact hm))]; exact q, fun a m o q => ?_⟩, ⟨by rw [List.length_set]; exact s.len, s.nd, fun k a go q1 q2 => ?_, fun a m => ?_, s.bm⟩⟩
  · by_cases e : a = ad
    · subst e; exact ⟨_, upd_same⟩
    · exact ⟨o, by rw [upd_ne e]; exact q⟩
  · by_cases e : n = k
    · subst e
      rw [h] at q1
      have q1 := Option.some.inj q1
      subst q1
      have hn : n < g.length := by rw [← s.len]; exact (List.getElem?_eq_some_iff.mp h).1
      rw [List.getElem?_set_self hn] at q2
      cases q2
      exact ⟨xs, upd_same, r.wk w⟩
    · rw [List.getElem?_set_ne e] at q2
      have hne : a ≠ ad := fun q => e (L2.nd_ix s.nd h (by rw [← q]; exact q1))
      exact GOk.mono w (fun u q => by rw [upd_ne hne]; exact q) (s.obj k a go q1 q2)
  · obtain ⟨o, q⟩ := s.lb a m
    exact ⟨o, by rw [upd_ne (show a ≠ ad from fun e => s.bm a m (by rw [e]; exact hm))]; exact q⟩
theorem js_app {apos cpos : Pos} (ho : JE X X0 a fa) (hb : JE X X0 b fb) (hsb : nostar b = true) (hbase : attributeBase a "append" X.env (eval a X.env) = eval a X.env) (hline : (apos.endLine == cpos.line) = true) (hs : swapsWith (.Call (.Attribute a "append" apos) [b] [] cpos) none pos.line X.env = pure false) :
    JS X X0 (.Expr (.Call (.Attribute a "append" apos) [b] [] cpos) pos) (fun ρ g => (fa ρ g).toS fun x g => appF x (fun g => fb ρ g) ρ g) := by
  have key := pe_bm (X := X) (name := "append") (apos := apos) (cpos := cpos) PySem.F.plainAttrs_list PySem.F.slot_list_append PySem.F.type_list_append mt_append ho (pa_cons hb pa_nil (star_cons hsb)) hbase (by rw [star_cons hsb]; rfl) hline (star_cons hsb) rfl
  refine .of (ps_expr key hs) fun z ρ g σ H D sm l => ?_
  refine ls_bind sm l fun z1 H1 x1 g1 v sm1 e1 r1 l1 => ?_
  unfold appF at l1
  split at l1
  · next n =>
    split at l1
    · next ds0 eg =>
      obtain ⟨q, rfl, ea⟩ := r1
      obtain ⟨xs0, h0, _⟩ := sm1.sg.obj n q _ ea eg
      refine ⟨.inl ⟨rfl, xs0, SqL.of h0⟩, ?_⟩
      refine ls_bind (f := fun ρ g => fb ρ g) sm1 l1 fun z2 H2 x2 g2 u sm2 e2 r2 l2 => ?_
      split at l2
      · next ds eg2 =>
        have ea2 := e2.get ea
        obtain ⟨xs, h2, rr⟩ := sm2.sg.obj n q _ ea2 eg2
        split at l2
        · next hl =>
          obtain ⟨ex, sgx⟩ := sm2.sg.put ea2 (RpDs.append rr (.cons r2 .nil))
          exact ⟨q, xs, u, rfl, rfl, h2, by rw [rpds_len rr]; exact Nat.lt_of_lt_of_le hl lim_le, l2 z2 _ σ ex (sm2.mono ex sgx)⟩
        · exact l2.elim
      · exact l2.elim
    · exact l1.elim
  · exact l1.elim
theorem js_setIx {o i : Expr} {fo fi : Env → G → R D} {tpos : Pos} (he : JE X X0 e fa) (ho : JE X X0 o fo) (hi : JE X X0 i fi)
    (h1 : ∀ v, assign (.Subscript o i tpos) X.env v = (do
      let ov ← holding [v] (eval o X.env)
      let iv ← holding [v, ov] (eval i X.env)
      standAt tpos
      holding [v, ov, iv] (setItem ov iv v)
      release [v, ov, iv] [])) (hs : swapsWithSole [.Subscript o i tpos] e pos.line X.env = pure false) (hw : swappedStores [.Subscript o i tpos] e X.env = pure none) :
    JS X X0 (.Assign [.Subscript o i tpos] e pos) (fun ρ g => (fa ρ g).toS fun y g => (fo ρ g).toS fun x g => (fi ρ g).toS fun k g => match x, k with
    | .ref n, .p (.int k) => match g[n]? with
      | some (.lst ds) => match ixN ds.length k with
        | some j => .nx ρ (g.set n (.lst (ds.set j y)))
        | none => .stuck
      | _ => .stuck
    | _, _ => .stuck) := by
  refine .of (ps_asg he (pg_sub ho hi set_list h1) hs hw rfl) fun z ρ g σ H D sm l => ?_
  refine ls_bind sm l fun z1 H1 y g1 v sm1 e1 r1 l1 => ?_
  refine ls_bind sm1 l1 fun z2 H2 x g2 u sm2 e2 r2 l2 => ?_
  refine ls_bind sm2 l2 fun z3 H3 k g3 w sm3 e3 r3 l3 => ?_
  split at l3
  · next n k =>
    split at l3
    · next ds eg =>
      split at l3
      · next j ej =>
        obtain ⟨q, rfl, ea⟩ := r2.mono e3
        rw [rp_int r3]
        obtain ⟨xs, h2, rr⟩ := sm3.sg.obj n q _ ea eg
        have rs : RpDs X.K z3 H3 (xs.set j v) (ds.set j y) := by
          have r1' := (r1.mono e2).mono e3
          clear l3 ej eg h2 sm3 sm2 sm1 sm l l1 l2
          induction rr generalizing j with
          | nil => exact .nil
          | cons a b ih =>
            cases j with
            | zero => exact .cons r1' b
            | succ j => exact .cons a (ih j)
        obtain ⟨ex, sgx⟩ := sm3.sg.put ea rs
        exact ⟨q, xs, k, j, rfl, rfl, h2, by rw [rpds_len rr]; exact ej, l3 z3 _ σ ex (sm3.mono ex sgx)⟩
      · exact l3.elim
    · exact l3.elim
  · exact l3.elim
/-! ## for -/
theorem js_for {tgx iter : Expr} {body : List Stmt} {fI : Env → G → R Src} {tt : Bool} {tg : List Nat} (hp : PassesOwn (model X.prog X.w) X.A X.env X.xe) (hc : X.calm = true) (hi : JI X X0 tgx iter fI) (hg : PG X tgx (LG X.K tt tg)) (hb : JSs X X0 body f1) (hs : ∀ x, foldedSetIterable iter X.env x = pure x) :
    JS X X0 (.For tgx iter body [] pos) (fun ρ g => (fI ρ g).toS fun s g => forG s.get (fun d ρ g => match asgT tt tg d ρ with
      | none => .stuck
      | some ρ' => f1 ρ' g) s.fuel 0 ρ g) := by
  refine .of (ps_for hp hc hi hg hb hs) fun z ρ g σ H D sm l => ?_
  refine ⟨z, ρ, g, sm, (Ls.ofR l).mono fun J H1 ⟨z1, src, g1, e1, sg1, jk, l1⟩ => ?_⟩
  refine ⟨fun i m σc Hc => ∃ zc ρc gc, Ext z1 H1 zc Hc ∧ Sim X.K zc Hc σc ρc gc ∧ Ls X.K X.mg X0 z1 H1 (forG src.get (fun d ρ g => match asgT tt tg d ρ with
      | none => .stuck
      | some ρ' => f1 ρ' g) m i ρc gc) D, ⟨src.fuel, z1, ρ, g1, Ext.refl, sm.mono e1 sg1, l1⟩, ?_⟩
  rintro i m σc Hc ⟨zc, ρc, gc, ec, smc, lr⟩
  have jc := jk zc Hc gc i ec.wk smc.sg
  cases m with
  | zero => exact False.elim lr
  | succ k =>
    unfold forG at lr
    cases hget : src.get i gc with
    | none => rw [hget] at lr; exact lr.elim
    | some od =>
      rw [hget] at lr jc
      cases od with
      | none => exact .inl ⟨jc, lr zc Hc σc ec smc⟩
      | some d =>
        right
        obtain ⟨jgo, jy⟩ := jc
        refine ⟨jgo, _, fun σ' H' h => ⟨k, Nat.lt_succ_self k, h⟩, fun x H2 y => ?_⟩
        obtain ⟨e2, sg2, r2⟩ := jy x H2 y
        have e12 := ec.trans e2
        refine ⟨zc, ρc, gc, d, smc.mono e2 sg2, r2, ?_⟩
        simp only at lr
        cases ha : asgT tt tg d ρc with
        | none => rw [ha] at lr; exact lr.elim
        | some ρ' =>
          rw [ha] at lr
          simp only at lr ⊢
          intro vs sm3
          refine ⟨zc, ρ', gc, sm3, ?_⟩
          cases hf : f1 ρ' gc with
          | stuck => rw [hf] at lr; exact lr.elim
          | nx ρ2 g2 => rw [hf] at lr; exact fun m' H' σ' a b => ⟨m', ρ2, g2, e12.trans a, b, lr⟩
          | ct ρ2 g2 => rw [hf] at lr; exact fun m' H' σ' a b => ⟨m', ρ2, g2, e12.trans a, b, lr⟩
          | bk ρ2 g2 => rw [hf] at lr; exact fun m' H' σ' a b => lr m' H' σ' (e12.trans a) b
          | rt dd g2 => rw [hf] at lr; exact fun m' H' v a b c => lr m' H' v (e12.trans a) b c
          | exc xx g2 => rw [hf] at lr; exact fun m' H' cv od a b c => lr m' H' cv od (e12.trans a) b c
end
end En

set_option Elab.async false
set_option linter.all false
set_option maxRecDepth 100000
namespace En
open PySem PySem.Spec PyProof.Rows L2
/-! ## from the text to the small language -/
structure Ctx where
  N : List Str
  sc : Scope
  own : Str → Bool
  glb : List (Str × PyData)
  fns : List (Str × List Str)
  mu : List (Nat × Nat)
def Ctx.muAt (Γ : Ctx) (p : Pos) : Bool := Γ.mu.contains (p.line, p.col)
def slotOf (N : List Str) (x : Str) : Option Nat := N.findIdx? (fun y => decide (y = x))
theorem slotOf_ok {N : List Str} {x : Str} {i : Nat} (h : slotOf N x = some i) : N[i]? = some x := by
  unfold slotOf at h
  obtain ⟨hi, h1, _⟩ := List.findIdx?_eq_some_iff_getElem.mp h
  rw [List.getElem?_eq_getElem hi]
  exact congrArg some (of_decide_eq_true h1)
def isVis (sc : Scope) (x : Str) : Bool := match sc.names.lookup x with
  | some .local => true
  | some .cell => true
  | some .free => true
  | _ => false
def isGl (sc : Scope) (x : Str) : Bool := match sc.names.lookup x with
  | some .globalImplicit => true
  | _ => false
def isLoc (sc : Scope) (x : Str) : Bool := match sc.names.lookup x with
  | some .local => true
  | _ => false
theorem isVis_ok {sc : Scope} {x : Str} (h : isVis sc x = true) : Vis sc x := by
  unfold isVis at h
  split at h
  · next q => exact .inl q
  · next q => exact .inr (.inl q)
  · next q => exact .inr (.inr q)
  · cases h
theorem isGl_ok {sc : Scope} {x : Str} (h : isGl sc x = true) : sc.names.lookup x = some .globalImplicit := by
  unfold isGl at h
  split at h
  · next q => exact q
  · cases h
theorem isLoc_ok {sc : Scope} {x : Str} (h : isLoc sc x = true) : sc.names.lookup x = some .local := by
  unfold isLoc at h
  split at h
  · next q => exact q
  · cases h
def cBO : Operator → Option BO
  | .Add => some .add | .Sub => some .sub | .Mult => some .mul | .Mod => some .mod | .FloorDiv => some .fdiv | .Pow => some .pow | _ => none
theorem cBO_ok {o : Operator} {b : BO} (h : cBO o = some b) : o = b.op := by cases o <;> first | (cases h; rfl) | cases h
def cCO : CmpOp → Option CO
  | .Eq => some .eq | .NotEq => some .ne | .Lt => some .lt | .LtE => some .le | .Gt => some .gt | .GtE => some .ge | .Is => some .isN | .IsNot => some .notN | _ => none
theorem cCO_ok {o : CmpOp} {b : CO} (h : cCO o = some b) : o = b.op ∧ (b ≠ .inn ∧ b ≠ .nin) := by
  cases o <;> first | (cases h; exact ⟨rfl, (fun z => nomatch z), fun z => nomatch z⟩) | cases h
def cBF (x : Str) : Option BF := [BF.len, .repr, .all, .any, .tuple, .list, .max, .min, .sum].find? (fun f => decide (f.nm = x))
theorem cBF_ok {x : Str} {f : BF} (h : cBF x = some f) : x = f.nm := by
  unfold cBF at h
  have q := List.find?_some h
  simp only [decide_eq_true_eq] at q
  exact q.symm
def cTY (x : Str) : Option TY := [TY.int, .bool, .str, .tuple, .list, .dict].find? (fun t => decide (Str.ofString t.nm = x))
theorem cTY_ok {x : Str} {t : TY} (h : cTY x = some t) : x = Str.ofString t.nm := by
  unfold cTY at h
  have q := List.find?_some h
  simp only [decide_eq_true_eq] at q
  exact q.symm
def noset : Expr → Bool
  | .Set _ _ _ => false
  | _ => true
theorem noset_ok {e : Expr} {env : PySem.Env} (h : noset e = true) : ∀ x, foldedSetIterable e env x = pure x := by
  cases e <;> first | (intro x; rfl) | cases h
def noslice : Expr → Bool
  | .Slice _ _ _ _ => false
  | _ => true
theorem noslice_ok {e : Expr} (h : noslice e = true) : PlainIx e := by
  cases e <;> first | (intro o i; rfl) | cases h
def nocomp : Expr → Bool
  | .ListComp _ _ _ _ => false
  | .SetComp _ _ _ _ => false
  | .DictComp _ _ _ _ _ => false
  | _ => true
theorem nocomp_ok {e : Expr} (t : Option Expr) (l : Nat) (env : PySem.Env) (h : nocomp e = true) : swapsWith e t l env = pure false := by
  cases e <;> first | rfl | cases h
def nameAll : List Expr → Option (List Str)
  | [] => some []
  | .Name x _ :: r => (nameAll r).map (x :: ·)
  | _ :: _ => none
def tgNames : Expr → Option (Bool × List Str)
  | .Name x _ => some (false, [x])
  | .Tuple es _ _ => (nameAll es).map (true, ·)
  | _ => none
/-- a context within a comprehension -/
def Ctx.blk (Γ : Ctx) (scope : Scope) : Ctx := { Γ with sc := relS scope Γ.sc, own := fun x => isLoc (relS scope Γ.sc) x || (match scope.names.lookup x, (relS scope Γ.sc).names.lookup x with | some .cell, some .cell => true | _, _ => false) }
def slotsOf (N : List Str) : List Str → Option (List Nat)
  | [] => some []
  | x :: r => match slotOf N x, slotsOf N r with
    | some i, some is => some (i :: is)
    | _, _ => none
def cEs (f : Expr → E) : List Expr → Es
  | [] => .nil
  | e :: r => .cons (f e) (cEs f r)
def cOp (f : Expr → E) : Option Expr → Op
  | none => .no
  | some e => .so (f e)
/-- the names of a target, all one's own -/
def tgOk (Γ : Ctx) (tg : Expr) : Option (Bool × List Str × List Nat) := match tgNames tg with
  | none => none
  | some (tt, xs) => match slotsOf Γ.N xs with
    | none => none
    | some is => if xs.all Γ.own then some (tt, xs, is) else none
mutual
def cE : Nat → Ctx → Expr → E
  | 0, _, _ => .stuck
  | n + 1, Γ, e => match e with
    | .Constant (.int i) _ _ => .lit (.int i)
    | .Constant (.bool b) _ _ => .lit (.bool b)
    | .Constant .none _ _ => .lit .none
    | .Constant (.str x) _ _ => .lit (.str x)
    | .Name x _ => if x == "__debug__" || x == "__classdict__" then .stuck else if isVis Γ.sc x then (match slotOf Γ.N x with | some i => .var i | none => .stuck)
      else if isGl Γ.sc x then (match Γ.glb.lookup x with | some d => .lit d | none => .stuck) else .stuck
    | .BinOp a op b pos => match cBO op with
      | some o => .bin o (Γ.muAt pos) (cE n Γ a) (cE n Γ b)
      | none => .stuck
    | .UnaryOp .Not a _ => .not_ (cE n Γ a)
    | .UnaryOp .USub a _ => .neg (cE n Γ a)
    | .BoolOp .And (a :: b :: r) pos => .and_ (cE n Γ a) (cE n Γ (.BoolOp .And (b :: r) pos))
    | .BoolOp .Or (a :: b :: r) pos => .or_ (cE n Γ a) (cE n Γ (.BoolOp .Or (b :: r) pos))
    | .BoolOp _ [a] _ => cE n Γ a
    | .Compare a [op] [b] _ => match cCO op with
      | some o => .cmp o (cE n Γ a) (cE n Γ b)
      | none => .stuck
    | .Compare a [op, op'] [b, c] _ => match cCO op, cCO op' with
      | some o, some o' => .chain o o' (cE n Γ a) (cE n Γ b) (cE n Γ c)
      | _, _ => .stuck
    | .IfExp c a b _ => .ite (cE n Γ c) (cE n Γ a) (cE n Γ b)
    | .Tuple es _ _ => if es.all nostar then .tup (cEs (cE n Γ) es) else .stuck
    | .List es pos => if es.all nostar then .lst (Γ.muAt pos) (cEs (cE n Γ) es) else .stuck
    | .Dict [] [] _ => .dct [] .nil
    | .Dict [some (.Constant (.str x) _ _)] [.Constant (.int i) _ _] _ => .dct [.inr x] (.cons (.lit (.int i)) .nil)
    | .Subscript a (.Slice lo hi none _) _ => .sl (cE n Γ a) (cOp (cE n Γ) lo) (cOp (cE n Γ) hi)
    | .Subscript a (.Slice none none (some (.UnaryOp .USub (.Constant (.int 1) _ _) _)) _) _ => .rev (cE n Γ a)
    | .Subscript a b _ => if noslice b then .ix (cE n Γ a) (cE n Γ b) else .stuck
    | .Call (.Name f _) es [] pos => if !isGl Γ.sc f || !es.all nostar || f == "__debug__" then .stuck else
        if f == "isinstance" then (match es with
          | [a, .Name t _] => match cTY t with
            | some ty => if isGl Γ.sc t then .isi (cE n Γ a) ty else .stuck
            | none => .stuck
          | _ => .stuck)
        else match cBF f with
          | some bf => if es.isEmpty then .stuck else .bf bf (Γ.muAt pos) (cEs (cE n Γ) es)
          | none => if (Γ.fns.lookup f).isSome then .call f (cEs (cE n Γ) es) else .stuck
    | .ListComp elt [⟨tg, it, ifs, 0⟩] scope pos => match tgOk (Γ.blk scope) tg with
      | some (tt, xs, is) => if blkC Γ.N Γ.sc scope (xs.zip is) && noset it then
          (match ifs with
            | [] => .comp (Γ.muAt pos) tt is (cI n Γ tt it) .no (cE n (Γ.blk scope) elt)
            | [c] => .comp (Γ.muAt pos) tt is (cI n Γ tt it) (.so (cE n (Γ.blk scope) c)) (cE n (Γ.blk scope) elt)
            | _ => .stuck)
        else .stuck
      | none => .stuck
    | _ => .stuck
def cI : Nat → Ctx → Bool → Expr → It
  | 0, _, _, _ => .seq .stuck
  | n + 1, Γ, tt, e => match e with
    | .Call (.Name f _) [a] [] _ => if isGl Γ.sc f && nostar a && f == "range" then .rng (cE n Γ a) else .seq (cE n Γ e)
    | .Call (.Name f _) [a, b] [] _ => if isGl Γ.sc f && nostar a && nostar b && f == "range" then .rng2 (cE n Γ a) (cE n Γ b) else .seq (cE n Γ e)
    | e => .seq (cE n Γ e)
end
def cSs (f : Stmt → S) : List Stmt → S
  | [] => .skip
  | s :: r => .seq (f s) (cSs f r)
/-- a, b = x, y: stored from the right -/
def parOk (Γ : Ctx) (x y : Str) (px py : Pos) (a b : Expr) : Bool :=
  isLoc Γ.sc x && isLoc Γ.sc y && decide (x ≠ y) && (py.line == px.line) && nostar a && nostar b && !([a, b].all (foldedForSure 8)) && !([a, b].all (constantsAlone 8)) && decide (Γ.sc.kind = .function)
def cS : Nat → Ctx → Stmt → S
  | 0, _, _ => .stuck
  | n + 1, Γ, s => match s with
    | .Return (some e) _ => .ret (cE n Γ e)
    | .Return none _ => .retN
    | .Pass _ => .skip
    | .Break _ => .brk
    | .Continue _ => .cnt
    | .If c a b _ => .ite (cE n Γ c) (cSs (cS n Γ) a) (cSs (cS n Γ) b)
    | .Expr (.Call (.Attribute (.Name o op) m apos) [b] [] cpos) _ => if m == "append" && nostar b && (apos.endLine == cpos.line) then .app (cE n Γ (.Name o op)) (cE n Γ b) else .stuck
    | .Expr e _ => if nocomp e then .ex (cE n Γ e) else .stuck
    | .Assign [.Name x p'] e _ => if Γ.own x then (match slotOf Γ.N x with
        | some i => if nocomp e then .asg false [i] (cE n Γ e) else (match e with
          | .ListComp elt gs scope lp => if decide (Γ.sc.kind = .function) then (if isLoc Γ.sc x then (if (p'.line == lp.line) && !(scope.names.any fun (n, k) => n == x && (k == .local || k == .cell)) then .asg false [i] (cE n Γ e) else .stuck) else .asg false [i] (cE n Γ e)) else .stuck
          | _ => .stuck)
        | none => .stuck) else .stuck
    | .Assign [.Tuple [.Name x px, .Name y py] _ _] (.Tuple [a, b] _ _) _ => if parOk Γ x y px py a b then (match slotOf Γ.N x, slotOf Γ.N y with
        | some i, some j => .par i j (cE n Γ a) (cE n Γ b)
        | _, _ => .stuck) else .stuck
    | .Assign [.Tuple es k p] e _ => (match e with
      | .Tuple _ _ _ => .stuck
      | e => if nocomp e then (match tgOk Γ (.Tuple es k p) with
        | some (tt, _, is) => .asg tt is (cE n Γ e)
        | none => .stuck) else .stuck)
    | .Assign [.Subscript o i _] e _ => if nocomp e && noslice i then .setIx (cE n Γ o) (cE n Γ i) (cE n Γ e) else .stuck
    | .For tg it body [] _ => if noset it then (match tgOk Γ tg with
      | some (tt, _, is) => .for_ tt is (cI n Γ tt it) (cSs (cS n Γ) body)
      | none => .stuck) else .stuck
    | _ => .stuck
end En

set_option Elab.async false
set_option linter.all false
set_option maxRecDepth 100000
namespace En
open PySem PySem.Spec PyProof.Rows L2
structure XOk (X : Cx) (Γ : Ctx) (Φ : Str → List D → G → R D) (CX : CXT) (X0 : XK) (k : Nat) : Prop where
  x0 : X0 = E0
  N : X.N = Γ.N
  nd : X.N.Nodup
  sc : X.env.scope = Γ.sc
  calm : X.calm = true
  room : Room k X.A
  own : ∀ x, Γ.own x = true → Loc X.env.scope x ∧ (X.fn x = true ∨ X.env.scope.names.lookup x = some .local)
  glb : ∀ x d, Γ.glb.lookup x = some d → ∃ v u, X.mg x = some u ∧ RelV v u ∧ ∀ z H, Rp X.K z H v d
  blt : ∀ f : BF, X.mg f.nm = none
  bty : ∀ t : TY, X.mg (Str.ofString t.nm) = none
  bis : X.mg "isinstance" = none
  brg : X.mg "range" = none
  fns : ∀ f ps, Γ.fns.lookup f = some ps → FnAt X CX k f ps (Φ f) ∧ ∀ xs g, xs.length ≠ ps.length → Φ f xs g = .stuck
  pass : Passes CX X X0
  pn : ∀ o H s e s', CX o H s E0 e s' → False
  po : PassesOwn (model X.prog X.w) X.A X.env X.xe
theorem XOk.blk {X : Cx} {Γ : Ctx} {Φ : Str → List D → G → R D} {CX : CXT} {X0 : XK} {k : Nat} (h : XOk X Γ Φ CX X0 k) (s : Shared) (H : Hp) (scope : Scope) (cl : List (Str × Addr)) (C : Addr) (fp : List Addr) :
    XOk (X.blk s H scope (compEnvC scope cl C X.env) fp) (Γ.blk scope) Φ CX E0 k where
  x0 := rfl
  N := h.N
  nd := h.nd
  sc := by
    show relS scope X.env.scope = relS scope Γ.sc
    rw [h.sc]
  calm := h.calm
  room := h.room
  own := fun x hx => by
    have e : (X.blk s H scope (compEnvC scope cl C X.env) fp).env.scope = relS scope Γ.sc := by
      show relS scope X.env.scope = relS scope Γ.sc
      rw [h.sc]
    rw [e]
    have hx : (isLoc (relS scope Γ.sc) x || (match scope.names.lookup x, (relS scope Γ.sc).names.lookup x with | some .cell, some .cell => true | _, _ => false)) = true := hx
    rcases Bool.or_eq_true_iff.mp hx with q | q
    · exact ⟨.inl (isLoc_ok q), .inr (isLoc_ok q)⟩
    · split at q
      · next q1 q2 =>
        refine ⟨.inr q2, .inl ?_⟩
        show (scope.names.lookup x == some .cell) = true
        rw [q1]; rfl
      · cases q
  glb := h.glb
  blt := h.blt
  bty := h.bty
  bis := h.bis
  brg := h.brg
  fns := fun f ps q => ⟨⟨(h.fns f ps q).1.fn⟩, (h.fns f ps q).2⟩
  pass := fun pins σ H s e s' _ q => (h.pn _ _ _ _ _ q).elim
  pn := h.pn
  po := PassesOwn.never
def Snd (X : Cx) (X0 : XK) (Φ : Str → List D → G → R D) (e : Expr) (c : E) : Prop :=
  JE X X0 e (den Φ c false) ∧ JT X X0 e (denT Φ c) ∧ ∀ op es pos, e = .BoolOp op es pos → JW X X0 e (denT Φ c)
section
variable {X : Cx} {X0 : XK} {Φ : Str → List D → G → R D} {e : Expr} {c : E}
theorem JT.stuck : JT X X0 e (fun _ _ => .stuck) := fun _ _ _ _ _ _ ⟨_, _, _, _, l⟩ => l.elim
theorem JW.stuck : JW X X0 e (fun _ _ => .stuck) := fun _ _ _ _ _ _ _ ⟨_, _, _, _, l⟩ => l.elim
theorem snd_stuck : Snd X X0 Φ e .stuck := ⟨JE.stuck.congr fun _ _ => rfl, JT.stuck.congr fun _ _ => rfl, fun _ _ _ _ => by
  have : denT Φ .stuck = fun _ _ => .stuck := rfl
  rw [this]; exact JW.stuck⟩
def plainT : Expr → Bool
  | .UnaryOp .Not _ _ => false
  | .BoolOp _ _ _ => false
  | .IfExp _ _ _ _ => false
  | .Compare _ _ _ _ => false
  | _ => true
theorem plainT_ok (h : plainT e = true) {env : PySem.Env} : ∀ whole, isTrue e env whole = (do let v ← whole; standAt e.pos; holding [v] (truthy v)) := by
  intro whole
  cases e with
  | UnaryOp op a p => cases op <;> first | rfl | cases h
  | BoolOp _ _ _ => cases h
  | IfExp _ _ _ _ => cases h
  | Compare _ _ _ _ => cases h
  | _ => rfl
theorem snd_plain {f : Env → G → R D} (h : JE X X0 e f) (hf : ∀ ρ g, den Φ c false ρ g = f ρ g) (ht : ∀ ρ g, den Φ c true ρ g = tst true (f ρ g)) (hp : plainT e = true) : Snd X X0 Φ e c := by
  refine ⟨h.congr fun ρ g => (hf ρ g).symm, (jt_of h (plainT_ok hp)).congr fun ρ g => ?_, fun op es pos q => ?_⟩
  · show (tst true (f ρ g)).bind asB = (den Φ c true ρ g).bind fun x g => asB x g
    rw [ht]
  · subst q; cases hp
theorem bind_asB (r : R D) (k : Bool → G → R D) : ((r.bind fun x g => (asB x g).bind fun b g => k b g).bind fun x g => asB x g) = (r.bind fun x g => asB x g).bind fun b g => (k b g).bind fun x g => asB x g := by
  cases r with
  | ok x g =>
    simp only [R.bind_ok]
    cases asB x g <;> rfl
  | exc x g => rfl
  | stuck => rfl
end
end En

set_option Elab.async false
set_option linter.all false
set_option maxRecDepth 100000
namespace En
open PySem PySem.Spec PyProof.Rows L2
section
variable {Φ : Str → List D → G → R D} {CX : CXT} {k : Nat}
theorem ja_all {X : Cx} {X0 : XK} {f : Expr → E} : ∀ {es : List Expr}, es.all nostar = true → (∀ e ∈ es, JE X X0 e (den Φ (f e) false)) → JA X X0 es (dens Φ (cEs f es))
  | [], _, _ => by
    have : dens Φ (cEs f []) = fun _ g => .ok [] g := rfl
    rw [this]; exact ja_nil
  | e :: es, h, q => by
    rw [List.all_cons, Bool.and_eq_true] at h
    exact ja_cons (q e List.mem_cons_self) (ja_all h.2 fun x hx => q x (List.mem_cons_of_mem _ hx)) (star_cons h.1)
theorem nm_of {X : Cx} {Γ : Ctx} {X0 : XK} (h : XOk X Γ Φ CX X0 k) {x : Str} {i : Nat} (hs : slotOf Γ.N x = some i) (ho : Γ.own x = true) : Nm X i x :=
  ⟨h.nd, by rw [h.N]; exact slotOf_ok hs, (h.own x ho).1, (h.own x ho).2⟩
theorem nmAll_of {X : Cx} {Γ : Ctx} {X0 : XK} (h : XOk X Γ Φ CX X0 k) : ∀ {es : List Expr} {xs : List Str} {is : List Nat}, nameAll es = some xs → slotsOf Γ.N xs = some is → xs.all Γ.own = true → NmAll X is es
  | [], _, _, e1, e2, _ => by cases e1; cases e2; exact .nil
  | e :: es, _, _, e1, e2, e3 => by
    unfold nameAll at e1
    split at e1
    · next q => cases q
    · next x p r q =>
      cases q
      obtain ⟨ys, q1, q2⟩ := Option.map_eq_some_iff.mp e1
      subst q2
      unfold slotsOf at e2
      split at e2
      · next i is' h1 h2 =>
        cases e2
        rw [List.all_cons, Bool.and_eq_true] at e3
        exact .cons (nm_of h h1 e3.1) (nmAll_of h q1 h2 e3.2)
      · cases e2
    · cases e1
theorem tg_ok {X : Cx} {Γ : Ctx} {X0 : XK} (h : XOk X Γ Φ CX X0 k) {tg : Expr} {tt : Bool} {xs : List Str} {is : List Nat} (ht : tgOk Γ tg = some (tt, xs, is)) : PG X tg (LG X.K tt is) := by
  unfold tgOk at ht
  split at ht
  · cases ht
  · next tt' xs' q =>
    split at ht
    · cases ht
    · next is' q2 =>
      split at ht
      · next q3 =>
        cases ht
        unfold tgNames at q
        split at q
        · next x p =>
          cases q
          unfold slotsOf at q2
          split at q2
          · next i is2 h1 h2 =>
            cases h2
            cases q2
            simp only [List.all_cons, List.all_nil, Bool.and_true] at q3
            exact pg_one (nm_of h h1 q3)
          · cases q2
        · next es kk p =>
          obtain ⟨ys, q4, q5⟩ := Option.map_eq_some_iff.mp q
          cases q5
          exact pg_many h.calm (nmAll_of h q4 q2 q3)
        · cases q
      · cases ht
theorem tg_slots {Γ : Ctx} {tg : Expr} {tt : Bool} {xs : List Str} {is : List Nat} (ht : tgOk Γ tg = some (tt, xs, is)) : (xs.zip is).map (·.2) = is := by
  have key : ∀ (xs : List Str) (is : List Nat), slotsOf Γ.N xs = some is → xs.length = is.length := by
    intro xs
    induction xs with
    | nil => intro is e; cases e; rfl
    | cons x r ih =>
      intro is e
      unfold slotsOf at e
      split at e
      · next i is' h1 h2 => cases e; rw [List.length_cons, List.length_cons, ih _ h2]
      · cases e
  unfold tgOk at ht
  split at ht
  · cases ht
  · next tt' xs' q =>
    split at ht
    · cases ht
    · next is' q2 =>
      split at ht
      · cases ht
        have := key _ _ q2
        rw [List.map_snd_zip (by omega)]
      · cases ht
theorem snd (n : Nat) : (∀ (Γ : Ctx) (X : Cx) (X0 : XK) (e : Expr), XOk X Γ Φ CX X0 k → Snd X X0 Φ e (cE n Γ e)) ∧ (∀ (Γ : Ctx) (X : Cx) (X0 : XK) (tt : Bool) (tg e : Expr), XOk X Γ Φ CX X0 k → JI X X0 tg e (denI Φ (cI n Γ tt e))) := by
  induction n with
  | zero =>
    refine ⟨fun Γ X X0 e h => ?_, fun Γ X X0 tt tg e h => ?_⟩
    · unfold cE; exact snd_stuck
    · unfold cI; exact ji_seq JE.stuck
  | succ n ih =>
    obtain ⟨ihE, ihI⟩ := ih
    have hE : ∀ (Γ : Ctx) (X : Cx) (X0 : XK) (e : Expr), XOk X Γ Φ CX X0 k → JE X X0 e (den Φ (cE n Γ e) false) := fun Γ X X0 e h => (ihE Γ X X0 e h).1
    have hT : ∀ (Γ : Ctx) (X : Cx) (X0 : XK) (e : Expr), XOk X Γ Φ CX X0 k → JT X X0 e (denT Φ (cE n Γ e)) := fun Γ X X0 e h => (ihE Γ X X0 e h).2.1
    have hA : ∀ (Γ : Ctx) (X : Cx) (X0 : XK) (es : List Expr), XOk X Γ Φ CX X0 k → es.all nostar = true → JA X X0 es (dens Φ (cEs (cE n Γ) es)) := fun Γ X X0 es h q => ja_all q fun e _ => hE Γ X X0 e h
    refine ⟨fun Γ X X0 e h => ?_, fun Γ X X0 tt tg e h => ?_⟩
    · unfold cE
      split
      · exact snd_plain (je_lit pe_int fun _ _ => .int _) (fun _ _ => rfl) (fun _ _ => rfl) rfl
      · exact snd_plain (je_lit pe_bl fun _ _ => .bl _) (fun _ _ => rfl) (fun _ _ => rfl) rfl
      · exact snd_plain (je_lit pe_non fun _ _ => .non) (fun _ _ => rfl) (fun _ _ => rfl) rfl
      · exact snd_plain (je_lit pe_str fun _ _ => .str _) (fun _ _ => rfl) (fun _ _ => rfl) rfl
      · -- a name
        next x p =>
        split
        · exact snd_stuck
        · next hd =>
          rw [Bool.or_eq_true, not_or] at hd
          have d1 : (x == ("__debug__" : Str)) = false := by simpa using hd.1
          have d2 : (x == ("__classdict__" : Str)) = false := by simpa using hd.2
          split
          · next hv =>
            split
            · next i hi =>
              exact snd_plain (je_var (pe_var (by rw [h.N]; exact slotOf_ok hi) (by rw [h.sc]; exact isVis_ok hv) d1 d2)) (fun _ _ => rfl) (fun _ _ => rfl) rfl
            · exact snd_stuck
          · split
            · next hg =>
              split
              · next d hd =>
                obtain ⟨v, u, q1, q2, q3⟩ := h.glb x d hd
                exact snd_plain (je_lit (pe_glob (by show X.env.scope.names.lookup x = _; rw [h.sc]; exact isGl_ok hg) q1 q2 d1) q3) (fun _ _ => rfl) (fun _ _ => rfl) rfl
              · exact snd_stuck
            · exact snd_stuck
      · -- a operator b
        next a op b p =>
        split
        · next o ho =>
          rw [cBO_ok ho]
          exact snd_plain (je_bin (hE Γ X X0 a h) (hE Γ X X0 b h)) (fun _ _ => rfl) (fun _ _ => rfl) rfl
        · exact snd_stuck
      · next a p =>
        refine ⟨je_not (hE Γ X X0 a h), (jt_not (hT Γ X X0 a h)).congr fun ρ g => ?_, fun _ _ _ q => by cases q⟩
        exact (bind_asB (den Φ (cE n Γ a) true ρ g) fun k g => .ok (.b (!k)) g).symm
      · next a p => exact snd_plain (je_neg (hE Γ X X0 a h)) (fun _ _ => rfl) (fun _ _ => rfl) rfl
      · -- and
        next a b r p =>
        have q := ihE Γ X X0 (.BoolOp .And (b :: r) p) h
        have w : JW X X0 (.BoolOp .And (a :: b :: r) p) (denT Φ (.and_ (cE n Γ a) (cE n Γ (.BoolOp .And (b :: r) p)))) := by
          have w0 := jw_and (pos := p) (hT Γ X X0 a h) (q.2.2 _ _ _ rfl)
          have e : denT Φ (.and_ (cE n Γ a) (cE n Γ (.BoolOp .And (b :: r) p))) = fun ρ g => (denT Φ (cE n Γ a) ρ g).bind fun k g => if k then denT Φ (cE n Γ (.BoolOp .And (b :: r) p)) ρ g else .ok false g := by
            funext ρ g
            refine (bind_asB (den Φ (cE n Γ a) true ρ g) fun k g => if k then den Φ (cE n Γ (.BoolOp .And (b :: r) p)) true ρ g else .ok (.b false) g).trans ?_
            show _ = R.bind (R.bind _ _) _
            congr 1
            funext k g
            cases k <;> rfl
          rw [e]; exact w0
        exact ⟨je_and (hE Γ X X0 a h) q.1, PW.pt w, fun _ _ _ _ => w⟩
      · -- or
        next a b r p =>
        have q := ihE Γ X X0 (.BoolOp .Or (b :: r) p) h
        have w : JW X X0 (.BoolOp .Or (a :: b :: r) p) (denT Φ (.or_ (cE n Γ a) (cE n Γ (.BoolOp .Or (b :: r) p)))) := by
          have w0 := jw_or (pos := p) (hT Γ X X0 a h) (q.2.2 _ _ _ rfl)
          have e : denT Φ (.or_ (cE n Γ a) (cE n Γ (.BoolOp .Or (b :: r) p))) = fun ρ g => (denT Φ (cE n Γ a) ρ g).bind fun k g => if k then .ok true g else denT Φ (cE n Γ (.BoolOp .Or (b :: r) p)) ρ g := by
            funext ρ g
            refine (bind_asB (den Φ (cE n Γ a) true ρ g) fun k g => if k then .ok (.b true) g else den Φ (cE n Γ (.BoolOp .Or (b :: r) p)) true ρ g).trans ?_
            show _ = R.bind (R.bind _ _) _
            congr 1
            funext k g
            cases k <;> rfl
          rw [e]; exact w0
        exact ⟨je_or (hE Γ X X0 a h) q.1, PW.pt w, fun _ _ _ _ => w⟩
      · -- one
        next op a p =>
        have q := ihE Γ X X0 a h
        have w : JW X X0 (.BoolOp op [a] p) (denT Φ (cE n Γ a)) := by
          cases op with
          | And => exact pw_and1 q.2.1
          | Or => exact pw_or1 q.2.1
        exact ⟨pe_one q.1, PW.pt w, fun _ _ _ _ => w⟩
      · next a op b p =>
        split
        · next o ho =>
          obtain ⟨h1, h2⟩ := cCO_ok ho
          rw [h1]
          obtain ⟨q1, q2⟩ := je_cmp (pos := p) h.room h2 (hE Γ X X0 a h) (hE Γ X X0 b h)
          exact ⟨q1, q2, fun _ _ _ q => by cases q⟩
        · exact snd_stuck
      · next a op op' b c p =>
        split
        · next o o' ho ho' =>
          obtain ⟨h1, h2⟩ := cCO_ok ho
          obtain ⟨h1', h2'⟩ := cCO_ok ho'
          rw [h1, h1']
          obtain ⟨q1, q2⟩ := je_chain (pos := p) h.room h2 h2' (hE Γ X X0 a h) (hE Γ X X0 b h) (hE Γ X X0 c h)
          exact ⟨q1, q2, fun _ _ _ q => by cases q⟩
        · exact snd_stuck
      · next c a b p =>
        refine ⟨(je_ite (hT Γ X X0 c h) (hE Γ X X0 a h) (hE Γ X X0 b h)).congr fun ρ g => ?_, (jt_ite (hT Γ X X0 c h) (hT Γ X X0 a h) (hT Γ X X0 b h)).congr fun ρ g => ?_, fun _ _ _ q => by cases q⟩
        · show R.bind (R.bind _ _) _ = R.bind _ _
          cases den Φ (cE n Γ c) true ρ g <;> rfl
        · show R.bind (R.bind _ _) _ = R.bind (R.bind _ _) _
          refine (?_ : _ = _).trans (bind_asB (den Φ (cE n Γ c) true ρ g) fun k g => if k then den Φ (cE n Γ a) true ρ g else den Φ (cE n Γ b) true ρ g).symm
          congr 1
          funext k g
          cases k <;> rfl
      · next es kk p =>
        split
        · next hs => exact snd_plain (je_tup (hA Γ X X0 es h hs)) (fun _ _ => rfl) (fun _ _ => rfl) rfl
        · exact snd_stuck
      · next es p =>
        split
        · next hs => exact snd_plain (je_lst (hA Γ X X0 es h hs)) (fun _ _ => rfl) (fun _ _ => rfl) rfl
        · exact snd_stuck
      · exact snd_plain je_dct0 (fun _ _ => rfl) (fun _ _ => rfl) rfl
      · next x _ _ i _ _ p =>
        exact snd_plain (je_dct1 (key := .inr x) (d := .int i) (vv := .int i) pe_str pe_int rfl fun _ _ => .int i) (fun _ _ => rfl) (fun _ _ => rfl) rfl
      · next a lo hi p2 p =>
        refine snd_plain (je_sl (flo := denO Φ (cOp (cE n Γ) lo)) (fhi := denO Φ (cOp (cE n Γ) hi)) (hE Γ X X0 a h) ?_ ?_) (fun _ _ => rfl) (fun _ _ => rfl) rfl
        · cases lo with
          | none => exact jo_none
          | some e => exact jo_some (hE Γ X X0 e h)
        · cases hi with
          | none => exact jo_none
          | some e => exact jo_some (hE Γ X X0 e h)
      · exact snd_plain (je_rev (hE Γ X X0 _ h)) (fun _ _ => rfl) (fun _ _ => rfl) rfl
      · split
        · next hs => exact snd_plain (je_ix (hE Γ X X0 _ h) (hE Γ X X0 _ h) (noslice_ok hs)) (fun _ _ => rfl) (fun _ _ => rfl) rfl
        · exact snd_stuck
      · -- a call
        next f p es pos =>
        split
        · exact snd_stuck
        · next hc =>
          simp only [Bool.or_eq_true, not_or, Bool.not_eq_true', Bool.not_eq_true, Bool.not_eq_false'] at hc
          obtain ⟨⟨c1, c2⟩, c3⟩ := hc
          have c1 : isGl Γ.sc f = true := by simpa using c1
          have c2 : es.all nostar = true := by simpa using c2
          have gl : Gl X f := by show X.env.scope.names.lookup f = _; rw [h.sc]; exact isGl_ok c1
          split
          · next hi =>
            have hi : f = "isinstance" := by simpa using hi
            subst hi
            split
            · next a t p2 =>
              split
              · next ty ht =>
                split
                · next hg2 =>
                  have e := cTY_ok ht
                  subst e
                  have gl2 : Gl X (Str.ofString ty.nm) := by show X.env.scope.names.lookup _ = _; rw [h.sc]; exact isGl_ok hg2
                  refine snd_plain (je_isi gl h.bis gl2 (h.bty ty) (hE Γ X X0 _ h) ?_) (fun _ _ => rfl) (fun _ _ => rfl) rfl
                  rw [List.all_cons, Bool.and_eq_true] at c2
                  exact c2.1
                · exact snd_stuck
              · exact snd_stuck
            · exact snd_stuck
          · split
            · next bf hb =>
              have e := cBF_ok hb
              subst e
              split
              · exact snd_stuck
              · next hne =>
                cases es with
                | nil => exact absurd rfl hne
                | cons e es => exact snd_plain (je_bf h.room h.calm gl (h.blt bf) (hA Γ X X0 _ h c2) c2) (fun _ _ => rfl) (fun _ _ => rfl) rfl
            · split
              · next hf =>
                obtain ⟨ps, hps⟩ := Option.isSome_iff_exists.mp hf
                obtain ⟨F, hn⟩ := h.fns f ps hps
                cases es with
                | nil => exact snd_plain (je_call0 h.x0 F h.room gl h.pass c3 hn) (fun _ _ => rfl) (fun _ _ => rfl) rfl
                | cons e es => exact snd_plain (je_call h.x0 F h.room gl h.pass c3 (hA Γ X X0 _ h c2) c2 hn) (fun _ _ => rfl) (fun _ _ => rfl) rfl
              · exact snd_stuck
      · -- a comprehension
        next elt tg it ifs scope pos =>
        split
        · next tt xs is ht =>
          split
          · next hb =>
            rw [Bool.and_eq_true] at hb
            have ok : BlkOk X.N X.env.scope scope (xs.zip is) := by rw [h.N, h.sc]; exact blkOk_by hb.1
            have hg := fun (s : Shared) (H : Hp) (C : Addr) (cl : List (Str × Addr)) (fp : List Addr) => tg_ok (h.blk s H scope cl C fp) ht
            have he := fun (s : Shared) (H : Hp) (C : Addr) (cl : List (Str × Addr)) (fp : List Addr) => hE (Γ.blk scope) _ E0 elt (h.blk s H scope cl C fp)
            split
            · exact snd_plain (je_comp (fc := fun _ g => .ok true g) h.calm h.nd (ihI Γ X X0 tt tg it h) ok (tg_slots ht) hg (fun s H C cl fp => fun pins s' σ H' Q I ⟨z, ρ, g, sm, l⟩ => pts_nil pins s' σ H' Q I (l.ok sm.sg rfl)) he (noset_ok hb.2)) (fun _ _ => rfl) (fun _ _ => rfl) rfl
            · next c => exact snd_plain (je_comp h.calm h.nd (ihI Γ X X0 tt tg it h) ok (tg_slots ht) hg (fun s H C cl fp => pts_one (hT (Γ.blk scope) _ E0 c (h.blk s H scope cl C fp))) he (noset_ok hb.2)) (fun _ _ => rfl) (fun _ _ => rfl) rfl
            · exact snd_stuck
          · exact snd_stuck
        · exact snd_stuck
      · exact snd_stuck
    · unfold cI
      split
      · next f p a pos =>
        split
        · next hc =>
          simp only [Bool.and_eq_true] at hc
          have hf : f = "range" := by simpa using hc.2
          subst hf
          exact ji_rng (by show X.env.scope.names.lookup _ = _; rw [h.sc]; exact isGl_ok hc.1.1) h.brg (hE Γ X X0 a h) hc.1.2
        · exact ji_seq (hE Γ X X0 _ h)
      · next f p a b pos =>
        split
        · next hc =>
          simp only [Bool.and_eq_true] at hc
          have hf : f = "range" := by simpa using hc.2
          subst hf
          exact ji_rng2 (by show X.env.scope.names.lookup _ = _; rw [h.sc]; exact isGl_ok hc.1.1.1) h.brg (hE Γ X X0 a h) (hE Γ X X0 b h) hc.1.1.2 hc.1.2
        · exact ji_seq (hE Γ X X0 _ h)
      · exact ji_seq (hE Γ X X0 _ h)
end
end En

set_option Elab.async false
set_option linter.all false
set_option maxRecDepth 100000
namespace En
open PySem PySem.Spec PyProof.Rows L2
section
variable {Φ : Str → List D → G → R D} {CX : CXT} {k : Nat}
theorem JS.stuck {X : Cx} {X0 : XK} {s : Stmt} : JS X X0 s (fun _ _ => .stuck) := fun _ _ _ _ _ _ ⟨_, _, _, _, l⟩ => l.elim
theorem jss_all {X : Cx} {X0 : XK} {f : Stmt → S} : ∀ {ss : List Stmt}, (∀ s, JS X X0 s (denS Φ (f s))) → JSs X X0 ss (denS Φ (cSs f ss))
  | [], _ => jss_nil
  | s :: ss, h => jss_cons (h s) (jss_all h)
theorem sw_cell {elt : Expr} {gs : List Comprehension} {scope : Scope} {pos py : Pos} {y : Str} {l : Nat} {env : PySem.Env} (hy : isLoc env.scope y = false) : swapsWith (.ListComp elt gs scope pos) (some (.Name y py)) l env = pure false := by
  have ky : (env.kindOf y == some .local) = false := by
    show (env.scope.names.lookup y == some .local) = false
    unfold isLoc at hy
    cases q : env.scope.names.lookup y with
    | none => rfl
    | some kd =>
      rw [q] at hy
      cases kd <;> first | rfl | cases hy
  unfold swapsWith
  simp only [ky]
  simp
theorem par_sw {env : PySem.Env} {x y : Str} {px py pt pt2 : Pos} {kt k2 : Nat} {a b : Expr} (hk : env.scope.kind = .function) (hx : env.scope.names.lookup x = some .local) (hy : env.scope.names.lookup y = some .local) (hne : x ≠ y) (hl : (py.line == px.line) = true) (ha : nostar a = true) (hb : nostar b = true)
    (h1 : ([a, b].all (foldedForSure 8)) = false) (h2 : ([a, b].all (constantsAlone 8)) = false) : swappedStores [.Tuple [.Name x px, .Name y py] kt pt] (.Tuple [a, b] k2 pt2) env = pure (some [x, y]) := by
  have kx : env.kindOf x = some .local := hx
  have ky : env.kindOf y = some .local := hy
  have hbk : env.blockKind = .function := by unfold Env.blockKind; rw [hk]; rfl
  have one : ∀ c : Expr, nostar c = true → (match c with | .Starred .. => true | _ => false) = false := fun c hc => by
    cases c <;> first | rfl | exact absurd hc Bool.false_ne_true
  have hl' : py.line = px.line := by simpa using hl
  have h1' : ¬ (foldedForSure 8 a = true ∧ foldedForSure 8 b = true) := by simpa using h1
  have h2' : ¬ (constantsAlone 8 a = true ∧ constantsAlone 8 b = true) := by simpa using h2
  have ed : ([x, y] : List Str).eraseDups.length = 2 := by
    simp [List.eraseDups_cons, hne, Ne.symm hne]
  unfold swappedStores
  simp only [List.length_cons, List.length_nil, hbk]
  simp [kx, ky, Expr.pos, hl', ed, hne, one a ha, one b hb, h1', h2']
  intro q
  rcases q with q | q
  · exact absurd (q.symm.trans (one a ha)) (by decide)
  · exact absurd (q.symm.trans (one b hb)) (by decide)
theorem setLc_ok {X : Cx} {X0 : XK} {Γ : Ctx} (h : XOk X Γ Φ CX X0 k) {i : Nat} {y : Str} {py lp spos : Pos} {elt : Expr} {gs : List Comprehension} {scope : Scope} (hy : X.N[i]? = some y) (hyl : X.env.scope.names.lookup y = some .local)
    (hsw : swapsWith (.ListComp elt gs scope lp) (some (.Name y py)) spos.line X.env = pure true) (n : Nat) : JS X X0 (.Assign [.Name y py] (.ListComp elt gs scope lp) spos) (denS Φ (.asg false [i] (cE n Γ (.ListComp elt gs scope lp)))) := by
  have st : JS X X0 (.Assign [.Name y py] (.ListComp elt gs scope lp) spos) (denS Φ (.asg false [i] .stuck)) := JS.stuck
  cases n with
  | zero => unfold cE; exact st
  | succ n =>
    unfold cE
    split
    all_goals first
      | contradiction
      | exact st
      | skip
    rename_i q
    cases q
    split
    · next tt xs is ht =>
      split
      · next hb =>
        rw [Bool.and_eq_true] at hb
        have ok : BlkOk X.N X.env.scope scope (xs.zip is) := by rw [h.N, h.sc]; exact blkOk_by hb.1
        have he := fun (s : Shared) (H : Hp) (C : Addr) (cl : List (Str × Addr)) (fp : List Addr) => ((snd n).1 (Γ.blk scope) _ E0 elt (h.blk s H scope cl C fp)).1
        split
        · exact js_setLc (fk := fun _ g => .ok true g) h.calm h.nd hy hyl hsw ((snd n).2 Γ X X0 tt _ _ h) ok (tg_slots ht) (fun s H C cl fp => tg_ok (h.blk s H scope cl C fp) ht) (fun s H C cl fp => fun pins s' σ H' Q I ⟨z, ρ, g, sm, l⟩ => pts_nil pins s' σ H' Q I (l.ok sm.sg rfl)) he (noset_ok hb.2)
        · next c => exact js_setLc h.calm h.nd hy hyl hsw ((snd n).2 Γ X X0 tt _ _ h) ok (tg_slots ht) (fun s H C cl fp => tg_ok (h.blk s H scope cl C fp) ht) (fun s H C cl fp => pts_one ((snd n).1 (Γ.blk scope) _ E0 c (h.blk s H scope cl C fp)).2.1) he (noset_ok hb.2)
        · exact st
      · exact st
    · exact st
theorem sndS (n : Nat) : ∀ (Γ : Ctx) (X : Cx) (X0 : XK) (s : Stmt), XOk X Γ Φ CX X0 k → JS X X0 s (denS Φ (cS n Γ s)) := by
  induction n with
  | zero => intro Γ X X0 s h; unfold cS; exact JS.stuck
  | succ n ih =>
    intro Γ X X0 s h
    have hE : ∀ e : Expr, JE X X0 e (den Φ (cE n Γ e) false) := fun e => ((snd n).1 Γ X X0 e h).1
    have hT : ∀ e : Expr, JT X X0 e (denT Φ (cE n Γ e)) := fun e => ((snd n).1 Γ X X0 e h).2.1
    have hI : ∀ (tt : Bool) (tg e : Expr), JI X X0 tg e (denI Φ (cI n Γ tt e)) := fun tt tg e => (snd n).2 Γ X X0 tt tg e h
    have hS : ∀ ss : List Stmt, JSs X X0 ss (denS Φ (cSs (cS n Γ) ss)) := fun ss => jss_all fun s => ih Γ X X0 s h
    unfold cS
    split
    · exact js_ret (hE _)
    · exact js_retN
    · exact js_pass
    · exact js_break
    · exact js_continue
    · exact js_if (hT _) (hS _) (hS _)
    · split
      · next hc =>
        simp only [Bool.and_eq_true] at hc
        have e := eq_of_beq hc.1.1
        subst e
        exact js_app (hE _) (hE _) hc.1.2 rfl hc.2 (nocomp_ok _ _ _ rfl)
      · exact JS.stuck
    · split
      · next hc => exact js_expr (hE _) (nocomp_ok _ _ _ hc)
      · exact JS.stuck
    · next x p' e pos =>
      split
      · next ho =>
        split
        · next i hi =>
          have nm := nm_of h hi ho
          split
          · next hc => exact js_set nm (hE _) (nocomp_ok _ _ _ hc)
          · split
            · split
              · next hk =>
                have hk : X.env.scope.kind = .function := by rw [h.sc]; exact of_decide_eq_true hk
                split
                · next hl =>
                  split
                  · next hc =>
                    rw [Bool.and_eq_true] at hc
                    have hyl : X.env.scope.names.lookup x = some .local := by rw [h.sc]; exact isLoc_ok hl
                    exact setLc_ok h nm.ix hyl (sw_true hk hyl hc.1 (by simpa using hc.2)) n
                  · exact JS.stuck
                · next hl =>
                  have hl : isLoc X.env.scope x = false := by rw [h.sc]; simpa using hl
                  exact js_set nm (hE _) (sw_cell hl)
              · exact JS.stuck
            · exact JS.stuck
        · exact JS.stuck
      · exact JS.stuck
    · next x px y py _ _ a b _ _ _ =>
      split
      · next hc =>
        unfold parOk at hc
        simp only [Bool.and_eq_true, Bool.not_eq_true', decide_eq_true_eq] at hc
        obtain ⟨⟨⟨⟨⟨⟨⟨⟨c1, c2⟩, c3⟩, c4⟩, c5⟩, c6⟩, c7⟩, c8⟩, c9⟩ := hc
        split
        · next i j hi hj =>
          have lx : X.env.scope.names.lookup x = some .local := by rw [h.sc]; exact isLoc_ok c1
          have ly : X.env.scope.names.lookup y = some .local := by rw [h.sc]; exact isLoc_ok c2
          have hij : i ≠ j := fun e => by
            subst e
            have q1 := slotOf_ok hi
            rw [slotOf_ok hj] at q1
            exact c3 (Option.some.inj q1).symm
          exact js_par h.calm h.nd (by rw [h.N]; exact slotOf_ok hi) (by rw [h.N]; exact slotOf_ok hj) hij lx ly (hE a) (hE b) c5 c6 (par_sw (by rw [h.sc]; exact c9) lx ly c3 c4 c5 c6 c7 c8)
        · exact JS.stuck
      · exact JS.stuck
    · next es kk p e pos _ =>
      split
      · exact JS.stuck
      · next hnt =>
        split
        · next hc =>
          split
          · next tt xs is ht =>
            refine js_asg (hE _) (tg_ok h ht) (by unfold swapsWithSole; exact nocomp_ok _ _ _ hc) ?_ rfl
            cases e <;> first | rfl | exact absurd rfl (hnt _ _ _)
          · exact JS.stuck
        · exact JS.stuck
    · next o i p e pos =>
      split
      · next hc =>
        rw [Bool.and_eq_true] at hc
        refine js_setIx (hE e) (hE o) (hE i) ?_ (by unfold swapsWithSole; exact nocomp_ok _ _ _ hc.1) (by cases e <;> rfl)
        intro v
        have hi := hc.2
        cases i <;> first | rfl | exact absurd hi Bool.false_ne_true
      · exact JS.stuck
    · next tg it body pos =>
      split
      · next hc =>
        split
        · next tt xs is ht => exact js_for h.po h.calm (hI _ _ _) (tg_ok h ht) (hS _) (noset_ok hc)
        · exact JS.stuck
      · exact JS.stuck
    · exact JS.stuck
end
end En

set_option Elab.async false
set_option linter.all false
set_option maxRecDepth 100000
namespace En
open PySem PySem.Spec PyProof.Rows L2
/-! ## the defs of a text -/
structure Def where
  name : Str
  st : Stmt
  N : List Str
  ps : List Str
structure Prog where
  defs : List Def
  glb : List (Str × PyData)
  mu : List (Nat × Nat)
def Prog.fns (p : Prog) : List (Str × List Str) := p.defs.map fun d => (d.name, d.ps)
def Prog.ctx (p : Prog) (d : Def) : Ctx where
  N := d.N
  sc := defScope d.st
  own := fun x => match (defScope d.st).names.lookup x with
    | some .local => true
    | some .cell => true
    | _ => false
  glb := p.glb
  fns := p.fns
  mu := p.mu
def fuel : Nat := 40
def Prog.ent (p : Prog) (d : Def) : Ent := ⟨d.ps, d.N.length, cSs (cS fuel (p.ctx d)) (defBody d.st)⟩
def Prog.tab (p : Prog) : List (Str × Ent) := p.defs.map fun d => (d.name, p.ent d)
/-- what the top has made of the text -/
structure ModOk (p : Prog) (K : PySem.W.Frag) (mg : Str → Option Value) : Prop where
  nd : (p.defs.map (·.name)).Nodup
  fns : ∀ d ∈ p.defs, ∃ (a : Addr) (fd : FuncData), Fun K d.name d.name d.st a fd ∧ Binds K fd d.ps [] ∧ mg d.name = some (.ref a) ∧ FnScope d.N d.ps (defScope d.st)
  glb : ∀ x d, p.glb.lookup x = some d → ∃ v u, mg x = some u ∧ RelV v u ∧ ∀ z H, Rp K z H v d
  blt : ∀ f : BF, mg f.nm = none
  bty : ∀ t : TY, mg (Str.ofString t.nm) = none
  bis : mg "isinstance" = none
  brg : mg "range" = none
theorem lookup_map {α β γ : Type} [BEq α] [LawfulBEq α] (f : γ → α) (h : γ → β) : ∀ (l : List γ) (x : α) (y : β), (l.map fun d => (f d, h d)).lookup x = some y → ∃ d ∈ l, f d = x ∧ h d = y
  | [], x, y, e => by cases e
  | d :: l, x, y, e => by
    rw [List.map_cons, List.lookup_cons] at e
    by_cases q : x == f d
    · rw [q] at e
      exact ⟨d, List.mem_cons_self, (eq_of_beq q).symm, Option.some.inj e⟩
    · have q : (x == f d) = false := by simpa using q
      rw [q] at e
      obtain ⟨d', m, r⟩ := lookup_map f h l x y e
      exact ⟨d', List.mem_cons_of_mem _ m, r⟩
theorem map_lookup {α β γ : Type} [BEq α] [LawfulBEq α] (f : γ → α) (h : γ → β) : ∀ (l : List γ), (l.map f).Nodup → ∀ d ∈ l, (l.map fun d => (f d, h d)).lookup (f d) = some (h d)
  | [], _, d, m => nomatch m
  | c :: l, nd, d, m => by
    rw [List.map_cons, List.nodup_cons] at nd
    rw [List.map_cons, List.lookup_cons]
    rcases List.mem_cons.mp m with rfl | m
    · simp
    · have q : (f d == f c) = false := by
        apply beq_eq_false_iff_ne.mpr
        intro e
        exact nd.1 (by rw [← e]; exact List.mem_map.mpr ⟨d, m, rfl⟩)
      rw [q]
      exact map_lookup f h l nd.2 d m
section
variable {P : Program} {w : World} {K : PySem.W.Frag} {mg : Str → Option Value} {base : Heap} {p : Prog}
theorem fn_stuck {T : List (Str × Ent)} {k : Nat} {f : Str} {e : Ent} (he : T.lookup f = some e) {xs : List D} {g : G} (hl : xs.length ≠ e.ps.length) : Fn T k f xs g = .stuck := by
  cases k with
  | zero => rfl
  | succ k =>
    unfold Fn
    rw [he]
    simp only
    rw [if_neg hl]
theorem rpds_start {z : Ad} {H : Hp} {vs : List V} {ds : List D} {N : List Str} {g : G} (sg : SG K z H g) (r : RpDs K z H vs ds) : Sim K z H (L2.start N vs) (startD N.length ds) g := by
  have hl := rpds_len r
  refine ⟨fun i d h => ?_, ?_, sg⟩
  · unfold startD at h
    by_cases hi : i < ds.length
    · rw [List.getElem?_append_left (by simpa using hi), List.getElem?_map] at h
      obtain ⟨d', q1, q2⟩ := Option.map_eq_some_iff.mp h
      cases q2
      obtain ⟨v, q3, q4⟩ := RpDs.get r q1
      refine ⟨v, ?_, q4⟩
      unfold L2.start
      rw [List.getElem?_append_left (by rw [List.length_map]; omega), List.getElem?_map, q3]; rfl
    · rw [List.getElem?_append_right (by simpa using hi), List.getElem?_replicate] at h
      split at h <;> cases h
  · unfold L2.start startD
    rw [List.length_append, List.length_append, List.length_map, List.length_map, List.length_replicate, List.length_replicate, hl]
theorem ls_fn {z : Ad} {H : Hp} {r : SR} {Q : VK} (l : Lf K mg E0 (RpD K) z H (fnR r) Q) : Ls K mg E0 z H r { nx := fun _ H' => Q .non H', rt := Q } := by
  cases r with
  | nx ρ g => exact fun m' H' σ' a b => l m' H' .non a b.sg .non
  | rt d g => exact l
  | bk ρ g => exact l.elim
  | ct ρ g => exact l.elim
  | exc x g => exact l
  | stuck => exact l
theorem fns_ok (M : ModOk p K mg) : ∀ (k : Nat) (d : Def), d ∈ p.defs → ∀ (a : Addr) (fd : FuncData), Fun K d.name d.name d.st a fd → mg d.name = some (.ref a) → FnScope d.N d.ps (defScope d.st) →
    FnOk P w K mg base CX0 k a fd d.ps (spF K mg d.ps.length (Fn p.tab k d.name)) := by
  intro k
  induction k with
  | zero =>
    intro d hd a fd F hm S
    exact ⟨fun vs H Q E h => h.1, fun A outer s H args us vs Q E _ _ _ _ h => by obtain ⟨_, _, _, _, _, _, l⟩ := h; exact l.elim⟩
  | succ k ih =>
    intro d hd a fd F hm S
    have hlk : p.tab.lookup d.name = some (p.ent d) := map_lookup (fun d : Def => d.name) p.ent p.defs M.nd d hd
    refine F.ok S (fun vs H Q E h => h.1) fun cdv A outer s H vs Q E hr h => ?_
    obtain ⟨hvl, z, ds, g, r, sg, l⟩ := h
    have hdl : ds.length = d.ps.length := by rw [← rpds_len r]; exact hvl
    refine ⟨LS K mg E0 (denS (Fn p.tab k) (p.ent d).body), jss_all fun st => sndS (k := k) (CX := CX0) fuel (p.ctx d) _ E0 st ?_, z, startD d.N.length ds, g, rpds_start sg r, ls_fn ?_⟩
    · exact
      { x0 := rfl
        N := rfl
        nd := S.nd
        sc := rfl
        calm := rfl
        room := hr
        own := fun x hx => by
          have hx : (match (defScope d.st).names.lookup x with | some .local => true | some .cell => true | _ => false) = true := hx
          refine ⟨?_, .inl rfl⟩
          split at hx
          · next q => exact .inl q
          · next q => exact .inr q
          · cases hx
        glb := M.glb
        blt := M.blt
        bty := M.bty
        bis := M.bis
        brg := M.brg
        fns := fun f ps q => by
          obtain ⟨d', m, e1, e2⟩ := lookup_map (fun d : Def => d.name) (fun d : Def => d.ps) p.defs f ps q
          subst e1 e2
          obtain ⟨a', fd', F', b', m', S'⟩ := M.fns d' m
          exact ⟨⟨a', fd', m', F'.kp, b', ih d' m a' fd' F' m' S'⟩, fun xs g hl => fn_stuck (show p.tab.lookup d'.name = some (p.ent d') from map_lookup (fun d : Def => d.name) p.ent p.defs M.nd d' m) hl⟩
        pass := pass0
        pn := fun _ _ _ _ _ q => q
        po := PassesOwn.never }
    · have e : Fn p.tab (k + 1) d.name ds g = fnR (denS (Fn p.tab k) (p.ent d).body (startD d.N.length ds) g) := by
        show (match p.tab.lookup d.name with | none => R.stuck | some e => _) = _
        rw [hlk]
        simp only
        rw [if_pos (show ds.length = (p.ent d).ps.length from hdl)]
        rfl
      rw [e] at l
      exact l
/-- THE END: a law whose run by plain data gives True keeps its word -/
theorem walk_law {l : PySem.W.OpenLaw} {q : Program} {loose : List Str} {XP : (Str → Option Value) → Heap → Prop} {YP : World → Heap → Prop} {d : DefRec} {KP : Params → PySem.W.Frag} {p : Prog} {dl : Def} (k : Nat)
    (hn : l.most = some 63) (hdf : d.params.defaults = []) (hr : Room k callerA) (hY : ∀ (w : World) (h : Heap), YP w h → (KP w.params).In h) (hdl : dl ∈ p.defs) (hname : d.name = dl.name) (hps : ∃ x, dl.ps = [x])
    (F : ∀ (w : World) (mg : Str → Option Value) (h : Heap), (KP w.params).In h → h.Ns mainGlobals mg → ModOk p (KP w.params) mg)
    (B : ∀ (K : PySem.W.Frag) (a : Addr) (fd : FuncData), Fun K dl.name dl.name dl.st a fd → ∀ (s : Shared) (u : Value), BindsTo s fd ⟨[u], []⟩ (dl.ps.zip [u]))
    (T : ∀ ns : List Int, ns.length ≤ 63 → ∃ g, Fn p.tab k dl.name [.kl (ns.map .int)] [] = .ok (.p (.bool true)) g) :
    PySem.W.WalkO q loose XP YP l.row.toRowW d [] (fun f vs => PySem.call f vs) := by
  obtain ⟨x, hps⟩ := hps
  refine L2.walk_ofK (n := 63) (k := k) (x := x) (CX := CX0) (sp := fun K => fun vs H Q E => vs.length = 1 ∧ ∃ z ds g v g', RpDs K z H vs ds ∧ SG K z H g ∧ Fn p.tab k dl.name ds g = .ok v g' ∧ ∀ m' H' u, Ext z H m' H' → SG K m' H' g' → RpD K m' H' u v → Q u H') hn (by decide) hdf hr hY ?_ ?_ ?_
  · intro w mg fa h KX G hmg
    have M := F w mg h KX G
    obtain ⟨a, fd, F1, b1, m1, S1⟩ := M.fns dl hdl
    rw [hname, m1] at hmg
    cases hmg
    refine ⟨fd, fun s u => by have := B _ fa fd F1 s u; rw [hps] at this; exact this, fun base kb nb => ?_⟩
    have G1 := fns_ok (P := l.prog) (w := w) (base := base) M k dl hdl fa fd F1 m1 S1
    rw [hps] at G1
    refine G1.imp fun vs H Q E h => ?_
    obtain ⟨h1, z, ds, g, v, g', r, sg, hf, l⟩ := h
    refine ⟨h1, z, ds, g, r, sg, ?_⟩
    rw [hf]
    exact l
  · intro K H a ns hl hO hS
    obtain ⟨g, e⟩ := T ns hl
    refine ⟨rfl, ⟨[], []⟩, [.kl (ns.map .int)], [], _, g, .cons ⟨a, ns.map V.int, rfl, ?_, ?_⟩ .nil, ⟨rfl, List.nodup_nil, fun n a o h => by simp at h, (fun _ h => nomatch h), fun _ h => nomatch h⟩, e, fun m' H' v _ _ r => rp_bool r⟩
    · rcases hS with h | h
      · exact .inl ⟨⟨(fun m => nomatch m), fun m => nomatch m⟩, h⟩
      · exact .inr h
    · clear hS hl e
      induction ns with
      | nil => exact .nil
      | cons n ns ih => exact .cons (.int n) ih
  · intro H s e s' h
    exact h
end
end En

set_option Elab.async false
set_option linter.all false
set_option maxRecDepth 100000
namespace En
open PySem PySem.Spec PyProof.Rows L2
theorem fn_at {T : List (Str × Ent)} {f : Str} {ps : List Str} {n m : Nat} {b : S} (h : T.lookup f = some ⟨ps, n, b⟩) {k : Nat} {ds : List D} {g : G} (hl : ds.length = m) (hp : ps.length = m := by rfl) : Fn T (k + 1) f ds g = fnR (denS (Fn T k) b (startD n ds) g) := by
  unfold Fn
  rw [h]
  simp only
  rw [if_pos (hl.trans hp.symm)]
/-! ## what the top has written -/
section
variable {K : PySem.W.Frag} {mg : Str → Option Value} {h : Heap}
theorem def_at (d : Def) (X : K.In h) (G : h.Ns mainGlobals mg) {f : Addr} {od an : Option Addr} {sl : Array (Option Value)} {oc kV dc pm cd ct : Value} (a1 : PySem.W.nsIn K mainGlobals d.name = some (some (.ref f)))
    (l1 : K.lookup f = some ⟨oc, od, .func (PySem.W.fnOf d.name d.name (defArgs d.st) (defBody d.st) (defScope d.st) .none kV dc pm an cd ct), sl⟩) (c1 : PySem.W.codeIn K cd d.name = true) (k1 : PySem.W.keepIn K (.ref f) = true) (S : FnScope d.N d.ps (defScope d.st))
    (B : ∀ (kV doc pm : Value) (an : Option Addr) (cdv ct : Value) (us : List Value), us.length = d.ps.length → bindArgs (PySem.W.fnOf d.name d.name (defArgs d.st) (defBody d.st) (defScope d.st) .none kV doc pm an cdv ct) ⟨us, []⟩ = pure (d.ps.zip us)) :
    ∃ (a : Addr) (fd : FuncData), Fun K d.name d.name d.st a fd ∧ Binds K fd d.ps [] ∧ mg d.name = some (.ref a) ∧ FnScope d.N d.ps (defScope d.st) := by
  have F := fun_mk (st := d.st) l1 c1 k1
  exact ⟨f, _, F, F.binds B, PySem.W.mg_of X G a1, S⟩
theorem glb_int {x : Str} {i : Int} {t : Tok} (X : K.In h) (G : h.Ns mainGlobals mg) (a : PySem.W.nsIn K mainGlobals x = some (some (.int i t))) : ∃ v u, mg x = some u ∧ RelV v u ∧ ∀ z H, Rp K z H v (.int i) :=
  ⟨.int i, _, PySem.W.mg_of X G a, ⟨t, rfl⟩, fun _ _ => .int i⟩
theorem all_cons {α : Type} {P : α → Prop} {a : α} {l : List α} (h : P a) (t : ∀ x ∈ l, P x) : ∀ x ∈ a :: l, P x := fun x m => (List.mem_cons.mp m).elim (fun e => by rw [e]; exact h) (t x)
theorem all_nil {α : Type} {P : α → Prop} : ∀ x ∈ ([] : List α), P x := fun _ m => nomatch m
theorem glb_cons {y : Str} {e : PyData} {l : List (Str × PyData)} {Q : Str → PyData → Prop} (h : Q y e) (t : ∀ x d, l.lookup x = some d → Q x d) : ∀ x d, List.lookup x ((y, e) :: l) = some d → Q x d := fun x d q => by
  rw [List.lookup_cons] at q
  by_cases hx : x == y
  · rw [hx] at q
    cases q
    rw [eq_of_beq hx]; exact h
  · have hx : (x == y) = false := by simpa using hx
    rw [hx] at q
    exact t x d q
theorem glb_nil {Q : Str → PyData → Prop} : ∀ x d, List.lookup x ([] : List (Str × PyData)) = some d → Q x d := fun _ _ q => nomatch q
end
end En

set_option Elab.async false
set_option linter.all false
set_option maxRecDepth 100000
namespace En
open PySem PySem.Spec PyProof.Rows L2
/-! ## steps of the plain run, each by its own row -/
theorem fnR_rt (d : D) (g : G) : fnR (.rt d g) = .ok d g := rfl
theorem fnR_nx (ρ : Env) (g : G) : fnR (.nx ρ g) = .ok (.p .none) g := rfl
theorem fnR_stuck : fnR .stuck = .stuck := rfl
theorem asB_bool (b : Bool) (g : G) : asB (.p (.bool b)) g = .ok b g := rfl
theorem tst_f (r : R D) : tst false r = r := rfl
theorem tst_t (d : D) (g : G) : tst true (.ok d g) = (truth g d).bind fun b g => .ok (.p (.bool b)) g := rfl
theorem tst_s (t : Bool) : tst t .stuck = .stuck := by cases t <;> rfl
theorem truth_bool (b : Bool) (g : G) : truth g (.p (.bool b)) = .ok b g := rfl
theorem truth_int (i : Int) (g : G) : truth g (.p (.int i)) = .ok (i != 0) g := rfl
theorem truth_none (g : G) : truth g (.p .none) = .ok false g := rfl
theorem truth_list (ds : List PyData) (g : G) : truth g (.p (.list ds)) = .ok (!ds.isEmpty) g := rfl
theorem truth_tuple (ds : List PyData) (g : G) : truth g (.p (.tuple ds)) = .ok (!ds.isEmpty) g := rfl
section
variable (i j : Int) (g : G) (mu : Bool)
theorem cmp_lt : opCmp .lt (.p (.int i)) (.p (.int j)) g = .ok (.p (.bool (decide (i < j)))) g := rfl
theorem cmp_le : opCmp .le (.p (.int i)) (.p (.int j)) g = .ok (.p (.bool (decide (i ≤ j)))) g := rfl
theorem cmp_gt : opCmp .gt (.p (.int i)) (.p (.int j)) g = .ok (.p (.bool (decide (j < i)))) g := rfl
theorem cmp_ge : opCmp .ge (.p (.int i)) (.p (.int j)) g = .ok (.p (.bool (decide (j ≤ i)))) g := rfl
theorem cmp_eqI : opCmp .eq (.p (.int i)) (.p (.int j)) g = .ok (.p (.bool (decide (i = j)))) g := rfl
theorem cmp_neI : opCmp .ne (.p (.int i)) (.p (.int j)) g = .ok (.p (.bool (!decide (i = j)))) g := rfl
theorem cmp_eqS (x y : Str) : opCmp .eq (.p (.str x)) (.p (.str y)) g = .ok (.p (.bool (decide (x = y)))) g := rfl
theorem cmp_neS (x y : Str) : opCmp .ne (.p (.str x)) (.p (.str y)) g = .ok (.p (.bool (!decide (x = y)))) g := rfl
theorem cmp_eqT0 (ds : List PyData) : opCmp .eq (.p (.tuple ds)) (.p (.tuple [])) g = .ok (.p (.bool ds.isEmpty)) g := rfl
theorem bin_addI : opBin .add mu (.p (.int i)) (.p (.int j)) g = .ok (.p (.int (i + j))) g := rfl
theorem bin_subI : opBin .sub mu (.p (.int i)) (.p (.int j)) g = .ok (.p (.int (i - j))) g := rfl
theorem bin_mulI (h : (-(2 ^ 64) < i ∧ i < 2 ^ 64) ∨ (-(2 ^ 64) < j ∧ j < 2 ^ 64)) : opBin .mul mu (.p (.int i)) (.p (.int j)) g = .ok (.p (.int (i * j))) g := by
  show (if _ then _ else _) = _
  rw [if_pos h]
theorem bin_modI (h : 0 < j) : opBin .mod mu (.p (.int i)) (.p (.int j)) g = .ok (.p (.int (i % j))) g := by
  show (if _ then _ else _) = _
  rw [if_pos h]
theorem bin_divI (h : 0 < j ∧ j < 1073741824) : opBin .fdiv mu (.p (.int i)) (.p (.int j)) g = .ok (.p (.int (i / j))) g := by
  show (if _ then _ else _) = _
  rw [if_pos h]
theorem bin_powI (h : 0 ≤ j ∧ j ≤ 1000 ∧ i.natAbs < 2 ^ 64) : opBin .pow mu (.p (.int i)) (.p (.int j)) g = .ok (.p (.int (i ^ j.toNat))) g := by
  show (if _ then _ else _) = _
  rw [if_pos h]
theorem bin_addT (a b : List PyData) (h : a.length + b.length ≤ lim) : opBin .add mu (.p (.tuple a)) (.p (.tuple b)) g = .ok (.p (.tuple (a ++ b))) g := by
  show (if _ then _ else _) = _
  rw [if_pos h]
theorem neg_int : opNeg (.p (.int i)) g = .ok (.p (.int (-i))) g := rfl
theorem len_tup (ds : List PyData) : opBf .len mu [.p (.tuple ds)] g = .ok (.p (.int ds.length)) g := rfl
theorem len_list (ds : List PyData) : opBf .len mu [.p (.list ds)] g = .ok (.p (.int (ds.map D.p).length)) g := rfl
theorem len_kl (ds : List PyData) : opBf .len mu [.kl ds] g = .ok (.p (.int (ds.map D.p).length)) g := rfl
theorem max_int : opBf .max mu [.p (.int i), .p (.int j)] g = .ok (.p (.int (if j > i then j else i))) g := rfl
theorem min_int : opBf .min mu [.p (.int i), .p (.int j)] g = .ok (.p (.int (if j < i then j else i))) g := rfl
end
theorem boolsD_map (bs : List Bool) : boolsD (bs.map fun b => D.p (.bool b)) = some bs := by
  induction bs with
  | nil => rfl
  | cons b r ih => show (boolsD _).map (b :: ·) = _; rw [ih]; rfl
theorem boolsD_p (bs : List Bool) : boolsD ((bs.map PyData.bool).map D.p) = some bs := by
  rw [List.map_map]; exact boolsD_map bs
theorem all_list (bs : List Bool) (g : G) (mu : Bool) : opBf .all mu [.p (.list (bs.map .bool))] g = .ok (.p (.bool (bs.all id))) g := by
  show (match (some ((bs.map PyData.bool).map D.p)).bind boolsD with | some bs => _ | none => _) = _
  rw [Option.bind_some, boolsD_p]; rfl
/-- a walk over plain values, turn by turn -/
def compL (f : D → G → R (Option D)) : List D → List D → G → R (List D)
  | [], acc, g => .ok acc g
  | d :: ds, acc, g => (f d g).bind fun o g1 => match o with
    | none => compL f ds acc g1
    | some y => if acc.length < lim then compL f ds (acc ++ [y]) g1 else .stuck
theorem compG_vals (f : D → G → R (Option D)) (ds : List D) : ∀ (pre post acc : List D) (g : G), ds = pre ++ post → compG (Src.vals ds).get f (post.length + 1) pre.length acc g = compL f post acc g
  | pre, [], acc, g, e => by
    unfold compG
    have : (Src.vals ds).get pre.length g = some none := by
      show some ds[pre.length]? = _
      rw [e]; simp
    rw [this]; rfl
  | pre, d :: post, acc, g, e => by
    have hg : (Src.vals ds).get pre.length g = some (some d) := by
      show some ds[pre.length]? = _
      rw [e]; simp
    have ih := fun acc g => compG_vals f ds (pre ++ [d]) post acc g (by rw [e]; simp)
    simp only [List.length_append, List.length_cons, List.length_nil, Nat.zero_add] at ih
    unfold compG compL
    rw [List.length_cons, hg]
    simp only
    congr 1
    funext o g1
    cases o with
    | none => exact ih acc g1
    | some y =>
      simp only
      by_cases h : acc.length < lim
      · rw [if_pos h, if_pos h]; exact ih _ g1
      · rw [if_neg h, if_neg h]
theorem compF_vals {fI : Env → G → R Src} {fc : Env → G → R Bool} {fe : Env → G → R D} {mu tt : Bool} {tg : List Nat} {ρ : Env} {g g1 : G} {ds : List D} (h : fI ρ g = .ok (.vals ds) g1) :
    compF fI fc fe mu tt tg ρ g = (compL (fun d g => match asgT tt tg d (wipeD ρ tg) with
        | none => .stuck
        | some ρ' => (fc ρ' g).nox.bind fun k g => if k then (fe ρ' g).nox.bind fun y g => .ok (some y) g else .ok none g) ds [] g1).bind fun ys g => fin mu ys g := by
  unfold compF
  rw [h]
  show R.bind (compG (Src.vals ds).get _ (ds.length + 1) 0 [] g1) _ = _
  rw [show compG (Src.vals ds).get _ (ds.length + 1) 0 [] g1 = _ from compG_vals _ ds [] ds [] g1 rfl]
  try rfl
/-- one item a turn, by a function, nothing stored -/
theorem compL_map {f : D → G → R (Option D)} {h : D → D} {g : G} : ∀ (ds acc : List D), (∀ d ∈ ds, f d g = .ok (some (h d)) g) → acc.length + ds.length ≤ lim → compL f ds acc g = .ok (acc ++ ds.map h) g
  | [], acc, _, _ => by simp [compL]
  | d :: ds, acc, hf, hl => by
    unfold compL
    rw [hf d List.mem_cons_self]
    simp only [R.bind_ok]
    rw [List.length_cons] at hl
    rw [if_pos (by omega), compL_map ds (acc ++ [h d]) (fun x m => hf x (List.mem_cons_of_mem _ m)) (by rw [List.length_append, List.length_cons, List.length_nil]; omega)]
    simp
/-- a loop over plain values -/
def forL (f : D → Env → G → SR) : List D → Env → G → SR
  | [], ρ, g => .nx ρ g
  | d :: ds, ρ, g => match f d ρ g with
    | .nx ρ' g' => forL f ds ρ' g'
    | .ct ρ' g' => forL f ds ρ' g'
    | .bk ρ' g' => .nx ρ' g'
    | r => r
theorem forG_vals (f : D → Env → G → SR) (ds : List D) : ∀ (pre post : List D) (ρ : Env) (g : G), ds = pre ++ post → forG (Src.vals ds).get f (post.length + 1) pre.length ρ g = forL f post ρ g
  | pre, [], ρ, g, e => by
    unfold forG
    have : (Src.vals ds).get pre.length g = some none := by
      show some ds[pre.length]? = _
      rw [e]; simp
    rw [this]; rfl
  | pre, d :: post, ρ, g, e => by
    have hg : (Src.vals ds).get pre.length g = some (some d) := by
      show some ds[pre.length]? = _
      rw [e]; simp
    have ih := fun ρ g => forG_vals f ds (pre ++ [d]) post ρ g (by rw [e]; simp)
    simp only [List.length_append, List.length_cons, List.length_nil, Nat.zero_add] at ih
    unfold forG forL
    rw [List.length_cons, hg]
    simp only
    cases f d ρ g with
    | nx ρ' g' => exact ih ρ' g'
    | ct ρ' g' => exact ih ρ' g'
    | bk ρ' g' => rfl
    | rt d g' => rfl
    | exc x g' => rfl
    | stuck => rfl
theorem forF_vals (f : D → Env → G → SR) (ds : List D) (ρ : Env) (g : G) : forG (Src.vals ds).get f (Src.vals ds).fuel 0 ρ g = forL f ds ρ g := forG_vals f ds [] ds ρ g rfl
end En

set_option Elab.async false
set_option linter.all false
set_option maxRecDepth 100000
namespace En
open PySem PySem.Spec PyProof.Rows L2
/-! ## what a run ends in, read backwards -/
def Wp {α : Type} (r : R α) (Q : α → G → Prop) : Prop := match r with
  | .ok x g => Q x g
  | _ => False
structure Po where
  nx : Env → G → Prop
  rt : D → G → Prop
  bk : Env → G → Prop
  ct : Env → G → Prop
def Ws (r : SR) (P : Po) : Prop := match r with
  | .nx ρ g => P.nx ρ g
  | .rt d g => P.rt d g
  | .bk ρ g => P.bk ρ g
  | .ct ρ g => P.ct ρ g
  | _ => False
section
variable {α β : Type} {r : R α} {Q Q' : α → G → Prop} {P P' : Po} {x : α} {g : G}
theorem Wp.ok (h : Q x g) : Wp (.ok x g) Q := h
theorem Wp.of (e : r = .ok x g) (h : Q x g) : Wp r Q := by rw [e]; exact h
theorem Wp.to (h : Wp r Q) : ∃ x g, r = .ok x g ∧ Q x g := by
  cases r with
  | ok x g => exact ⟨x, g, rfl, h⟩
  | exc _ _ => exact h.elim
  | stuck => exact h.elim
theorem Wp.mono (h : Wp r Q) (q : ∀ x g, Q x g → Q' x g) : Wp r Q' := by
  obtain ⟨x, g, rfl, h⟩ := h.to
  exact q x g h
theorem Wp.bind {k : α → G → R β} {Q : β → G → Prop} (h : Wp r fun x g => Wp (k x g) Q) : Wp (r.bind k) Q := by
  obtain ⟨x, g, rfl, h⟩ := h.to
  exact h
theorem Wp.nox (h : Wp r Q) : Wp r.nox Q := by
  obtain ⟨x, g, rfl, h⟩ := h.to
  exact h
theorem Wp.toS {k : α → G → SR} (h : Wp r fun x g => Ws (k x g) P) : Ws (r.toS k) P := by
  obtain ⟨x, g, rfl, h⟩ := h.to
  exact h
theorem Ws.mono {r : SR} (h : Ws r P) (n : ∀ ρ g, P.nx ρ g → P'.nx ρ g) (t : ∀ d g, P.rt d g → P'.rt d g) (b : ∀ ρ g, P.bk ρ g → P'.bk ρ g) (c : ∀ ρ g, P.ct ρ g → P'.ct ρ g) : Ws r P' := by
  cases r with
  | nx ρ g => exact n _ _ h
  | rt ρ g => exact t _ _ h
  | bk ρ g => exact b _ _ h
  | ct ρ g => exact c _ _ h
  | exc _ _ => exact h.elim
  | stuck => exact h.elim
theorem Ws.andThen {r : SR} {k : Env → G → SR} (h : Ws r { P with nx := fun ρ g => Ws (k ρ g) P }) : Ws (r.andThen k) P := by
  cases r with
  | nx ρ g => exact h
  | rt ρ g => exact h
  | bk ρ g => exact h
  | ct ρ g => exact h
  | exc _ _ => exact h.elim
  | stuck => exact h.elim
end
section
variable {Φ : Str → List D → G → R D} {ρ ρ' : Env} {g : G} {Q : D → G → Prop} {Ql : List D → G → Prop} {Qo : Option D → G → Prop} {Qb : Bool → G → Prop} {Qs : Src → G → Prop} {P : Po} {a b c e : E} {t : Bool}
theorem w_tst {r : R D} (h : Wp r fun d g => Wp (truth g d) fun k g => Q (.b k) g) : Wp (tst true r) Q := by
  obtain ⟨x, g, rfl, h1⟩ := h.to
  obtain ⟨k, g', e, q⟩ := Wp.to h1
  show Wp ((truth g x).bind _) Q
  rw [e]; exact q
theorem w_lit {d : PyData} (h : Q (.p d) g) : Wp (den Φ (.lit d) false ρ g) Q := h
theorem w_var {i : Nat} {d : D} (e : ρ[i]? = some (some d)) (h : Q d g) : Wp (den Φ (.var i) false ρ g) Q := by
  show Wp (match ρ[i]? with | some (some d) => .ok d g | _ => .stuck) Q
  rw [e]; exact h
theorem w_call {f : Str} {l : Es} (h : Wp (dens Φ l ρ g) fun xs g => Wp (Φ f xs g) Q) : Wp (den Φ (.call f l) false ρ g) Q := Wp.bind h
theorem w_bf {f : BF} {mu : Bool} {l : Es} (h : Wp (dens Φ l ρ g) fun xs g => Wp (opBf f mu xs g) Q) : Wp (den Φ (.bf f mu l) false ρ g) Q := Wp.bind h
theorem w_bin {o : BO} {mu : Bool} (h : Wp (den Φ a false ρ g) fun x g => Wp (den Φ b false ρ g) fun y g => Wp (opBin o mu x y g) Q) : Wp (den Φ (.bin o mu a b) false ρ g) Q := Wp.bind (h.mono fun _ _ h => Wp.bind h)
theorem w_cmp {o : CO} (h : Wp (den Φ a false ρ g) fun x g => Wp (den Φ b false ρ g) fun y g => Wp (opCmp o x y g) Q) : Wp (den Φ (.cmp o a b) t ρ g) Q := Wp.bind (h.mono fun _ _ h => Wp.bind h)
theorem w_chain {o o' : CO} (h : Wp (den Φ a false ρ g) fun x g => Wp (den Φ b false ρ g) fun y g => Wp (opCmp o x y g) fun r g => Wp (asB r g) fun k g => (k = true → Wp (den Φ c false ρ g) fun z g => Wp (opCmp o' y z g) Q) ∧ (k = false → Q (.b false) g)) : Wp (den Φ (.chain o o' a b c) t ρ g) Q := by
  refine Wp.bind (h.mono fun _ _ h => Wp.bind (h.mono fun _ _ h => Wp.bind (h.mono fun _ _ h => Wp.bind (h.mono fun k g h => ?_))))
  cases k with
  | true => exact Wp.bind (h.1 rfl)
  | false => exact h.2 rfl
theorem w_and (h : Wp (den Φ a t ρ g) fun x g => Wp (asB x g) fun k g => (k = true → Wp (den Φ b t ρ g) Q) ∧ (k = false → Q (.b false) g)) : Wp (den Φ (.and_ a b) t ρ g) Q := by
  refine Wp.bind (h.mono fun _ _ h => Wp.bind (h.mono fun k g h => ?_))
  cases k with
  | true => exact h.1 rfl
  | false => exact h.2 rfl
theorem w_or (h : Wp (den Φ a t ρ g) fun x g => Wp (asB x g) fun k g => (k = true → Q (.b true) g) ∧ (k = false → Wp (den Φ b t ρ g) Q)) : Wp (den Φ (.or_ a b) t ρ g) Q := by
  refine Wp.bind (h.mono fun _ _ h => Wp.bind (h.mono fun k g h => ?_))
  cases k with
  | true => exact h.1 rfl
  | false => exact h.2 rfl
theorem w_not (h : Wp (den Φ a t ρ g) fun x g => Wp (asB x g) fun k g => Q (.b (!k)) g) : Wp (den Φ (.not_ a) t ρ g) Q := Wp.bind (h.mono fun _ _ h => Wp.bind h)
theorem w_neg (h : Wp (den Φ a false ρ g) fun x g => Wp (opNeg x g) Q) : Wp (den Φ (.neg a) false ρ g) Q := Wp.bind h
theorem w_ife (h : Wp (den Φ c true ρ g) fun x g => Wp (asB x g) fun k g => (k = true → Wp (den Φ a t ρ g) Q) ∧ (k = false → Wp (den Φ b t ρ g) Q)) : Wp (den Φ (.ite c a b) t ρ g) Q := by
  refine Wp.bind (h.mono fun _ _ h => Wp.bind (h.mono fun k g h => ?_))
  cases k with
  | true => exact h.1 rfl
  | false => exact h.2 rfl
theorem w_tup {l : Es} (h : Wp (dens Φ l ρ g) fun xs g => Wp (finT xs g) Q) : Wp (den Φ (.tup l) false ρ g) Q := Wp.bind h
theorem w_lst {mu : Bool} {l : Es} (h : Wp (dens Φ l ρ g) fun xs g => Wp (fin mu xs g) Q) : Wp (den Φ (.lst mu l) false ρ g) Q := Wp.bind h
theorem w_ix (h : Wp (den Φ a false ρ g) fun x g => Wp (den Φ b false ρ g) fun y g => Wp (opIx x y g) Q) : Wp (den Φ (.ix a b) false ρ g) Q := Wp.bind (h.mono fun _ _ h => Wp.bind h)
theorem w_sl {lo hi : Op} (h : Wp (den Φ a false ρ g) fun x g => Wp (denO Φ lo ρ g) fun l g => Wp (part l g) fun l g => Wp (denO Φ hi ρ g) fun u g => Wp (part u g) fun u g => Wp (opSl x l u g) Q) : Wp (den Φ (.sl a lo hi) false ρ g) Q :=
  Wp.bind (h.mono fun _ _ h => Wp.bind (h.mono fun _ _ h => Wp.bind (h.mono fun _ _ h => Wp.bind (h.mono fun _ _ h => Wp.bind h))))
theorem w_rev (h : Wp (den Φ a false ρ g) fun x g => Wp (opRev x g) Q) : Wp (den Φ (.rev a) false ρ g) Q := Wp.bind h
theorem w_isi {ty : TY} (h : Wp (den Φ a false ρ g) fun x g => Wp (isiD x ty g) Q) : Wp (den Φ (.isi a ty) false ρ g) Q := Wp.bind h
/-- as a test -/
theorem w_varT {i : Nat} (h : Wp (den Φ (.var i) false ρ g) fun d g => Wp (truth g d) fun k g => Q (.b k) g) : Wp (den Φ (.var i) true ρ g) Q := w_tst h
theorem w_callT {f : Str} {l : Es} (h : Wp (den Φ (.call f l) false ρ g) fun d g => Wp (truth g d) fun k g => Q (.b k) g) : Wp (den Φ (.call f l) true ρ g) Q := w_tst h
theorem w_bfT {f : BF} {mu : Bool} {l : Es} (h : Wp (den Φ (.bf f mu l) false ρ g) fun d g => Wp (truth g d) fun k g => Q (.b k) g) : Wp (den Φ (.bf f mu l) true ρ g) Q := w_tst h
theorem w_binT {o : BO} {mu : Bool} (h : Wp (den Φ (.bin o mu a b) false ρ g) fun d g => Wp (truth g d) fun k g => Q (.b k) g) : Wp (den Φ (.bin o mu a b) true ρ g) Q := w_tst h
theorem w_ixT (h : Wp (den Φ (.ix a b) false ρ g) fun d g => Wp (truth g d) fun k g => Q (.b k) g) : Wp (den Φ (.ix a b) true ρ g) Q := w_tst h
theorem w_isiT {ty : TY} (h : Wp (den Φ (.isi a ty) false ρ g) fun d g => Wp (truth g d) fun k g => Q (.b k) g) : Wp (den Φ (.isi a ty) true ρ g) Q := w_tst h
theorem w_litT {d : PyData} (h : Wp (truth g (.p d)) fun k g => Q (.b k) g) : Wp (den Φ (.lit d) true ρ g) Q := w_tst (r := .ok (.p d) g) h
/-- lists of arguments -/
theorem w_dnil (h : Ql [] g) : Wp (dens Φ .nil ρ g) Ql := h
theorem w_dcons {l : Es} (h : Wp (den Φ a false ρ g) fun x g => Wp (dens Φ l ρ g) fun xs g => Ql (x :: xs) g) : Wp (dens Φ (.cons a l) ρ g) Ql := Wp.bind (h.mono fun _ _ h => Wp.bind h)
theorem w_ono (h : Qo none g) : Wp (denO Φ .no ρ g) Qo := h
theorem w_oso (h : Wp (den Φ a false ρ g) fun x g => Qo (some x) g) : Wp (denO Φ (.so a) ρ g) Qo := Wp.bind h
theorem w_cno (h : Qb true g) : Wp (denC Φ .no ρ g) Qb := h
theorem w_cso (h : Wp (den Φ a true ρ g) fun x g => Wp (asB x g) Qb) : Wp (denC Φ (.so a) ρ g) Qb := Wp.bind h
theorem w_pno {Qi : Option Int → G → Prop} (h : Qi none g) : Wp (part none g) Qi := h
theorem w_pso {Qi : Option Int → G → Prop} {i : Int} (h : Qi (some i) g) : Wp (part (some (.p (.int i))) g) Qi := h
theorem w_asB {k : Bool} (h : Qb k g) : Wp (asB (.p (.bool k)) g) Qb := h
theorem w_trB {k : Bool} (h : Qb k g) : Wp (truth g (.p (.bool k))) Qb := h
theorem w_trI {i : Int} (h : Qb (i != 0) g) : Wp (truth g (.p (.int i))) Qb := h
/-- what is walked -/
theorem w_iseq (h : Wp (den Φ a false ρ g) fun x g => Wp (srcSeq x g) Qs) : Wp (denI Φ (.seq a) ρ g) Qs := Wp.bind h
theorem w_irng (h : Wp (den Φ a false ρ g) fun x g => Wp (srcRng (.p (.int 0)) x g) Qs) : Wp (denI Φ (.rng a) ρ g) Qs := Wp.bind h
theorem w_irng2 (h : Wp (den Φ a false ρ g) fun x g => Wp (den Φ b false ρ g) fun y g => Wp (srcRng x y g) Qs) : Wp (denI Φ (.rng2 a b) ρ g) Qs := Wp.bind (h.mono fun _ _ h => Wp.bind h)
theorem w_srcT {ds : List PyData} (h : Qs (.vals (ds.map .p)) g) : Wp (srcSeq (.p (.tuple ds)) g) Qs := h
theorem w_srcL {ds : List PyData} (h : Qs (.vals (ds.map .p)) g) : Wp (srcSeq (.p (.list ds)) g) Qs := h
theorem w_srcR {n : Nat} {ds : List D} (e : g[n]? = some (.lst ds)) (h : Qs (.live n ds.length) g) : Wp (srcSeq (.ref n) g) Qs := by
  show Wp (match g[n]? with | some (.lst ds) => .ok (.live n ds.length) g | _ => .stuck) Qs
  rw [e]; exact h
theorem w_srcG {i j : Int} (b : -(2 ^ 62) ≤ i ∧ i < 2 ^ 62 ∧ -(2 ^ 62) ≤ j ∧ j < 2 ^ 62) (h : Qs (.vals (rngL i (j - i).toNat)) g) : Wp (srcRng (.p (.int i)) (.p (.int j)) g) Qs := by
  show Wp (if _ then _ else _) Qs
  rw [if_pos b]; exact h
/-! statements -/
variable {s s' : S}
theorem w_fn (h : Ws (denS Φ s ρ g) ⟨fun _ g => Q (.p .none) g, Q, fun _ _ => False, fun _ _ => False⟩) : Wp (fnR (denS Φ s ρ g)) Q := by
  cases q : denS Φ s ρ g with
  | nx ρ g => rw [q] at h; exact h
  | rt ρ g => rw [q] at h; exact h
  | bk ρ g => rw [q] at h; exact h.elim
  | ct ρ g => rw [q] at h; exact h.elim
  | exc _ _ => rw [q] at h; exact h.elim
  | stuck => rw [q] at h; exact h.elim
theorem w_skip (h : P.nx ρ g) : Ws (denS Φ .skip ρ g) P := h
theorem w_seq (h : Ws (denS Φ s ρ g) { P with nx := fun ρ g => Ws (denS Φ s' ρ g) P }) : Ws (denS Φ (.seq s s') ρ g) P := Ws.andThen h
theorem w_ret (h : Wp (den Φ e false ρ g) P.rt) : Ws (denS Φ (.ret e) ρ g) P := Wp.toS h
theorem w_retN (h : P.rt (.p .none) g) : Ws (denS Φ .retN ρ g) P := h
theorem w_ex (h : Wp (den Φ e false ρ g) fun _ g => P.nx ρ g) : Ws (denS Φ (.ex e) ρ g) P := Wp.toS h
theorem w_asg {i : Nat} (h : Wp (den Φ e false ρ g) fun d g => P.nx (ρ.set i (some d)) g) : Ws (denS Φ (.asg false [i] e) ρ g) P := Wp.toS (h.mono fun _ _ h => h)
theorem w_asgT {tg : List Nat} (h : Wp (den Φ e false ρ g) fun d g => ∃ ρ', asgT true tg d ρ = some ρ' ∧ P.nx ρ' g) : Ws (denS Φ (.asg true tg e) ρ g) P := Wp.toS (h.mono fun d g ⟨ρ', e, h⟩ => by
  show Ws (match asgT true tg d ρ with | some ρ' => .nx ρ' g | none => .stuck) P
  rw [e]; exact h)
theorem w_par {i j : Nat} (h : Wp (den Φ a false ρ g) fun x g => Wp (den Φ b false ρ g) fun y g => P.nx ((ρ.set i (some x)).set j (some y)) g) : Ws (denS Φ (.par i j a b) ρ g) P := Wp.toS (h.mono fun _ _ h => Wp.toS h)
theorem w_app (h : Wp (den Φ a false ρ g) fun x g => ∃ n ds, x = .ref n ∧ g[n]? = some (.lst ds) ∧ Wp (den Φ e false ρ g) fun y g => ∃ ds, g[n]? = some (.lst ds) ∧ ds.length < lim ∧ P.nx ρ (g.set n (.lst (ds ++ [y])))) : Ws (denS Φ (.app a e) ρ g) P := Wp.toS (h.mono fun x g ⟨n, ds, e1, e2, h⟩ => by
  subst e1
  unfold appF
  simp only
  rw [e2]
  refine Wp.toS (h.mono fun y g ⟨ds, e3, hl, h⟩ => ?_)
  rw [e3]
  simp only
  rw [if_pos hl]; exact h)
theorem w_setIx {i : E} (h : Wp (den Φ e false ρ g) fun y g => Wp (den Φ a false ρ g) fun x g => Wp (den Φ i false ρ g) fun k g => ∃ n, ∃ z : Int, ∃ ds j, x = .ref n ∧ k = .p (.int z) ∧ g[n]? = some (.lst ds) ∧ ixN ds.length z = some j ∧ P.nx ρ (g.set n (.lst (ds.set j y)))) : Ws (denS Φ (.setIx a i e) ρ g) P := Wp.toS (h.mono fun y g h => Wp.toS (h.mono fun x g h => Wp.toS (h.mono fun k g ⟨n, z, ds, j, e1, e2, e3, e4, hn⟩ => by
  subst e1 e2
  simp only
  rw [e3]
  simp only
  rw [e4]
  exact hn)))
theorem w_if (h : Wp (den Φ c true ρ g) fun x g => Wp (asB x g) fun k g => (k = true → Ws (denS Φ s ρ g) P) ∧ (k = false → Ws (denS Φ s' ρ g) P)) : Ws (denS Φ (.ite c s s') ρ g) P := by
  refine Wp.toS (Wp.bind (h.mono fun x g h => h.mono fun k g h => ?_))
  cases k with
  | true => exact h.1 rfl
  | false => exact h.2 rfl
end
/-! ## loops -/
theorem forL_inv {f : D → Env → G → SR} {P : Po} (J : List D → Env → G → Prop) (hs : ∀ d rest ρ g, J (d :: rest) ρ g → Ws (f d ρ g) ⟨J rest, P.rt, P.nx, J rest⟩) (he : ∀ ρ g, J [] ρ g → P.nx ρ g) : ∀ (ds : List D) (ρ : Env) (g : G), J ds ρ g → Ws (forL f ds ρ g) P
  | [], ρ, g, h => he ρ g h
  | d :: ds, ρ, g, h => by
    have q := hs d ds ρ g h
    unfold forL
    cases e : f d ρ g with
    | nx ρ' g' => rw [e] at q; exact forL_inv J hs he ds ρ' g' q
    | ct ρ' g' => rw [e] at q; exact forL_inv J hs he ds ρ' g' q
    | bk ρ' g' => rw [e] at q; exact q
    | rt d' g' => rw [e] at q; exact q
    | exc x g' => rw [e] at q; exact q.elim
    | stuck => rw [e] at q; exact q.elim
theorem w_for {Φ : Str → List D → G → R D} {ρ : Env} {g : G} {P : Po} {i : Nat} {it : It} {s : S} (h : Wp (denI Φ it ρ g) fun src g => ∃ ds, src = .vals ds ∧ ∃ J : List D → Env → G → Prop, J ds ρ g ∧ (∀ d rest ρ g, J (d :: rest) ρ g → Ws (denS Φ s (ρ.set i (some d)) g) ⟨J rest, P.rt, P.nx, J rest⟩) ∧ ∀ ρ g, J [] ρ g → P.nx ρ g) : Ws (denS Φ (.for_ false [i] it s) ρ g) P := by
  refine Wp.toS (h.mono fun src g ⟨ds, e, J, h1, h2, h3⟩ => ?_)
  subst e
  rw [forF_vals]
  exact forL_inv J (fun d rest ρ g h => h2 d rest ρ g h) h3 ds ρ g h1
theorem compL_inv {f : D → G → R (Option D)} {Q : List D → G → Prop} (I : List D → List D → G → Prop) (hs : ∀ acc d rest g, I acc (d :: rest) g → Wp (f d g) fun o g => match o with | none => I acc rest g | some y => acc.length < lim ∧ I (acc ++ [y]) rest g) (he : ∀ acc g, I acc [] g → Q acc g) : ∀ (ds acc : List D) (g : G), I acc ds g → Wp (compL f ds acc g) Q
  | [], acc, g, h => he acc g h
  | d :: ds, acc, g, h => by
    unfold compL
    refine Wp.bind ((hs acc d ds g h).mono fun o g q => ?_)
    cases o with
    | none => exact compL_inv I hs he ds acc g q
    | some y =>
      simp only at q ⊢
      rw [if_pos q.1]
      exact compL_inv I hs he ds _ g q.2
/-- the turns of a comprehension -/
theorem compG_inv {get : Nat → G → Option (Option D)} {f : D → G → R (Option D)} {Q : List D → G → Prop} (I : List D → List D → G → Prop) (all : List D) (hget : ∀ acc rest g, I acc rest g → ∃ pre, all = pre ++ rest ∧ get pre.length g = some rest.head?) (hs : ∀ acc d rest g, I acc (d :: rest) g → Wp (f d g) fun o g => match o with | none => I acc rest g | some y => acc.length < lim ∧ I (acc ++ [y]) rest g) (he : ∀ acc g, I acc [] g → Q acc g) : ∀ (rest pre acc : List D) (g : G), all = pre ++ rest → I acc rest g → Wp (compG get f (rest.length + 1) pre.length acc g) Q
  | [], pre, acc, g, ep, h => by
    obtain ⟨pre', e1, e2⟩ := hget _ _ _ h
    have : pre' = pre := by simpa [ep] using e1.symm
    subst this
    unfold compG
    rw [e2]
    exact he acc g h
  | d :: rest, pre, acc, g, ep, h => by
    obtain ⟨pre', e1, e2⟩ := hget _ _ _ h
    have : pre' = pre := by rw [ep] at e1; exact (List.append_cancel_right e1).symm
    subst this
    have ih := fun acc g h => compG_inv I all hget hs he rest (pre' ++ [d]) acc g (by rw [ep]; simp) h
    simp only [List.length_append, List.length_cons, List.length_nil, Nat.zero_add] at ih
    unfold compG
    rw [List.length_cons, e2]
    simp only [List.head?_cons]
    refine Wp.bind ((hs acc d rest g h).mono fun o g q => ?_)
    cases o with
    | none => exact ih acc g q
    | some y =>
      simp only at q ⊢
      rw [if_pos q.1]
      exact ih _ g q.2
section
variable {Φ : Str → List D → G → R D} {ρ : Env} {g : G} {Q : D → G → Prop} {i : Nat} {it : It} {c : Op} {e : E} {mu : Bool}
theorem w_comp (h : Wp (denI Φ it ρ g) fun src g => ∃ ds, src = .vals ds ∧ ∃ I : List D → List D → G → Prop, I [] ds g ∧ (∀ acc d rest g, I acc (d :: rest) g → acc.length < lim ∧ Wp (denC Φ c ((wipeD ρ [i]).set i (some d)) g) fun k g => (k = true → Wp (den Φ e false ((wipeD ρ [i]).set i (some d)) g) fun y g => I (acc ++ [y]) rest g) ∧ (k = false → I acc rest g)) ∧ ∀ acc g, I acc [] g → Wp (fin mu acc g) Q) : Wp (den Φ (.comp mu false [i] it c e) false ρ g) Q := by
  show Wp (compF _ _ _ mu false [i] ρ g) Q
  obtain ⟨src, g1, e1, ds, rfl, I, h1, h2, h3⟩ := h.to
  rw [compF_vals e1]
  refine Wp.bind (compL_inv I (fun acc d rest g h => ?_) h3 ds [] g1 h1)
  obtain ⟨hl, h⟩ := h2 acc d rest g h
  refine Wp.bind (Wp.nox (h.mono fun k g h => ?_))
  cases k with
  | true => exact Wp.bind (Wp.nox ((h.1 rfl).mono fun y g h => ⟨hl, h⟩))
  | false => exact h.2 rfl
/-- .. over a list of the store that stays as it is meanwhile -/
theorem w_compR (h : Wp (denI Φ it ρ g) fun src g => ∃ n ds, src = .live n ds.length ∧ ∃ I : List D → List D → G → Prop, I [] ds g ∧ (∀ acc rest g, I acc rest g → g[n]? = some (.lst ds) ∧ ∃ pre, ds = pre ++ rest) ∧ (∀ acc d rest g, I acc (d :: rest) g → acc.length < lim ∧ Wp (denC Φ c ((wipeD ρ [i]).set i (some d)) g) fun k g => (k = true → Wp (den Φ e false ((wipeD ρ [i]).set i (some d)) g) fun y g => I (acc ++ [y]) rest g) ∧ (k = false → I acc rest g)) ∧ ∀ acc g, I acc [] g → Wp (fin mu acc g) Q) : Wp (den Φ (.comp mu false [i] it c e) false ρ g) Q := by
  show Wp (compF _ _ _ mu false [i] ρ g) Q
  obtain ⟨src, g1, e1, n, ds, rfl, I, h1, h0, h2, h3⟩ := h.to
  unfold compF
  rw [e1]
  show Wp (R.bind (compG (Src.live n ds.length).get _ (ds.length + 1) ([] : List D).length [] g1) _) Q
  refine Wp.bind (compG_inv I ds (fun acc rest g h => ?_) (fun acc d rest g h => ?_) h3 ds [] [] g1 rfl h1)
  · obtain ⟨e, pre, ep⟩ := h0 _ _ _ h
    refine ⟨pre, ep, ?_⟩
    show (match g[n]? with | some (.lst ds) => some ds[pre.length]? | _ => none) = _
    rw [e]
    show some ds[pre.length]? = _
    congr 1
    rw [ep, List.getElem?_append_right (Nat.le_refl _), Nat.sub_self]
    cases rest <;> rfl
  · obtain ⟨hl, h⟩ := h2 acc d rest g h
    refine Wp.bind (Wp.nox (h.mono fun k g h => ?_))
    cases k with
    | true => exact Wp.bind (Wp.nox ((h.1 rfl).mono fun y g h => ⟨hl, h⟩))
    | false => exact h.2 rfl
end
/-! ## steps upon values -/
def toP : List D → List PyData
  | [] => []
  | .p d :: r => d :: toP r
  | _ :: r => toP r
def areP : List D → Bool
  | [] => true
  | .p _ :: r => areP r
  | _ :: _ => false
theorem allP_of : ∀ {l : List D}, areP l = true → allP l = some (toP l)
  | [], _ => rfl
  | .p d :: r, h => by
    show (allP r).map (d :: ·) = _
    rw [allP_of (l := r) h]; rfl
  | .ref _ :: _, h => by cases h
  | .exc _ _ :: _, h => by cases h
  | .kl _ :: _, h => by cases h
theorem toP_map (ps : List PyData) : toP (ps.map .p) = ps := by
  induction ps with
  | nil => rfl
  | cons a r ih => show a :: toP _ = _; rw [ih]
theorem areP_map (ps : List PyData) : areP (ps.map .p) = true := by
  induction ps with
  | nil => rfl
  | cons a r ih => exact ih
section
variable {g : G} {Q : D → G → Prop} {l : List D}
theorem w_fin (h1 : areP l = true) (h2 : l.length ≤ lim) (h : Q (.p (.list (toP l))) g) : Wp (fin false l g) Q := by
  unfold fin
  rw [if_pos h2, allP_of h1]; exact h
theorem w_finB (h1 : areP l = true) (h2 : Nat.ble l.length 1000000 = true) (h : Q (.p (.list (toP l))) g) : Wp (fin false l g) Q := w_fin h1 (Nat.le_of_ble_eq_true h2) h
theorem w_finM (h2 : l.length ≤ lim) (h : Q (.ref g.length) (g ++ [.lst l])) : Wp (fin true l g) Q := by
  unfold fin
  rw [if_pos h2]; exact h
theorem w_finT (h1 : areP l = true) (h2 : l.length ≤ lim) (h : Q (.p (.tuple (toP l))) g) : Wp (finT l g) Q := by
  unfold finT
  rw [if_pos h2, allP_of h1]; exact h
theorem w_finTB (h1 : areP l = true) (h2 : Nat.ble l.length 1000000 = true) (h : Q (.p (.tuple (toP l))) g) : Wp (finT l g) Q := w_finT h1 (Nat.le_of_ble_eq_true h2) h
theorem w_finMB (h2 : Nat.ble l.length 1000000 = true) (h : Q (.ref g.length) (g ++ [.lst l])) : Wp (fin true l g) Q := w_finM (Nat.le_of_ble_eq_true h2) h
theorem w_dct {Φ : Str → List D → G → R D} {ρ : Env} {ks : List Key} {a : Es} (h : Wp (dens Φ a ρ g) fun xs g => areP xs = true ∧ (ks.length = (toP xs).length ∧ (toP xs).length ≤ 1 ∧ (toP xs).all flatP = true) ∧ Q (.p (.dict ((ks.map kd).zip (toP xs)))) g) : Wp (den Φ (.dct ks a) false ρ g) Q := Wp.bind (h.mono fun xs g ⟨h1, h2, h3⟩ => by
  rw [allP_of h1]
  simp only
  rw [if_pos h2]; exact h3)
theorem atI_in {α : Type} {xs : List α} {i : Int} (h0 : 0 ≤ i) (h1 : i < xs.length) : ∃ v, v ∈ xs ∧ atI xs i = some v := by
  have h2 : i.toNat < xs.length := by omega
  refine ⟨xs[i.toNat], List.getElem_mem h2, ?_⟩
  have := atI_nat (List.getElem?_eq_getElem h2)
  rwa [Int.toNat_of_nonneg h0] at this
theorem w_ixR {n : Nat} {ds : List D} {i : Int} {d : D} (e : g[n]? = some (.lst ds)) (h : atI ds i = some d) (q : Q d g) : Wp (opIx (.ref n) (.p (.int i)) g) Q := by
  show Wp (match (listOf g (.ref n)).bind fun a => atI a i with | some d => .ok d g | none => .stuck) Q
  have : listOf g (.ref n) = some ds := by
    show (match g[n]? with | some (.lst ds) => some ds | _ => none) = _
    rw [e]
  rw [this, Option.bind_some, h]; exact q
theorem w_ixL {ds : List PyData} {i : Int} (h0 : 0 ≤ i) (h1 : i < ds.length) (q : ∀ d ∈ ds, Q (.p d) g) : Wp (opIx (.p (.list ds)) (.p (.int i)) g) Q := by
  show Wp (match (some (ds.map D.p)).bind fun a => atI a i with | some d => .ok d g | none => .stuck) Q
  obtain ⟨v, m, e⟩ := atI_in (xs := ds.map D.p) h0 (by simpa using h1)
  rw [Option.bind_some, e]
  obtain ⟨d, md, rfl⟩ := List.mem_map.mp m
  exact q d md
theorem w_ixK {ds : List PyData} {i : Int} (h0 : 0 ≤ i) (h1 : i < ds.length) (q : ∀ d ∈ ds, Q (.p d) g) : Wp (opIx (.kl ds) (.p (.int i)) g) Q := by
  show Wp (match (some (ds.map D.p)).bind fun a => atI a i with | some d => .ok d g | none => .stuck) Q
  obtain ⟨v, m, e⟩ := atI_in (xs := ds.map D.p) h0 (by simpa using h1)
  rw [Option.bind_some, e]
  obtain ⟨d, md, rfl⟩ := List.mem_map.mp m
  exact q d md
theorem w_ixP {ds : List PyData} {i : Int} {d : PyData} (h : atI ds i = some d) (q : Q (.p d) g) : Wp (opIx (.p (.tuple ds)) (.p (.int i)) g) Q := by
  show Wp (match atI ds i with | some d => .ok (.p d) g | none => .stuck) Q
  rw [h]; exact q
theorem w_slP {ds : List PyData} {lo hi : Option Int} (q : Q (.p (.tuple (cutP ds lo hi))) g) : Wp (opSl (.p (.tuple ds)) lo hi g) Q := q
theorem w_revP {ds : List PyData} (q : Q (.p (.tuple ds.reverse)) g) : Wp (opRev (.p (.tuple ds)) g) Q := q
theorem split_at {α : Type} {ds : List α} {i : Int} (h0 : 0 ≤ i) (h1 : i < ds.length) : ∃ a x b, ds = a ++ x :: b ∧ (a.length : Int) = i := by
  have h2 : i.toNat < ds.length := by omega
  refine ⟨ds.take i.toNat, ds[i.toNat], ds.drop (i.toNat + 1), ?_, ?_⟩
  · rw [← List.drop_eq_getElem_cons h2, List.take_append_drop]
  · rw [List.length_take]; omega
section
variable {α : Type} (a b : List α) (x : α)
theorem cut_to : cutP (a ++ x :: b) none (some (a.length : Int)) = a := by
  unfold cutP
  rw [HT.sIx_none, HT.sIx_nat]
  simp
theorem cut_from : cutP (a ++ x :: b) (some (a.length : Int)) none = x :: b := by
  unfold cutP
  rw [HT.sIx_none, HT.sIx_nat]
  simp
theorem cut_past : cutP (a ++ x :: b) (some ((a.length : Int) + 1)) none = b := by
  unfold cutP
  rw [HT.sIx_none, show ((a.length : Int) + 1) = ((a.length + 1 : Nat) : Int) by omega, HT.sIx_nat]
  have : min (a.length + 1) (a ++ x :: b).length = a.length + 1 := by rw [List.length_append, List.length_cons]; omega
  rw [this, show a ++ x :: b = (a ++ [x]) ++ b by simp, List.drop_left' (by simp)]
  exact List.take_of_length_le (by rw [List.length_append, List.length_append, List.length_cons, List.length_nil]; omega)
theorem cut_one : cutP (a ++ x :: b) (some (a.length : Int)) (some ((a.length : Int) + 1)) = [x] := by
  unfold cutP
  rw [show ((a.length : Int) + 1) = ((a.length + 1 : Nat) : Int) by omega, HT.sIx_nat, HT.sIx_nat]
  have h1 : min (a.length + 1) (a ++ x :: b).length = a.length + 1 := by rw [List.length_append, List.length_cons]; omega
  have h2 : min a.length (a ++ x :: b).length = a.length := by simp
  rw [h1, h2, List.drop_left]
  simp
theorem atI_mid : atI (a ++ x :: b) (a.length : Int) = some x := atI_nat (by simp)
end
end
end En

set_option Elab.async false
set_option linter.all false
set_option maxRecDepth 100000
namespace K01
open PySem PySem.Spec PyProof.Rows L2 En
def top (i : Nat) : Stmt := PySem.Challenge.pw_nightsheld_k01_houses_and_stays_known.main.body.getD i (.Pass ⟨0, 0, 0, 0⟩)
def d0 : Def := ⟨"is_whole", top 1, ["thing"], ["thing"]⟩
def d1 : Def := ⟨"is_within", top 2, ["thing", "least", "most"], ["thing", "least", "most"]⟩
def d2 : Def := ⟨"is_kind", top 9, ["thing"], ["thing"]⟩
def d3 : Def := ⟨"is_house", top 10, ["thing", "room"], ["thing"]⟩
def d4 : Def := ⟨"is_stay", top 11, ["thing", "kind", "first", "nights"], ["thing"]⟩
def d5 : Def := ⟨"are_stays", top 12, ["thing", "stay"], ["thing"]⟩
def d6 : Def := ⟨"_law_cell_at", top 14, ["_law_script", "_law_k"], ["_law_script", "_law_k"]⟩
def d7 : Def := ⟨"_law_pen", top 15, ["_law_cell"], ["_law_cell"]⟩
def d8 : Def := ⟨"_law_draw", top 16, ["_law_pen_here", "_law_many", "_law_digit", "_law_stir"], ["_law_pen_here", "_law_many"]⟩
def d9 : Def := ⟨"_law_whole", top 17, ["_law_thing"], ["_law_thing"]⟩
def d10 : Def := ⟨"_law_within", top 18, ["_law_thing", "_law_low", "_law_high"], ["_law_thing", "_law_low", "_law_high"]⟩
def d11 : Def := ⟨"_law_odd", top 19, ["_law_pen_here", "_law_some"], ["_law_pen_here"]⟩
def d12 : Def := ⟨"_law_house", top 20, ["_law_pen_here", "_law_room"], ["_law_pen_here"]⟩
def d13 : Def := ⟨"_law_stay", top 21, ["_law_pen_here", "_law_first", "_law_nights"], ["_law_pen_here"]⟩
def d14 : Def := ⟨"_law_stays", top 22, ["_law_pen_here", "_law_most", "_law_turn"], ["_law_pen_here", "_law_most"]⟩
def d15 : Def := ⟨"_law_bent", top 23, ["_law_pen_here", "_law_thing", "_law_deep", "_law_at", "_law_way", "_law_twice"], ["_law_pen_here", "_law_thing", "_law_deep"]⟩
def d16 : Def := ⟨"_law_is_house", top 24, ["_law_thing", "_law_room"], ["_law_thing"]⟩
def d17 : Def := ⟨"_law_is_stay", top 25, ["_law_thing"], ["_law_thing"]⟩
def d18 : Def := ⟨"_law_are_stays", top 26, ["_law_thing", "_law_stay_here"], ["_law_thing"]⟩
def d19 : Def := ⟨"_law_fixed", top 27, ["_law_some"], []⟩
def d20 : Def := ⟨"_law_right", top 28, ["_law_thing", "_law_kept", "_law_due", "_law_lap"], ["_law_thing"]⟩
def d21 : Def := ⟨"law", top 29, ["_law_script", "_law_thing", "_law_k", "_law_pen_here", "_law_house_here", "_law_rows", "_law_things", "_law_turn", "_law_bent_here"], ["_law_script"]⟩
def pr : Prog := ⟨[d0, d1, d2, d3, d4, d5, d6, d7, d8, d9, d10, d11, d12, d13, d14, d15, d16, d17, d18, d19, d20, d21], [("MOST_KIND", .int 3), ("MOST_ROOMS", .int 5), ("MOST_STAYS", .int 8), ("LAST_FIRST", .int 20), ("MOST_NIGHTS", .int 8)], [(33, 11), (97, 22), (100, 26)]⟩
end K01

set_option Elab.async false
set_option linter.all false
set_option maxRecDepth 100000
namespace K01
open PySem PySem.Spec PyProof.Rows L2 En
def b0 : S := (.seq (.ret (.and_ (.isi (.var 0) .int) (.not_ (.isi (.var 0) .bool)))) .skip)
theorem e0 : List.lookup ("is_whole" : Str) pr.tab = some ⟨d0.ps, 1, b0⟩ := by rfl
theorem f0 (k : Nat) (x0 : D) (g : G) : Fn pr.tab (k + 1) "is_whole" [x0] g = fnR (denS (Fn pr.tab k) b0 [some x0] g) := fn_at (m := 1) e0 rfl
def b1 : S := (.seq (.ret (.and_ (.call "is_whole" (.cons (.var 0) .nil)) (.chain .le .le (.var 1) (.var 0) (.var 2)))) .skip)
theorem e1 : List.lookup ("is_within" : Str) pr.tab = some ⟨d1.ps, 3, b1⟩ := by rfl
theorem f1 (k : Nat) (x0 x1 x2 : D) (g : G) : Fn pr.tab (k + 1) "is_within" [x0, x1, x2] g = fnR (denS (Fn pr.tab k) b1 [some x0, some x1, some x2] g) := fn_at (m := 3) e1 rfl
def b2 : S := (.seq (.ret (.call "is_within" (.cons (.var 0) (.cons (.lit (.int 1)) (.cons (.lit (.int 3)) .nil))))) .skip)
theorem e2 : List.lookup ("is_kind" : Str) pr.tab = some ⟨d2.ps, 1, b2⟩ := by rfl
theorem f2 (k : Nat) (x0 : D) (g : G) : Fn pr.tab (k + 1) "is_kind" [x0] g = fnR (denS (Fn pr.tab k) b2 [some x0] g) := fn_at (m := 1) e2 rfl
def b3 : S := (.seq (.ite (.or_ (.not_ (.isi (.var 0) .tuple)) (.not_ (.chain .le .le (.lit (.int 1)) (.bf .len false (.cons (.var 0) .nil)) (.lit (.int 5))))) (.seq (.ret (.lit (.bool false))) .skip) .skip) (.seq (.ret (.bf .all false (.cons (.comp false false [1] (.seq (.var 0)) .no (.call "is_kind" (.cons (.var 1) .nil))) .nil))) .skip))
theorem e3 : List.lookup ("is_house" : Str) pr.tab = some ⟨d3.ps, 2, b3⟩ := by rfl
theorem f3 (k : Nat) (x0 : D) (g : G) : Fn pr.tab (k + 1) "is_house" [x0] g = fnR (denS (Fn pr.tab k) b3 [some x0, none] g) := fn_at (m := 1) e3 rfl
def b4 : S := (.seq (.ite (.or_ (.not_ (.isi (.var 0) .tuple)) (.cmp .ne (.bf .len false (.cons (.var 0) .nil)) (.lit (.int 3)))) (.seq (.ret (.lit (.bool false))) .skip) .skip) (.seq (.asg true [1, 2, 3] (.var 0)) (.seq (.ret (.and_ (.call "is_kind" (.cons (.var 1) .nil)) (.and_ (.call "is_within" (.cons (.var 2) (.cons (.lit (.int 0)) (.cons (.lit (.int 20)) .nil)))) (.call "is_within" (.cons (.var 3) (.cons (.lit (.int 1)) (.cons (.lit (.int 8)) .nil))))))) .skip)))
theorem e4 : List.lookup ("is_stay" : Str) pr.tab = some ⟨d4.ps, 4, b4⟩ := by rfl
theorem f4 (k : Nat) (x0 : D) (g : G) : Fn pr.tab (k + 1) "is_stay" [x0] g = fnR (denS (Fn pr.tab k) b4 [some x0, none, none, none] g) := fn_at (m := 1) e4 rfl
def b5 : S := (.seq (.ite (.or_ (.not_ (.isi (.var 0) .tuple)) (.cmp .gt (.bf .len false (.cons (.var 0) .nil)) (.lit (.int 8)))) (.seq (.ret (.lit (.bool false))) .skip) .skip) (.seq (.ret (.bf .all false (.cons (.comp false false [1] (.seq (.var 0)) .no (.call "is_stay" (.cons (.var 1) .nil))) .nil))) .skip))
theorem e5 : List.lookup ("are_stays" : Str) pr.tab = some ⟨d5.ps, 2, b5⟩ := by rfl
theorem f5 (k : Nat) (x0 : D) (g : G) : Fn pr.tab (k + 1) "are_stays" [x0] g = fnR (denS (Fn pr.tab k) b5 [some x0, none] g) := fn_at (m := 1) e5 rfl
def b6 : S := (.seq (.ite (.cmp .lt (.var 1) (.bf .len false (.cons (.var 0) .nil))) (.seq (.ret (.ix (.var 0) (.var 1))) .skip) .skip) (.seq (.ret (.lit (.int 0))) .skip))
theorem e6 : List.lookup ("_law_cell_at" : Str) pr.tab = some ⟨d6.ps, 2, b6⟩ := by rfl
theorem f6 (k : Nat) (x0 x1 : D) (g : G) : Fn pr.tab (k + 1) "_law_cell_at" [x0, x1] g = fnR (denS (Fn pr.tab k) b6 [some x0, some x1] g) := fn_at (m := 2) e6 rfl
def b7 : S := (.seq (.ret (.lst true (.cons (.bf .max false (.cons (.lit (.int 0)) (.cons (.bin .sub false (.var 0) (.bin .pow false (.lit (.int 10)) (.lit (.int 18)))) .nil))) (.cons (.bin .mod false (.var 0) (.lit (.int 1000000007))) (.cons (.lit (.int 0)) .nil))))) .skip)
theorem e7 : List.lookup ("_law_pen" : Str) pr.tab = some ⟨d7.ps, 1, b7⟩ := by rfl
theorem f7 (k : Nat) (x0 : D) (g : G) : Fn pr.tab (k + 1) "_law_pen" [x0] g = fnR (denS (Fn pr.tab k) b7 [some x0] g) := fn_at (m := 1) e7 rfl
def b8 : S := (.seq (.ite (.cmp .gt (.ix (.var 0) (.lit (.int 0))) (.lit (.int 0))) (.seq (.asg false [2] (.bin .mod false (.ix (.var 0) (.lit (.int 0))) (.var 1))) (.seq (.setIx (.var 0) (.lit (.int 0)) (.bin .fdiv false (.ix (.var 0) (.lit (.int 0))) (.var 1))) (.seq (.ret (.var 2)) .skip))) .skip) (.seq (.setIx (.var 0) (.lit (.int 2)) (.bin .add false (.ix (.var 0) (.lit (.int 2))) (.lit (.int 1)))) (.seq (.asg false [3] (.bin .mod false (.bin .mul false (.bin .add false (.ix (.var 0) (.lit (.int 1))) (.bin .mul false (.lit (.int 17)) (.ix (.var 0) (.lit (.int 2))))) (.bin .add false (.lit (.int 69621)) (.bin .mul false (.lit (.int 2)) (.ix (.var 0) (.lit (.int 2)))))) (.lit (.int 2147483647)))) (.seq (.asg false [3] (.bin .mod false (.bin .add false (.bin .add false (.bin .mul false (.var 3) (.var 3)) (.bin .mul false (.lit (.int 40503)) (.ix (.var 0) (.lit (.int 2))))) (.lit (.int 5))) (.lit (.int 2147483629)))) (.seq (.ret (.bin .mod false (.bin .fdiv false (.bin .mod false (.bin .mul false (.var 3) (.lit (.int 48271))) (.lit (.int 2147483647))) (.lit (.int 32))) (.var 1))) .skip)))))
theorem e8 : List.lookup ("_law_draw" : Str) pr.tab = some ⟨d8.ps, 4, b8⟩ := by rfl
theorem f8 (k : Nat) (x0 x1 : D) (g : G) : Fn pr.tab (k + 1) "_law_draw" [x0, x1] g = fnR (denS (Fn pr.tab k) b8 [some x0, some x1, none, none] g) := fn_at (m := 2) e8 rfl
def b9 : S := (.seq (.ret (.and_ (.isi (.var 0) .int) (.not_ (.isi (.var 0) .bool)))) .skip)
theorem e9 : List.lookup ("_law_whole" : Str) pr.tab = some ⟨d9.ps, 1, b9⟩ := by rfl
theorem f9 (k : Nat) (x0 : D) (g : G) : Fn pr.tab (k + 1) "_law_whole" [x0] g = fnR (denS (Fn pr.tab k) b9 [some x0] g) := fn_at (m := 1) e9 rfl
def b10 : S := (.seq (.ret (.and_ (.call "_law_whole" (.cons (.var 0) .nil)) (.chain .le .le (.var 1) (.var 0) (.var 2)))) .skip)
theorem e10 : List.lookup ("_law_within" : Str) pr.tab = some ⟨d10.ps, 3, b10⟩ := by rfl
theorem f10 (k : Nat) (x0 x1 x2 : D) (g : G) : Fn pr.tab (k + 1) "_law_within" [x0, x1, x2] g = fnR (denS (Fn pr.tab k) b10 [some x0, some x1, some x2] g) := fn_at (m := 3) e10 rfl
def b11 : S := (.seq (.asg false [1] (.lst false (.cons (.lit .none) (.cons (.lit (.bool true)) (.cons (.lit (.bool false)) (.cons (.neg (.lit (.int 1))) (.cons (.lit (.int 0)) (.cons (.lit (.int 4)) (.cons (.bin .pow false (.lit (.int 10)) (.lit (.int 11))) (.cons (.lit (.str "")) (.cons (.lit (.str "stay")) (.cons (.tup .nil) (.cons (.lst false .nil) (.cons (.dct [] .nil) (.cons (.tup (.cons (.lit (.int 1)) .nil)) (.cons (.lst false (.cons (.lit (.int 1)) .nil)) (.cons (.tup (.cons (.tup .nil) .nil)) (.cons (.dct [.inr "a"] (.cons (.lit (.int 1)) .nil)) .nil)))))))))))))))))) (.seq (.ret (.ix (.var 1) (.call "_law_draw" (.cons (.var 0) (.cons (.lit (.int 16)) .nil))))) .skip))
theorem e11 : List.lookup ("_law_odd" : Str) pr.tab = some ⟨d11.ps, 2, b11⟩ := by rfl
theorem f11 (k : Nat) (x0 : D) (g : G) : Fn pr.tab (k + 1) "_law_odd" [x0] g = fnR (denS (Fn pr.tab k) b11 [some x0, none] g) := fn_at (m := 1) e11 rfl
def b12 : S := (.seq (.ret (.bf .tuple false (.cons (.comp false false [1] (.rng (.bin .add false (.lit (.int 1)) (.call "_law_draw" (.cons (.var 0) (.cons (.lit (.int 5)) .nil))))) .no (.bin .add false (.lit (.int 1)) (.call "_law_draw" (.cons (.var 0) (.cons (.lit (.int 3)) .nil))))) .nil))) .skip)
theorem e12 : List.lookup ("_law_house" : Str) pr.tab = some ⟨d12.ps, 2, b12⟩ := by rfl
theorem f12 (k : Nat) (x0 : D) (g : G) : Fn pr.tab (k + 1) "_law_house" [x0] g = fnR (denS (Fn pr.tab k) b12 [some x0, none] g) := fn_at (m := 1) e12 rfl
def b13 : S := (.seq (.asg false [1] (.ix (.lst false (.cons (.call "_law_draw" (.cons (.var 0) (.cons (.lit (.int 4)) .nil))) (.cons (.call "_law_draw" (.cons (.var 0) (.cons (.lit (.int 7)) .nil))) (.cons (.call "_law_draw" (.cons (.var 0) (.cons (.lit (.int 21)) .nil))) .nil)))) (.call "_law_draw" (.cons (.var 0) (.cons (.lit (.int 3)) .nil))))) (.seq (.asg false [2] (.ix (.lst false (.cons (.bin .add false (.lit (.int 1)) (.call "_law_draw" (.cons (.var 0) (.cons (.lit (.int 3)) .nil)))) (.cons (.bin .add false (.lit (.int 1)) (.call "_law_draw" (.cons (.var 0) (.cons (.lit (.int 8)) .nil)))) .nil))) (.call "_law_draw" (.cons (.var 0) (.cons (.lit (.int 2)) .nil))))) (.seq (.ret (.tup (.cons (.ix (.lst false (.cons (.lit (.int 1)) (.cons (.lit (.int 1)) (.cons (.lit (.int 2)) (.cons (.lit (.int 3)) .nil))))) (.call "_law_draw" (.cons (.var 0) (.cons (.lit (.int 4)) .nil)))) (.cons (.var 1) (.cons (.var 2) .nil))))) .skip)))
theorem e13 : List.lookup ("_law_stay" : Str) pr.tab = some ⟨d13.ps, 3, b13⟩ := by rfl
theorem f13 (k : Nat) (x0 : D) (g : G) : Fn pr.tab (k + 1) "_law_stay" [x0] g = fnR (denS (Fn pr.tab k) b13 [some x0, none, none] g) := fn_at (m := 1) e13 rfl
def b14 : S := (.seq (.ret (.bf .tuple false (.cons (.comp false false [2] (.rng (.call "_law_draw" (.cons (.var 0) (.cons (.bin .add false (.var 1) (.lit (.int 1))) .nil)))) .no (.call "_law_stay" (.cons (.var 0) .nil))) .nil))) .skip)
theorem e14 : List.lookup ("_law_stays" : Str) pr.tab = some ⟨d14.ps, 3, b14⟩ := by rfl
theorem f14 (k : Nat) (x0 x1 : D) (g : G) : Fn pr.tab (k + 1) "_law_stays" [x0, x1] g = fnR (denS (Fn pr.tab k) b14 [some x0, some x1, none] g) := fn_at (m := 2) e14 rfl
def b15 : S := (.seq (.ite (.and_ (.call "_law_whole" (.cons (.var 1) .nil)) (.cmp .gt (.call "_law_draw" (.cons (.var 0) (.cons (.lit (.int 3)) .nil))) (.lit (.int 0)))) (.seq (.ret (.ix (.lst false (.cons (.bin .add false (.var 1) (.lit (.int 1))) (.cons (.bin .sub false (.var 1) (.lit (.int 1))) (.cons (.lit (.int 0)) (.cons (.lit (.int 21)) (.cons (.cmp .eq (.var 1) (.lit (.int 1))) (.cons (.bin .add false (.var 1) (.lit (.int 4))) .nil))))))) (.call "_law_draw" (.cons (.var 0) (.cons (.lit (.int 6)) .nil))))) .skip) .skip) (.seq (.ite (.or_ (.not_ (.isi (.var 1) .tuple)) (.or_ (.cmp .eq (.var 1) (.tup .nil)) (.cmp .eq (.var 2) (.lit (.int 0))))) (.seq (.ret (.call "_law_odd" (.cons (.var 0) .nil))) .skip) .skip) (.seq (.par 3 4 (.call "_law_draw" (.cons (.var 0) (.cons (.bf .len false (.cons (.var 1) .nil)) .nil))) (.call "_law_draw" (.cons (.var 0) (.cons (.lit (.int 9)) .nil)))) (.seq (.ite (.cmp .eq (.var 4) (.lit (.int 0))) (.seq (.ret (.bin .add false (.bin .add false (.sl (.var 1) .no (.so (.var 3))) (.tup (.cons (.call "_law_odd" (.cons (.var 0) .nil)) .nil))) (.sl (.var 1) (.so (.var 3)) .no))) .skip) .skip) (.seq (.ite (.cmp .eq (.var 4) (.lit (.int 1))) (.seq (.ret (.bin .add false (.sl (.var 1) .no (.so (.var 3))) (.sl (.var 1) (.so (.bin .add false (.var 3) (.lit (.int 1)))) .no))) .skip) .skip) (.seq (.ite (.cmp .eq (.var 4) (.lit (.int 2))) (.seq (.asg false [5] (.bin .add false (.bin .add false (.sl (.var 1) .no (.so (.var 3))) (.sl (.var 1) (.so (.var 3)) (.so (.bin .add false (.var 3) (.lit (.int 1)))))) (.sl (.var 1) (.so (.var 3)) .no))) (.seq (.ret (.ix (.lst false (.cons (.bf .list false (.cons (.var 1) .nil)) (.cons (.rev (.var 1)) (.cons (.var 5) .nil)))) (.call "_law_draw" (.cons (.var 0) (.cons (.lit (.int 3)) .nil))))) .skip)) .skip) (.seq (.ret (.bin .add false (.bin .add false (.sl (.var 1) .no (.so (.var 3))) (.tup (.cons (.call "_law_bent" (.cons (.var 0) (.cons (.ix (.var 1) (.var 3)) (.cons (.bin .sub false (.var 2) (.lit (.int 1))) .nil)))) .nil))) (.sl (.var 1) (.so (.bin .add false (.var 3) (.lit (.int 1)))) .no))) .skip)))))))
theorem e15 : List.lookup ("_law_bent" : Str) pr.tab = some ⟨d15.ps, 6, b15⟩ := by rfl
theorem f15 (k : Nat) (x0 x1 x2 : D) (g : G) : Fn pr.tab (k + 1) "_law_bent" [x0, x1, x2] g = fnR (denS (Fn pr.tab k) b15 [some x0, some x1, some x2, none, none, none] g) := fn_at (m := 3) e15 rfl
def b16 : S := (.seq (.ret (.and_ (.isi (.var 0) .tuple) (.and_ (.chain .le .le (.lit (.int 1)) (.bf .len false (.cons (.var 0) .nil)) (.lit (.int 5))) (.bf .all false (.cons (.comp false false [1] (.seq (.var 0)) .no (.call "_law_within" (.cons (.var 1) (.cons (.lit (.int 1)) (.cons (.lit (.int 3)) .nil))))) .nil))))) .skip)
theorem e16 : List.lookup ("_law_is_house" : Str) pr.tab = some ⟨d16.ps, 2, b16⟩ := by rfl
theorem f16 (k : Nat) (x0 : D) (g : G) : Fn pr.tab (k + 1) "_law_is_house" [x0] g = fnR (denS (Fn pr.tab k) b16 [some x0, none] g) := fn_at (m := 1) e16 rfl
def b17 : S := (.seq (.ite (.or_ (.not_ (.isi (.var 0) .tuple)) (.or_ (.cmp .ne (.bf .len false (.cons (.var 0) .nil)) (.lit (.int 3))) (.not_ (.call "_law_within" (.cons (.ix (.var 0) (.lit (.int 0))) (.cons (.lit (.int 1)) (.cons (.lit (.int 3)) .nil))))))) (.seq (.ret (.lit (.bool false))) .skip) .skip) (.seq (.ret (.and_ (.call "_law_within" (.cons (.ix (.var 0) (.lit (.int 1))) (.cons (.lit (.int 0)) (.cons (.lit (.int 20)) .nil)))) (.call "_law_within" (.cons (.ix (.var 0) (.lit (.int 2))) (.cons (.lit (.int 1)) (.cons (.lit (.int 8)) .nil)))))) .skip))
theorem e17 : List.lookup ("_law_is_stay" : Str) pr.tab = some ⟨d17.ps, 1, b17⟩ := by rfl
theorem f17 (k : Nat) (x0 : D) (g : G) : Fn pr.tab (k + 1) "_law_is_stay" [x0] g = fnR (denS (Fn pr.tab k) b17 [some x0] g) := fn_at (m := 1) e17 rfl
def b18 : S := (.seq (.ret (.and_ (.isi (.var 0) .tuple) (.and_ (.cmp .le (.bf .len false (.cons (.var 0) .nil)) (.lit (.int 8))) (.bf .all false (.cons (.comp false false [1] (.seq (.var 0)) .no (.call "_law_is_stay" (.cons (.var 1) .nil))) .nil))))) .skip)
theorem e18 : List.lookup ("_law_are_stays" : Str) pr.tab = some ⟨d18.ps, 2, b18⟩ := by rfl
theorem f18 (k : Nat) (x0 : D) (g : G) : Fn pr.tab (k + 1) "_law_are_stays" [x0] g = fnR (denS (Fn pr.tab k) b18 [some x0, none] g) := fn_at (m := 1) e18 rfl
def b19 : S := (.seq (.asg false [0] (.lst false (.cons (.bin .mul false (.tup (.cons (.lit (.int 3)) .nil)) (.lit (.int 5))) (.cons (.bin .mul false (.tup (.cons (.lit (.int 1)) .nil)) (.lit (.int 6))) (.cons (.tup .nil) (.cons (.tup (.cons (.lit (.int 0)) .nil)) (.cons (.tup (.cons (.lit (.int 4)) .nil)) (.cons (.tup (.cons (.lit (.bool true)) .nil)) (.cons (.lst false (.cons (.lit (.int 1)) .nil)) (.cons (.tup (.cons (.lit (.int 1)) (.cons (.lit (.int 3)) .nil))) (.cons (.tup (.cons (.tup (.cons (.lit (.int 1)) .nil)) .nil)) .nil))))))))))) (.seq (.asg false [0] (.bin .add false (.var 0) (.lst false (.cons (.tup (.cons (.lit (.int 1)) (.cons (.lit (.int 0)) (.cons (.lit (.int 1)) .nil)))) (.cons (.tup (.cons (.lit (.int 3)) (.cons (.lit (.int 20)) (.cons (.lit (.int 8)) .nil)))) (.cons (.tup (.cons (.lit (.int 1)) (.cons (.lit (.int 21)) (.cons (.lit (.int 1)) .nil)))) (.cons (.tup (.cons (.lit (.int 1)) (.cons (.lit (.int 0)) (.cons (.lit (.int 9)) .nil)))) (.cons (.tup (.cons (.lit (.int 1)) (.cons (.lit (.int 0)) (.cons (.lit (.int 0)) .nil)))) (.cons (.tup (.cons (.lit (.int 1)) (.cons (.neg (.lit (.int 1))) (.cons (.lit (.int 1)) .nil)))) (.cons (.tup (.cons (.lit (.int 0)) (.cons (.lit (.int 0)) (.cons (.lit (.int 1)) .nil)))) (.cons (.tup (.cons (.lit (.int 4)) (.cons (.lit (.int 0)) (.cons (.lit (.int 1)) .nil)))) (.cons (.tup (.cons (.lit (.int 1)) (.cons (.lit (.int 0)) .nil))) .nil)))))))))))) (.seq (.asg false [0] (.bin .add false (.var 0) (.lst false (.cons (.tup (.cons (.lit (.bool true)) (.cons (.lit (.int 0)) (.cons (.lit (.int 1)) .nil)))) (.cons (.tup (.cons (.lit (.int 1)) (.cons (.lit (.bool false)) (.cons (.lit (.int 1)) .nil)))) (.cons (.lst false (.cons (.lit (.int 1)) (.cons (.lit (.int 0)) (.cons (.lit (.int 1)) .nil)))) (.cons (.tup (.cons (.lit (.int 1)) (.cons (.lit (.int 0)) (.cons (.lit (.int 1)) (.cons (.lit (.int 1)) .nil))))) (.cons (.tup (.cons (.lit (.int 1)) (.cons (.lit .none) (.cons (.lit (.int 1)) .nil)))) .nil)))))))) (.seq (.ret (.bin .add false (.var 0) (.lst false (.cons (.bin .mul false (.tup (.cons (.tup (.cons (.lit (.int 1)) (.cons (.lit (.int 0)) (.cons (.lit (.int 1)) .nil)))) .nil)) (.lit (.int 8))) (.cons (.bin .mul false (.tup (.cons (.tup (.cons (.lit (.int 1)) (.cons (.lit (.int 0)) (.cons (.lit (.int 1)) .nil)))) .nil)) (.lit (.int 9))) (.cons (.tup (.cons (.tup (.cons (.lit (.int 1)) (.cons (.lit (.int 0)) (.cons (.lit (.int 1)) .nil)))) (.cons (.tup (.cons (.lit (.int 1)) (.cons (.lit (.int 0)) .nil))) .nil))) (.cons (.lst false (.cons (.tup (.cons (.lit (.int 1)) (.cons (.lit (.int 0)) (.cons (.lit (.int 1)) .nil)))) .nil)) (.cons (.tup (.cons (.tup (.cons (.lit (.int 3)) (.cons (.lit (.int 20)) (.cons (.lit (.int 8)) .nil)))) .nil)) .nil)))))))) .skip))))
theorem e19 : List.lookup ("_law_fixed" : Str) pr.tab = some ⟨d19.ps, 1, b19⟩ := by rfl
theorem f19 (k : Nat) (g : G) : Fn pr.tab (k + 1) "_law_fixed" [] g = fnR (denS (Fn pr.tab k) b19 [none] g) := fn_at (m := 0) e19 rfl
def b20 : S := (.seq (.par 1 2 (.bf .repr false (.cons (.var 0) .nil)) (.lst false (.cons (.call "_law_is_house" (.cons (.var 0) .nil)) (.cons (.call "_law_is_stay" (.cons (.var 0) .nil)) (.cons (.call "_law_are_stays" (.cons (.var 0) .nil)) .nil))))) (.seq (.for_ false [3] (.rng (.lit (.int 2))) (.seq (.ite (.cmp .ne (.bf .repr false (.cons (.lst false (.cons (.call "is_house" (.cons (.var 0) .nil)) (.cons (.call "is_stay" (.cons (.var 0) .nil)) (.cons (.call "are_stays" (.cons (.var 0) .nil)) .nil)))) .nil)) (.bf .repr false (.cons (.var 2) .nil))) (.seq (.ret (.lit (.bool false))) .skip) .skip) .skip)) (.seq (.ret (.cmp .eq (.bf .repr false (.cons (.var 0) .nil)) (.var 1))) .skip)))
theorem e20 : List.lookup ("_law_right" : Str) pr.tab = some ⟨d20.ps, 4, b20⟩ := by rfl
theorem f20 (k : Nat) (x0 : D) (g : G) : Fn pr.tab (k + 1) "_law_right" [x0] g = fnR (denS (Fn pr.tab k) b20 [some x0, none, none, none] g) := fn_at (m := 1) e20 rfl
def b21 : S := (.seq (.ite (.not_ (.bf .all false (.cons (.comp false false [1] (.seq (.call "_law_fixed" .nil)) .no (.call "_law_right" (.cons (.var 1) .nil))) .nil))) (.seq (.ret (.lit (.bool false))) .skip) .skip) (.seq (.for_ false [2] (.rng (.bf .max false (.cons (.lit (.int 1)) (.cons (.bf .min false (.cons (.bf .len false (.cons (.var 0) .nil)) (.cons (.lit (.int 4)) .nil))) .nil)))) (.seq (.asg false [3] (.call "_law_pen" (.cons (.call "_law_cell_at" (.cons (.var 0) (.cons (.var 2) .nil))) .nil))) (.seq (.par 4 5 (.call "_law_house" (.cons (.var 3) .nil)) (.call "_law_stays" (.cons (.var 3) (.cons (.lit (.int 8)) .nil)))) (.seq (.asg false [6] (.lst true (.cons (.var 4) (.cons (.var 5) (.cons (.call "_law_stay" (.cons (.var 3) .nil)) (.cons (.bf .list false (.cons (.var 4) .nil)) (.cons (.bf .list false (.cons (.var 5) .nil)) (.cons (.call "_law_odd" (.cons (.var 3) .nil)) (.cons (.lit .none) .nil))))))))) (.seq (.for_ false [7] (.rng (.lit (.int 10))) (.seq (.asg false [8] (.call "_law_bent" (.cons (.var 3) (.cons (.var 5) (.cons (.lit (.int 2)) .nil))))) (.seq (.asg false [6] (.bin .add true (.var 6) (.lst false (.cons (.var 8) (.cons (.call "_law_bent" (.cons (.var 3) (.cons (.var 8) (.cons (.lit (.int 2)) .nil)))) (.cons (.call "_law_bent" (.cons (.var 3) (.cons (.var 4) (.cons (.lit (.int 1)) .nil)))) .nil)))))) (.seq (.app (.var 6) (.call "_law_bent" (.cons (.var 3) (.cons (.call "_law_stay" (.cons (.var 3) .nil)) (.cons (.lit (.int 1)) .nil))))) .skip)))) (.seq (.ite (.not_ (.bf .all false (.cons (.comp false false [1] (.seq (.var 6)) .no (.call "_law_right" (.cons (.var 1) .nil))) .nil))) (.seq (.ret (.lit (.bool false))) .skip) .skip) .skip)))))) (.seq (.ret (.lit (.bool true))) .skip)))
theorem e21 : List.lookup ("law" : Str) pr.tab = some ⟨d21.ps, 9, b21⟩ := by rfl
theorem f21 (k : Nat) (x0 : D) (g : G) : Fn pr.tab (k + 1) "law" [x0] g = fnR (denS (Fn pr.tab k) b21 [some x0, none, none, none, none, none, none, none, none] g) := fn_at (m := 1) e21 rfl
end K01

set_option Elab.async false
set_option linter.all false
set_option maxRecDepth 100000
namespace K01
open PySem En
local macro_rules | `(tactic| walk_at "ev") => `(tactic| simp only [denS, den, dens, denT, denO, denC, denI, tst_f, tst_t, tst_s, R.bind_ok, R.bind_stuck, R.toS_ok, R.toS_stuck, SR.andThen_nx, SR.andThen_rt, SR.andThen_stuck, SR.andThen_bk, SR.andThen_ct, fnR_rt, fnR_nx, fnR_stuck, asB_bool, truth_bool, truth_int, truth_none, truth_list, truth_tuple, cmp_lt, cmp_le, cmp_gt, cmp_ge, cmp_eqI, cmp_neI, cmp_eqS, cmp_neS, cmp_eqT0, bin_addI, bin_subI, neg_int, len_tup, len_list, len_kl, max_int, min_int,
  List.getElem?_cons_zero, List.getElem?_cons_succ, List.set_cons_zero, List.set_cons_succ, Bool.false_eq_true, if_false, if_true, Bool.not_true, Bool.not_false, R.nox_ok, R.nox_stuck, asgT])
/-! ## what the defs tell, upon plain data -/
def wholeP : PyData → Bool
  | .int _ => true
  | _ => false
def withinP (d : PyData) (lo hi : Int) : Bool := match d with
  | .int i => decide (lo ≤ i) && decide (i ≤ hi)
  | _ => false
theorem is_whole_ok (k : Nat) (d : PyData) (g : G) : Fn pr.tab (k + 1) "is_whole" [.p d] g = .ok (.p (.bool (wholeP d))) g := by
  rw [f0]
  cases d <;> rfl
theorem is_within_ok (k : Nat) (d : PyData) (lo hi : Int) (g : G) : Fn pr.tab (k + 2) "is_within" [.p d, .p (.int lo), .p (.int hi)] g = .ok (.p (.bool (withinP d lo hi))) g := by
  rw [f1, b1]
  walk_at "ev"
  rw [is_whole_ok]
  walk_at "ev"
  cases d <;> try rfl
  next i =>
    simp only [wholeP, withinP, if_true]
    walk_at "ev"
    by_cases h : lo ≤ i
    · simp [h, cmp_le, fnR_rt]
    · simp [h, fnR_rt]
theorem is_kind_ok (k : Nat) (d : PyData) (g : G) : Fn pr.tab (k + 3) "is_kind" [.p d] g = .ok (.p (.bool (withinP d 1 3))) g := by
  rw [f2, b2]
  walk_at "ev"
  rw [is_within_ok]
  walk_at "ev"
/-- all([F(x) for x in t]) -/
theorem comp_seq {fI : En.Env → G → R Src} {fe : En.Env → G → R D} {i : Nat} {ρ : En.Env} {g : G} {ds : List PyData} {h : PyData → PyData} (hI : fI ρ g = .ok (.vals (ds.map .p)) g) (he : ∀ d ∈ ds, fe ((wipeD ρ [i]).set i (some (.p d))) g = .ok (.p (h d)) g) (hl : ds.length ≤ lim) :
    compF fI (fun _ g => .ok true g) fe false false [i] ρ g = .ok (.p (.list (ds.map h))) g := by
  rw [compF_vals hI, compL_map (h := fun d => match d with | .p d => .p (h d) | d => d) _ _ (fun d m => ?_) (by simpa using hl)]
  · simp only [R.bind_ok, List.nil_append, List.map_map]
    have e : (((fun d => match d with | .p d => D.p (h d) | d => d) : D → D) ∘ D.p) = fun d => D.p (h d) := rfl
    rw [e]
    unfold fin
    rw [if_pos (by simpa using hl)]
    simp only [Bool.false_eq_true, if_false]
    have e2 : ds.map (fun d => D.p (h d)) = (ds.map h).map D.p := by rw [List.map_map]; rfl
    rw [e2, allP_map]
  · obtain ⟨d', m', rfl⟩ := List.mem_map.mp m
    simp only [asgT, R.nox_ok, R.bind_ok, if_true]
    rw [he d' m']
    rfl
theorem all_bools {ds : List PyData} {h : PyData → Bool} {g : G} {mu : Bool} : opBf .all mu [.p (.list (ds.map fun d => .bool (h d)))] g = .ok (.p (.bool (ds.all h))) g := by
  have e : ds.map (fun d => PyData.bool (h d)) = (ds.map h).map PyData.bool := by rw [List.map_map]; rfl
  rw [e, all_list, List.all_map]
  rfl
def houseP (d : PyData) : Bool := match d with
  | .tuple ds => decide (1 ≤ (ds.length : Int)) && decide ((ds.length : Int) ≤ 5) && ds.all fun d => withinP d 1 3
  | _ => false
def stayP (d : PyData) : Bool := match d with
  | .tuple [a, b, c] => withinP a 1 3 && withinP b 0 20 && withinP c 1 8
  | _ => false
def staysP (d : PyData) : Bool := match d with
  | .tuple ds => decide ((ds.length : Int) ≤ 8) && ds.all stayP
  | _ => false
theorem is_house_ok (k : Nat) (d : PyData) (g : G) : Fn pr.tab (k + 4) "is_house" [.p d] g = .ok (.p (.bool (houseP d))) g := by
  rw [f3, b3]
  cases d with
  | tuple ds =>
    have hi : isiD (.p (.tuple ds)) .tuple g = .ok (.p (.bool true)) g := rfl
    walk_at "ev"
    rw [hi]
    walk_at "ev"
    by_cases h1 : (1 : Int) ≤ ds.length
    · by_cases h2 : (ds.length : Int) ≤ 5
      · simp only [h1, h2, decide_true, if_true]
        walk_at "ev"
        rw [comp_seq (ds := ds) (h := fun d => .bool (withinP d 1 3)) ?_ (fun d _ => ?_) (by unfold lim; omega)]
        · walk_at "ev"
          rw [all_bools]
          walk_at "ev"
          simp [houseP, h1, h2]
        · rfl
        · show R.bind (R.ok _ _) _ = _
          simp only [R.bind_ok]
          exact is_kind_ok k d g
      · simp only [h1, h2, decide_true, decide_false, if_true]
        walk_at "ev"
        simp [houseP, h2]
    · simp only [h1, decide_false]
      walk_at "ev"
      simp [houseP, h1]
  | _ => rfl
theorem is_stay_ok (k : Nat) (d : PyData) (g : G) : Fn pr.tab (k + 4) "is_stay" [.p d] g = .ok (.p (.bool (stayP d))) g := by
  rw [f4, b4]
  cases d with
  | tuple ds =>
    have hi : isiD (.p (.tuple ds)) .tuple g = .ok (.p (.bool true)) g := rfl
    walk_at "ev"
    rw [hi]
    walk_at "ev"
    by_cases h3 : (ds.length : Int) = 3
    · obtain ⟨a, b, c, rfl⟩ : ∃ a b c, ds = [a, b, c] := by
        match ds, h3 with
        | [a, b, c], _ => exact ⟨a, b, c, rfl⟩
      simp only [h3, decide_true, Bool.not_true]
      walk_at "ev"
      simp only [List.length_cons, List.length_nil, sets, List.map_cons, List.map_nil, if_true]
      walk_at "ev"
      rw [is_kind_ok]
      walk_at "ev"
      simp only [stayP]
      cases withinP a 1 3 with
      | false => simp [fnR_rt]
      | true =>
        simp only [if_true]
        rw [is_within_ok]
        walk_at "ev"
        cases withinP b 0 20 with
        | false => simp [fnR_rt]
        | true =>
          simp only [if_true]
          rw [is_within_ok]
          walk_at "ev"
          simp
    · simp only [h3, decide_false, Bool.not_false]
      walk_at "ev"
      have : stayP (.tuple ds) = false := by
        unfold stayP
        split
        · next q => cases q; exact absurd rfl h3
        · rfl
      rw [this]
  | _ => rfl
theorem are_stays_ok (k : Nat) (d : PyData) (g : G) : Fn pr.tab (k + 5) "are_stays" [.p d] g = .ok (.p (.bool (staysP d))) g := by
  rw [f5, b5]
  cases d with
  | tuple ds =>
    have hi : isiD (.p (.tuple ds)) .tuple g = .ok (.p (.bool true)) g := rfl
    walk_at "ev"
    rw [hi]
    walk_at "ev"
    by_cases h2 : (8 : Int) < ds.length
    · simp only [h2, decide_true]
      walk_at "ev"
      simp only [staysP]
      rw [decide_eq_false (by omega)]
      rfl
    · simp only [h2, decide_false]
      walk_at "ev"
      rw [comp_seq (ds := ds) (h := fun d => .bool (stayP d)) ?_ (fun d _ => ?_) (by unfold lim; omega)]
      · walk_at "ev"
        rw [all_bools]
        walk_at "ev"
        simp only [staysP]
        rw [decide_eq_true (by omega), Bool.true_and]
      · rfl
      · show R.bind (R.ok _ _) _ = _
        simp only [R.bind_ok]
        exact is_stay_ok k d g
  | _ => rfl
end K01

set_option Elab.async false
set_option linter.all false
set_option maxRecDepth 100000
namespace K01
open PySem En
local macro_rules | `(tactic| walk_at "ev") => `(tactic| simp only [denS, den, dens, denT, denO, denC, denI, tst_f, tst_t, tst_s, R.bind_ok, R.bind_stuck, R.toS_ok, R.toS_stuck, SR.andThen_nx, SR.andThen_rt, SR.andThen_stuck, SR.andThen_bk, SR.andThen_ct, fnR_rt, fnR_nx, fnR_stuck, asB_bool, truth_bool, truth_int, truth_none, truth_list, truth_tuple, cmp_lt, cmp_le, cmp_gt, cmp_ge, cmp_eqI, cmp_neI, cmp_eqS, cmp_neS, cmp_eqT0, bin_addI, bin_subI, neg_int, len_tup, len_list, len_kl, max_int, min_int,
  List.getElem?_cons_zero, List.getElem?_cons_succ, List.set_cons_zero, List.set_cons_succ, Bool.false_eq_true, if_false, if_true, Bool.not_true, Bool.not_false, R.nox_ok, R.nox_stuck, asgT])
theorem l_whole_ok (k : Nat) (d : PyData) (g : G) : Fn pr.tab (k + 1) "_law_whole" [.p d] g = .ok (.p (.bool (wholeP d))) g := by
  rw [f9]
  cases d <;> rfl
theorem l_within_ok (k : Nat) (d : PyData) (lo hi : Int) (g : G) : Fn pr.tab (k + 2) "_law_within" [.p d, .p (.int lo), .p (.int hi)] g = .ok (.p (.bool (withinP d lo hi))) g := by
  rw [f10, b10]
  walk_at "ev"
  rw [l_whole_ok]
  walk_at "ev"
  cases d <;> try rfl
  next i =>
    simp only [wholeP, withinP, if_true]
    walk_at "ev"
    by_cases h : lo ≤ i
    · simp [h, cmp_le, fnR_rt]
    · simp [h, fnR_rt]
theorem l_is_house_ok (k : Nat) (d : PyData) (g : G) : Fn pr.tab (k + 3) "_law_is_house" [.p d] g = .ok (.p (.bool (houseP d))) g := by
  rw [f16, b16]
  cases d with
  | tuple ds =>
    have hi : isiD (.p (.tuple ds)) .tuple g = .ok (.p (.bool true)) g := rfl
    walk_at "ev"
    rw [hi]
    walk_at "ev"
    by_cases h1 : (1 : Int) ≤ ds.length
    · by_cases h2 : (ds.length : Int) ≤ 5
      · simp only [h1, h2, decide_true, if_true]
        walk_at "ev"
        rw [comp_seq (ds := ds) (h := fun d => .bool (withinP d 1 3)) ?_ (fun d _ => ?_) (by unfold lim; omega)]
        · walk_at "ev"
          rw [all_bools]
          walk_at "ev"
          simp [houseP, h1, h2]
        · rfl
        · show R.bind (R.ok _ _) _ = _
          simp only [R.bind_ok]
          exact l_within_ok k d 1 3 g
      · simp only [h1, h2, decide_true, decide_false, if_true]
        walk_at "ev"
        simp [houseP, h2]
    · simp only [h1, decide_false]
      walk_at "ev"
      simp [houseP, h1]
  | _ => rfl
theorem l_is_stay_ok (k : Nat) (d : PyData) (g : G) : Fn pr.tab (k + 3) "_law_is_stay" [.p d] g = .ok (.p (.bool (stayP d))) g := by
  rw [f17, b17]
  cases d with
  | tuple ds =>
    have hi : isiD (.p (.tuple ds)) .tuple g = .ok (.p (.bool true)) g := rfl
    walk_at "ev"
    rw [hi]
    walk_at "ev"
    by_cases h3 : (ds.length : Int) = 3
    · obtain ⟨a, b, c, rfl⟩ : ∃ a b c, ds = [a, b, c] := by
        match ds, h3 with
        | [a, b, c], _ => exact ⟨a, b, c, rfl⟩
      have i0 : opIx (.p (.tuple [a, b, c])) (.p (.int 0)) g = .ok (.p a) g := rfl
      have i1 : opIx (.p (.tuple [a, b, c])) (.p (.int 1)) g = .ok (.p b) g := rfl
      have i2 : opIx (.p (.tuple [a, b, c])) (.p (.int 2)) g = .ok (.p c) g := rfl
      simp only [h3, decide_true, Bool.not_true]
      walk_at "ev"
      rw [i0]
      walk_at "ev"
      rw [l_within_ok]
      walk_at "ev"
      simp only [stayP]
      cases withinP a 1 3 with
      | false => simp [fnR_rt]
      | true =>
        walk_at "ev"
        rw [i1]
        walk_at "ev"
        rw [l_within_ok]
        walk_at "ev"
        cases withinP b 0 20 with
        | false => simp [fnR_rt]
        | true =>
          simp only [if_true]
          rw [i2]
          walk_at "ev"
          rw [l_within_ok]
          walk_at "ev"
          simp
    · simp only [h3, decide_false, Bool.not_false]
      walk_at "ev"
      have : stayP (.tuple ds) = false := by
        unfold stayP
        split
        · next q => cases q; exact absurd rfl h3
        · rfl
      rw [this]
  | _ => rfl
theorem l_are_stays_ok (k : Nat) (d : PyData) (g : G) : Fn pr.tab (k + 4) "_law_are_stays" [.p d] g = .ok (.p (.bool (staysP d))) g := by
  rw [f18, b18]
  cases d with
  | tuple ds =>
    have hi : isiD (.p (.tuple ds)) .tuple g = .ok (.p (.bool true)) g := rfl
    walk_at "ev"
    rw [hi]
    walk_at "ev"
    by_cases h2 : (ds.length : Int) ≤ 8
    · simp only [h2, decide_true, if_true]
      (try walk_at "ev")
      rw [comp_seq (ds := ds) (h := fun d => .bool (stayP d)) ?_ (fun d _ => ?_) (by unfold lim; omega)]
      · walk_at "ev"
        rw [all_bools]
        walk_at "ev"
        simp [staysP, h2]
      · rfl
      · show R.bind (R.ok _ _) _ = _
        simp only [R.bind_ok]
        exact l_is_stay_ok k d g
    · simp only [h2, decide_false]
      (try walk_at "ev")
      simp [staysP, h2, fnR_rt]
  | _ => rfl
/-! ## what repr shows is small enough -/
mutual
def wt : PyData → Nat
  | .none => 5
  | .bool _ => 5
  | .int _ => 1921
  | .str x => (reprText x).length
  | .list ds => 3 + wts ds
  | .tuple ds => 3 + wts ds
  | .dict ds => 2 + wtk ds
def wts : List PyData → Nat
  | [] => 0
  | d :: r => wt d + 2 + wts r
def wtk : List (PyData × PyData) → Nat
  | [] => 0
  | (k, v) :: r => wt k + 2 + wt v + 2 + wtk r
end
mutual
def mx : PyData → Nat
  | .int i => i.natAbs
  | .list ds => mxs ds
  | .tuple ds => mxs ds
  | .dict ds => mxk ds
  | _ => 0
def mxs : List PyData → Nat
  | [] => 0
  | d :: r => max (mx d) (mxs r)
def mxk : List (PyData × PyData) → Nat
  | [] => 0
  | (k, v) :: r => max (max (mx k) (mx v)) (mxk r)
end
theorem join_len (sep : Str) : ∀ (ts : List Str), (Str.join sep ts).length ≤ (ts.map (fun t => t.length + sep.length)).sum
  | [] => by show 0 ≤ _; omega
  | [x] => by show x.length ≤ _; simp
  | x :: y :: r => by
    have ih := join_len sep (y :: r)
    show (x ++ sep ++ Str.join sep (y :: r)).length ≤ _
    rw [strLen_append, strLen_append, List.map_cons, List.sum_cons]
    omega
theorem text_len : ∀ (ts : List Str) (k : Nat) (acc : Str), (textFrom k acc ts).length ≤ acc.length + (ts.map (fun t => t.length + 2)).sum
  | [], k, acc => by show acc.length ≤ _; simp
  | t :: r, k, acc => by
    have ih := text_len r (k + 1) (acc ++ (if k > 0 then ", " else "" : String) ++ t)
    show (textFrom (k + 1) (acc ++ (if k > 0 then ", " else "" : String) ++ t) r).length ≤ _
    rw [List.map_cons, List.sum_cons]
    rw [strLen_append, strLen_append] at ih
    have : (Str.ofString (if k > 0 then ", " else "" : String)).length ≤ 2 := by split <;> decide
    omega
mutual
theorem shown_le : ∀ (d : PyData), mx d < 2 ^ 1900 → d.showable = true ∧ d.shown.length ≤ wt d
  | .none, _ => ⟨by simp [PyData.showable], by simp only [PyData.shown, wt]; decide⟩
  | .bool b, _ => ⟨by simp [PyData.showable], by simp only [PyData.shown, wt]; cases b <;> decide⟩
  | .int i, h => by
    have hl : i.natAbs.log2 < 1920 := by
      simp only [mx] at h
      by_cases h0 : i.natAbs = 0
      · rw [h0]; decide
      · exact (Nat.log2_lt h0).mpr (Nat.lt_of_lt_of_le h (Nat.pow_le_pow_right (by decide) (by decide)))
    refine ⟨by simp only [PyData.showable]; exact decide_eq_true hl, ?_⟩
    simp only [PyData.shown, wt]
    exact PyProof.Rows.int_text_len_1921 hl
  | .str x, _ => ⟨by simp [PyData.showable], by simp only [PyData.shown, wt]; exact Nat.le_refl _⟩
  | .list ds, h => by
    simp only [mx] at h
    obtain ⟨h1, h2⟩ := shown_les ds h
    refine ⟨by simp only [PyData.showable]; exact h1, ?_⟩
    simp only [PyData.shown, wt]
    have := text_len (PyData.shownAll ds) 0 "["
    unfold listText
    rw [strLen_append]
    have e1 : (Str.ofString "[").length = 1 := by decide
    have e2 : (Str.ofString "]").length = 1 := by decide
    omega
  | .tuple ds, h => by
    simp only [mx] at h
    obtain ⟨h1, h2⟩ := shown_les ds h
    refine ⟨by simp only [PyData.showable]; exact h1, ?_⟩
    simp only [PyData.shown, wt]
    have := join_len ", " (PyData.shownAll ds)
    have e0 : (Str.ofString ", ").length = 2 := by decide
    rw [e0] at this
    unfold tupleText
    rw [strLen_append, strLen_append]
    have e1 : (Str.ofString "(").length = 1 := by decide
    have e2 : (Str.ofString (if ((PyData.shownAll ds).length == 1) = true then ",)" else ")" : String)).length ≤ 2 := by split <;> decide
    omega
  | .dict ds, h => by
    simp only [mx] at h
    obtain ⟨h1, h2⟩ := shown_lek ds h
    refine ⟨by simp only [PyData.showable]; exact h1, ?_⟩
    simp only [PyData.shown, wt]
    have := join_len ", " (PyData.shownKv ds)
    have e0 : (Str.ofString ", ").length = 2 := by decide
    rw [e0] at this
    unfold dictText
    rw [strLen_append, strLen_append]
    have e1 : (Str.ofString "{").length = 1 := by decide
    have e2 : (Str.ofString "}").length = 1 := by decide
    omega
theorem shown_les : ∀ (ds : List PyData), mxs ds < 2 ^ 1900 → PyData.showableAll ds = true ∧ ((PyData.shownAll ds).map (fun t => t.length + 2)).sum ≤ wts ds
  | [], _ => ⟨by simp [PyData.showableAll], by simp [PyData.shownAll, wts]⟩
  | d :: ds, h => by
    simp only [mxs] at h
    obtain ⟨h1, h2⟩ := shown_le d (by omega)
    obtain ⟨h3, h4⟩ := shown_les ds (by omega)
    refine ⟨by simp only [PyData.showableAll, h1, h3, Bool.and_self], ?_⟩
    simp only [PyData.shownAll, wts, List.map_cons, List.sum_cons]
    omega
theorem shown_lek : ∀ (ds : List (PyData × PyData)), mxk ds < 2 ^ 1900 → PyData.showableKv ds = true ∧ ((PyData.shownKv ds).map (fun t => t.length + 2)).sum ≤ wtk ds
  | [], _ => ⟨by simp [PyData.showableKv], by simp [PyData.shownKv, wtk]⟩
  | (x, y) :: ds, h => by
    simp only [mxk] at h
    obtain ⟨h1, h2⟩ := shown_le x (by omega)
    obtain ⟨h5, h6⟩ := shown_le y (by omega)
    obtain ⟨h3, h4⟩ := shown_lek ds (by omega)
    refine ⟨by simp only [PyData.showableKv, h1, h3, h5, Bool.and_self], ?_⟩
    simp only [PyData.shownKv, wtk, List.map_cons, List.sum_cons]
    rw [strLen_append, strLen_append]
    have e0 : (Str.ofString ": ").length = 2 := by decide
    omega
end
/-- data that may be shown -/
structure Nice (M B dp : Nat) (d : PyData) : Prop where
  m : mx d ≤ M
  w : wt d ≤ B
  p : d.depth ≤ dp
theorem repr_ok {M B dp : Nat} {d : PyData} {g : G} {mu : Bool} (n : Nice M B dp d) (hM : M < 2 ^ 1900) (hB : B ≤ lim) (hp : dp ≤ 60) : opBf .repr mu [.p d] g = .ok (.p (.str d.shown)) g := by
  obtain ⟨h1, h2⟩ := shown_le d (Nat.lt_of_le_of_lt n.m hM)
  show bfRepr (.p d) g = _
  unfold bfRepr pure?
  simp only
  rw [if_pos ⟨h1, Nat.le_trans h2 (Nat.le_trans n.w hB), Nat.le_trans n.p hp⟩]
end K01

set_option Elab.async false
set_option linter.all false
set_option maxRecDepth 100000
namespace K01
open PySem En
local macro_rules | `(tactic| walk_at "wp") => `(tactic| repeat (first
  | with_reducible refine w_seq ?_ | with_reducible refine w_skip ?_ | with_reducible refine w_ret ?_ | with_reducible refine w_retN ?_ | with_reducible refine w_ex ?_ | with_reducible refine w_asg ?_ | with_reducible refine w_par ?_ | with_reducible refine w_if ?_
  | with_reducible refine w_dcons ?_ | with_reducible refine w_dnil ?_
  | with_reducible refine w_lit ?_ | with_reducible refine w_var (by with_unfolding_all rfl) ?_ | with_reducible refine w_call ?_ | with_reducible refine w_bf ?_ | with_reducible refine w_bin ?_ | with_reducible refine w_cmp ?_ | with_reducible refine w_chain ?_ | with_reducible refine w_and ?_ | with_reducible refine w_or ?_ | with_reducible refine w_not ?_ | with_reducible refine w_neg ?_ | with_reducible refine w_ife ?_ | with_reducible refine w_tup ?_ | with_reducible refine w_lst ?_ | with_reducible refine w_ix ?_ | with_reducible refine w_sl ?_ | with_reducible refine w_rev ?_ | with_reducible refine w_isi ?_
  | with_reducible refine w_varT ?_ | with_reducible refine w_callT ?_ | with_reducible refine w_bfT ?_ | with_reducible refine w_binT ?_ | with_reducible refine w_ixT ?_ | with_reducible refine w_isiT ?_ | with_reducible refine w_litT ?_
  | with_reducible refine w_ono ?_ | with_reducible refine w_oso ?_ | with_reducible refine w_cno ?_ | with_reducible refine w_cso ?_ | with_reducible refine w_pno ?_ | with_reducible refine w_pso ?_ | with_reducible refine w_asB ?_ | with_reducible refine w_trB ?_ | with_reducible refine w_trI ?_
  | with_reducible refine w_iseq ?_ | with_reducible refine w_irng ?_ | with_reducible refine w_irng2 ?_ | with_reducible refine w_srcT ?_ | with_reducible refine w_srcL ?_
  | with_reducible refine Wp.of (cmp_lt _ _ _) ?_ | with_reducible refine Wp.of (cmp_le _ _ _) ?_ | with_reducible refine Wp.of (cmp_gt _ _ _) ?_ | with_reducible refine Wp.of (cmp_ge _ _ _) ?_ | with_reducible refine Wp.of (cmp_eqI _ _ _) ?_ | with_reducible refine Wp.of (cmp_neI _ _ _) ?_ | with_reducible refine Wp.of (cmp_eqS _ _ _) ?_ | with_reducible refine Wp.of (cmp_neS _ _ _) ?_ | with_reducible refine Wp.of (cmp_eqT0 _ _) ?_
  | with_reducible refine Wp.of (bin_addI _ _ _ _) ?_ | with_reducible refine Wp.of (bin_subI _ _ _ _) ?_ | with_reducible refine Wp.of (neg_int _ _) ?_ | with_reducible refine Wp.of (len_tup _ _ _) ?_ | with_reducible refine Wp.of (len_list _ _ _) ?_ | with_reducible refine Wp.of (max_int _ _ _ _) ?_ | with_reducible refine Wp.of (min_int _ _ _ _) ?_
  | with_reducible refine w_finB (by with_unfolding_all rfl) (by with_unfolding_all rfl) ?_ | with_reducible refine w_finTB (by with_unfolding_all rfl) (by with_unfolding_all rfl) ?_ | with_reducible refine w_finMB (by with_unfolding_all rfl) ?_))

theorem nice3 (a b c : Bool) : Nice 0 40 5 (.list [.bool a, .bool b, .bool c]) := by
  refine ⟨by simp [mx, mxs], by simp [wt, wts], by simp [PyData.depth, PyData.depthAll]⟩
theorem repr3 (a b c : Bool) (g : G) : opBf .repr false [.p (.list [.bool a, .bool b, .bool c])] g = .ok (.p (.str (PyData.shown (.list [.bool a, .bool b, .bool c])))) g := repr_ok (nice3 a b c) (by decide) (by show 40 ≤ lim; decide) (by decide)
theorem right_ok (k : Nat) (d : PyData) (g : G) {M B dp : Nat} (n : Nice M B dp d) (hM : M < 2 ^ 1900) (hB : B ≤ lim) (hp : dp ≤ 60) : Wp (Fn pr.tab (k + 6) "_law_right" [.p d] g) fun d' g' => d' = .p (.bool true) ∧ g' = g := by
  rw [f20, b20]
  refine w_fn ?_
  walk_at "wp"
  refine Wp.of (repr_ok n hM hB hp) ?_
  walk_at "wp"
  refine Wp.of (l_is_house_ok (k + 2) d g) ?_
  walk_at "wp"
  refine Wp.of (l_is_stay_ok (k + 2) d g) ?_
  walk_at "wp"
  refine Wp.of (l_are_stays_ok (k + 1) d g) ?_
  walk_at "wp"
  refine w_for ?_
  walk_at "wp"
  refine w_srcG (by decide) ?_
  refine ⟨_, rfl, fun _ ρ g' => g' = g ∧ ∃ x, ρ = [some (D.p d), some (D.p (.str d.shown)), some (D.p (.list [.bool (houseP d), .bool (stayP d), .bool (staysP d)])), x], ⟨rfl, none, rfl⟩, ?_, ?_⟩
  · rintro v rest ρ g' ⟨rfl, x, rfl⟩
    walk_at "wp"
    refine Wp.of (is_house_ok (k + 1) d g') ?_
    walk_at "wp"
    refine Wp.of (is_stay_ok (k + 1) d g') ?_
    walk_at "wp"
    refine Wp.of (are_stays_ok k d g') ?_
    walk_at "wp"
    refine Wp.of (repr3 _ _ _ _) ?_
    walk_at "wp"
    refine Wp.of (repr3 _ _ _ _) ?_
    walk_at "wp"
    refine ⟨fun q => ?_, fun _ => ?_⟩
    · simp at q
    · walk_at "wp"
      exact ⟨rfl, _, rfl⟩
  · rintro ρ g' ⟨rfl, x, rfl⟩
    walk_at "wp"
    refine Wp.of (repr_ok n hM hB hp) ?_
    walk_at "wp"
    exact ⟨by simp, rfl⟩
/-! ## draws -/
/-- the pen p: so many draws more -/
structure PenAt (p r : Nat) (g : G) : Prop where
  is : ∃ a b n : Int, g[p]? = some (.lst [.p (.int a), .p (.int b), .p (.int n)]) ∧ 0 ≤ b ∧ b < 1000000007 ∧ 0 ≤ n ∧ n + r ≤ 1000000
/-- nothing but the pen is otherwise -/
def Same (p : Nat) (g g' : G) : Prop := ∃ o, g' = g.set p o
theorem Same.trans {p : Nat} {g g' g'' : G} (h : Same p g g') (h' : Same p g' g'') : Same p g g'' := by
  obtain ⟨o, rfl⟩ := h
  obtain ⟨o', rfl⟩ := h'
  exact ⟨o', by rw [List.set_set]⟩
theorem Same.get {p q : Nat} {g g' : G} (h : Same p g g') (hq : p ≠ q) : g'[q]? = g[q]? := by
  obtain ⟨o, rfl⟩ := h
  exact List.getElem?_set_ne hq
theorem Same.len {p : Nat} {g g' : G} (h : Same p g g') : g'.length = g.length := by
  obtain ⟨o, rfl⟩ := h
  exact List.length_set
theorem PenAt.le {p r s : Nat} {g : G} (h : PenAt p r g) (hs : s ≤ r) : PenAt p s g := by
  obtain ⟨a, b, n, h1, h2, h3, h4, h5⟩ := h.is
  exact ⟨a, b, n, h1, h2, h3, h4, by omega⟩
theorem draw_ok (k : Nat) {p r : Nat} {m : Int} {g : G} (P : PenAt p (r + 1) g) (hm : 0 < m ∧ m < 1073741824) : Wp (Fn pr.tab (k + 1) "_law_draw" [.ref p, .p (.int m)] g) fun d g' => ∃ x : Int, d = .p (.int x) ∧ 0 ≤ x ∧ x < m ∧ PenAt p r g' ∧ Same p g g' := by
  obtain ⟨a, b, n, hp, b0, b1, n0, n1⟩ := P.is
  have hl : p < g.length := (List.getElem?_eq_some_iff.mp hp).1
  rw [f8, b8]
  refine w_fn ?_
  walk_at "wp"
  refine w_ixR hp rfl ?_
  walk_at "wp"
  refine ⟨fun _ => ?_, fun _ => ?_⟩
  · walk_at "wp"
    refine w_ixR hp rfl ?_
    walk_at "wp"
    refine Wp.of (bin_modI _ _ _ _ hm.1) ?_
    refine w_seq (w_setIx ?_)
    walk_at "wp"
    refine w_ixR hp rfl ?_
    walk_at "wp"
    refine Wp.of (bin_divI _ _ _ _ hm) ?_
    walk_at "wp"
    refine ⟨p, 0, _, 0, rfl, rfl, hp, rfl, ?_⟩
    walk_at "wp"
    refine ⟨_, rfl, Int.emod_nonneg _ (by omega), Int.emod_lt_of_pos _ hm.1, ⟨a / m, b, n, ?_, b0, b1, n0, by omega⟩, _, rfl⟩
    rw [List.getElem?_set_self hl]; rfl
  · walk_at "wp"
    refine w_setIx ?_
    walk_at "wp"
    refine w_ixR hp rfl ?_
    walk_at "wp"
    refine ⟨p, 2, _, 2, rfl, rfl, hp, rfl, ?_⟩
    have hp' : (g.set p (.lst ([D.p (.int a), .p (.int b), .p (.int n)].set 2 (D.p (.int (n + 1))))))[p]? = some (.lst [.p (.int a), .p (.int b), .p (.int (n + 1))]) := by rw [List.getElem?_set_self hl]; rfl
    walk_at "wp"
    refine w_ixR hp' rfl ?_
    walk_at "wp"
    refine w_ixR hp' rfl ?_
    refine Wp.of (bin_mulI _ _ _ _ (by omega)) ?_
    walk_at "wp"
    refine w_ixR hp' rfl ?_
    refine Wp.of (bin_mulI _ _ _ _ (by omega)) ?_
    walk_at "wp"
    refine Wp.of (bin_mulI _ _ _ _ (by omega)) ?_
    walk_at "wp"
    refine Wp.of (bin_modI _ _ _ _ (by omega)) ?_
    have s0 := Int.emod_nonneg ((b + 17 * (n + 1)) * (69621 + 2 * (n + 1))) (b := 2147483647) (by omega)
    have s1 := Int.emod_lt_of_pos ((b + 17 * (n + 1)) * (69621 + 2 * (n + 1))) (b := 2147483647) (by omega)
    generalize (b + 17 * (n + 1)) * (69621 + 2 * (n + 1)) % 2147483647 = s at s0 s1 ⊢
    walk_at "wp"
    refine Wp.of (bin_mulI _ _ _ _ (by omega)) ?_
    walk_at "wp"
    refine w_ixR hp' rfl ?_
    refine Wp.of (bin_mulI _ _ _ _ (by omega)) ?_
    walk_at "wp"
    refine Wp.of (bin_modI _ _ _ _ (by omega)) ?_
    walk_at "wp"
    refine Wp.of (bin_mulI _ _ _ _ (by omega)) ?_
    walk_at "wp"
    refine Wp.of (bin_modI _ _ _ _ (by omega)) ?_
    walk_at "wp"
    refine Wp.of (bin_divI _ _ _ _ (by omega)) ?_
    walk_at "wp"
    refine Wp.of (bin_modI _ _ _ _ hm.1) ?_
    walk_at "wp"
    exact ⟨_, rfl, Int.emod_nonneg _ (by omega), Int.emod_lt_of_pos _ hm.1, ⟨a, b, n + 1, hp', b0, b1, by omega, by omega⟩, _, rfl⟩
end K01

set_option Elab.async false
set_option linter.all false
set_option maxRecDepth 100000
namespace K01
open PySem En
local macro_rules | `(tactic| walk_at "wp") => `(tactic| repeat (first
  | with_reducible refine w_seq ?_ | with_reducible refine w_skip ?_ | with_reducible refine w_ret ?_ | with_reducible refine w_retN ?_ | with_reducible refine w_ex ?_ | with_reducible refine w_asg ?_ | with_reducible refine w_par ?_ | with_reducible refine w_if ?_
  | with_reducible refine w_dcons ?_ | with_reducible refine w_dnil ?_
  | with_reducible refine w_lit ?_ | with_reducible refine w_var (by with_unfolding_all rfl) ?_ | with_reducible refine w_call ?_ | with_reducible refine w_bf ?_ | with_reducible refine w_bin ?_ | with_reducible refine w_cmp ?_ | with_reducible refine w_chain ?_ | with_reducible refine w_and ?_ | with_reducible refine w_or ?_ | with_reducible refine w_not ?_ | with_reducible refine w_neg ?_ | with_reducible refine w_ife ?_ | with_reducible refine w_tup ?_ | with_reducible refine w_lst ?_ | with_reducible refine w_ix ?_ | with_reducible refine w_sl ?_ | with_reducible refine w_rev ?_ | with_reducible refine w_isi ?_
  | with_reducible refine w_varT ?_ | with_reducible refine w_callT ?_ | with_reducible refine w_bfT ?_ | with_reducible refine w_binT ?_ | with_reducible refine w_ixT ?_ | with_reducible refine w_isiT ?_ | with_reducible refine w_litT ?_
  | with_reducible refine w_ono ?_ | with_reducible refine w_oso ?_ | with_reducible refine w_cno ?_ | with_reducible refine w_cso ?_ | with_reducible refine w_pno ?_ | with_reducible refine w_pso ?_ | with_reducible refine w_asB ?_ | with_reducible refine w_trB ?_ | with_reducible refine w_trI ?_
  | with_reducible refine w_iseq ?_ | with_reducible refine w_irng ?_ | with_reducible refine w_irng2 ?_ | with_reducible refine w_srcT ?_ | with_reducible refine w_srcL ?_
  | with_reducible refine Wp.of (cmp_lt _ _ _) ?_ | with_reducible refine Wp.of (cmp_le _ _ _) ?_ | with_reducible refine Wp.of (cmp_gt _ _ _) ?_ | with_reducible refine Wp.of (cmp_ge _ _ _) ?_ | with_reducible refine Wp.of (cmp_eqI _ _ _) ?_ | with_reducible refine Wp.of (cmp_neI _ _ _) ?_ | with_reducible refine Wp.of (cmp_eqS _ _ _) ?_ | with_reducible refine Wp.of (cmp_neS _ _ _) ?_ | with_reducible refine Wp.of (cmp_eqT0 _ _) ?_
  | with_reducible refine Wp.of (bin_addI _ _ _ _) ?_ | with_reducible refine Wp.of (bin_subI _ _ _ _) ?_ | with_reducible refine Wp.of (neg_int _ _) ?_ | with_reducible refine Wp.of (len_tup _ _ _) ?_ | with_reducible refine Wp.of (len_list _ _ _) ?_ | with_reducible refine Wp.of (max_int _ _ _ _) ?_ | with_reducible refine Wp.of (min_int _ _ _ _) ?_
  | with_reducible refine w_finB (by with_unfolding_all rfl) (by with_unfolding_all rfl) ?_ | with_reducible refine w_finTB (by with_unfolding_all rfl) (by with_unfolding_all rfl) ?_ | with_reducible refine w_finMB (by with_unfolding_all rfl) ?_))

/-! ## sizes of parts -/
theorem wts_app (a b : List PyData) : wts (a ++ b) = wts a + wts b := by
  induction a with
  | nil => simp [wts]
  | cons d r ih => simp only [List.cons_append, wts, ih]; omega
theorem mxs_app (a b : List PyData) : mxs (a ++ b) = max (mxs a) (mxs b) := by
  induction a with
  | nil => simp [mxs]
  | cons d r ih => simp only [List.cons_append, mxs, ih]; omega
theorem dps_app (a b : List PyData) : PyData.depthAll (a ++ b) = max (PyData.depthAll a) (PyData.depthAll b) := by
  induction a with
  | nil => simp [PyData.depthAll]
  | cons d r ih => simp only [List.cons_append, PyData.depthAll, ih]; omega
theorem rev_sizes (a : List PyData) : wts a.reverse = wts a ∧ mxs a.reverse = mxs a ∧ PyData.depthAll a.reverse = PyData.depthAll a := by
  induction a with
  | nil => simp
  | cons d r ih =>
    rw [List.reverse_cons, wts_app, mxs_app, dps_app]
    simp only [wts, mxs, PyData.depthAll, ih]
    omega
theorem len_wts : ∀ ds : List PyData, 2 * ds.length ≤ wts ds
  | [] => by simp [wts]
  | d :: r => by simp only [wts, List.length_cons]; have := len_wts r; omega
theorem Nice.le {M B dp M' B' dp' : Nat} {d : PyData} (n : Nice M B dp d) (h1 : M ≤ M') (h2 : B ≤ B') (h3 : dp ≤ dp') : Nice M' B' dp' d := ⟨by have := n.m; omega, by have := n.w; omega, by have := n.p; omega⟩
/-! ## what is drawn -/
def odds : List PyData := [.none, .bool true, .bool false, .int (-1), .int 0, .int 4, .int 100000000000, .str "", .str "stay", .tuple [], .list [], .dict [], .tuple [.int 1], .list [.int 1], .tuple [.tuple []], .dict [(.str "a", .int 1)]]
theorem odds_nice : ∀ d ∈ odds, Nice 100000000000 2000 2 d := by
  intro d m
  simp only [odds, List.mem_cons, List.not_mem_nil, or_false] at m
  rcases m with rfl | rfl | rfl | rfl | rfl | rfl | rfl | rfl | rfl | rfl | rfl | rfl | rfl | rfl | rfl | rfl <;> exact ⟨by simp [mx, mxs, mxk], by simp only [wt, wts, wtk]; first | decide | decide +kernel, by simp [PyData.depth, PyData.depthAll, PyData.depthKv]⟩
theorem odd_ok (k : Nat) {p r : Nat} {g : G} (P : PenAt p (r + 1) g) : Wp (Fn pr.tab (k + 2) "_law_odd" [.ref p] g) fun v g' => ∃ x, v = .p x ∧ Nice 100000000000 2000 2 x ∧ PenAt p r g' ∧ Same p g g' := by
  rw [f11, b11]
  refine w_fn ?_
  refine w_seq (w_asg (Wp.of (x := .p (.list odds)) (g := g) (by rfl) ?_))
  walk_at "wp"
  refine (draw_ok _ P (by decide)).mono ?_
  rintro _ g' ⟨x, rfl, x0, x1, P', s⟩
  refine w_ixL x0 (by simpa [odds] using x1) fun d m => ?_
  exact ⟨d, rfl, odds_nice d m, P', s⟩
end K01

set_option Elab.async false
set_option linter.all false
set_option maxRecDepth 100000
namespace K01
open PySem En
local macro_rules | `(tactic| walk_at "wp") => `(tactic| repeat (first
  | with_reducible refine w_seq ?_ | with_reducible refine w_skip ?_ | with_reducible refine w_ret ?_ | with_reducible refine w_retN ?_ | with_reducible refine w_ex ?_ | with_reducible refine w_asg ?_ | with_reducible refine w_par ?_ | with_reducible refine w_if ?_
  | with_reducible refine w_dcons ?_ | with_reducible refine w_dnil ?_
  | with_reducible refine w_lit ?_ | with_reducible refine w_var (by with_unfolding_all rfl) ?_ | with_reducible refine w_call ?_ | with_reducible refine w_bf ?_ | with_reducible refine w_bin ?_ | with_reducible refine w_cmp ?_ | with_reducible refine w_chain ?_ | with_reducible refine w_and ?_ | with_reducible refine w_or ?_ | with_reducible refine w_not ?_ | with_reducible refine w_neg ?_ | with_reducible refine w_ife ?_ | with_reducible refine w_tup ?_ | with_reducible refine w_lst ?_ | with_reducible refine w_ix ?_ | with_reducible refine w_sl ?_ | with_reducible refine w_rev ?_ | with_reducible refine w_isi ?_
  | with_reducible refine w_varT ?_ | with_reducible refine w_callT ?_ | with_reducible refine w_bfT ?_ | with_reducible refine w_binT ?_ | with_reducible refine w_ixT ?_ | with_reducible refine w_isiT ?_ | with_reducible refine w_litT ?_
  | with_reducible refine w_ono ?_ | with_reducible refine w_oso ?_ | with_reducible refine w_cno ?_ | with_reducible refine w_cso ?_ | with_reducible refine w_pno ?_ | with_reducible refine w_pso ?_ | with_reducible refine w_asB ?_ | with_reducible refine w_trB ?_ | with_reducible refine w_trI ?_
  | with_reducible refine w_iseq ?_ | with_reducible refine w_irng ?_ | with_reducible refine w_irng2 ?_ | with_reducible refine w_srcT ?_ | with_reducible refine w_srcL ?_
  | with_reducible refine Wp.of (cmp_lt _ _ _) ?_ | with_reducible refine Wp.of (cmp_le _ _ _) ?_ | with_reducible refine Wp.of (cmp_gt _ _ _) ?_ | with_reducible refine Wp.of (cmp_ge _ _ _) ?_ | with_reducible refine Wp.of (cmp_eqI _ _ _) ?_ | with_reducible refine Wp.of (cmp_neI _ _ _) ?_ | with_reducible refine Wp.of (cmp_eqS _ _ _) ?_ | with_reducible refine Wp.of (cmp_neS _ _ _) ?_ | with_reducible refine Wp.of (cmp_eqT0 _ _) ?_
  | with_reducible refine Wp.of (bin_addI _ _ _ _) ?_ | with_reducible refine Wp.of (bin_subI _ _ _ _) ?_ | with_reducible refine Wp.of (neg_int _ _) ?_ | with_reducible refine Wp.of (len_tup _ _ _) ?_ | with_reducible refine Wp.of (len_list _ _ _) ?_ | with_reducible refine Wp.of (max_int _ _ _ _) ?_ | with_reducible refine Wp.of (min_int _ _ _ _) ?_
  | with_reducible refine w_finB (by with_unfolding_all rfl) (by with_unfolding_all rfl) ?_ | with_reducible refine w_finTB (by with_unfolding_all rfl) (by with_unfolding_all rfl) ?_ | with_reducible refine w_finMB (by with_unfolding_all rfl) ?_))

theorem nice_int {M : Nat} {i : Int} (h : i.natAbs ≤ M) : Nice M 1921 0 (.int i) := ⟨by simpa [mx] using h, by simp [wt], by simp [PyData.depth]⟩
theorem nices {M B dp : Nat} : ∀ {ds : List PyData}, (∀ d ∈ ds, Nice M B dp d) → mxs ds ≤ M ∧ wts ds ≤ ds.length * (B + 2) ∧ PyData.depthAll ds ≤ dp
  | [], _ => by simp [mxs, wts, PyData.depthAll]
  | d :: r, h => by
    have n := h d List.mem_cons_self
    have ih := nices fun x m => h x (List.mem_cons_of_mem _ m)
    have n1 := n.m
    have n2 := n.w
    have n3 := n.p
    simp only [mxs, wts, PyData.depthAll, List.length_cons, Nat.succ_mul]
    omega
theorem nice_tuple {M B dp : Nat} {ds : List PyData} (h : ∀ d ∈ ds, Nice M B dp d) : Nice M (3 + ds.length * (B + 2)) (dp + 1) (.tuple ds) := by
  obtain ⟨h1, h2, h3⟩ := nices h
  exact ⟨by simpa [mx] using h1, by simp only [wt]; omega, by simp only [PyData.depth]; omega⟩
theorem nice_list {M B dp : Nat} {ds : List PyData} (h : Nice M B dp (.tuple ds)) : Nice M B dp (.list ds) := by
  obtain ⟨h1, h2, h3⟩ := h
  exact ⟨by simpa [mx] using h1, by simpa [wt] using h2, by simpa [PyData.depth] using h3⟩
theorem rngL_len : ∀ (n : Nat) (i : Int), (rngL i n).length = n
  | 0, _ => rfl
  | n + 1, i => by show (rngL (i + 1) n).length + 1 = _; rw [rngL_len n]
theorem rngL_int : ∀ (n : Nat) (i : Int), ∀ d ∈ rngL i n, ∃ j : Int, d = .p (.int j) ∧ i ≤ j ∧ j < i + n
  | 0, _, _, m => nomatch m
  | n + 1, i, d, m => by
    rcases List.mem_cons.mp m with rfl | m
    · exact ⟨i, rfl, by omega, by omega⟩
    · obtain ⟨j, e, h1, h2⟩ := rngL_int n (i + 1) d m
      exact ⟨j, e, by omega, by omega⟩
/-- [e for i in range(..)], e drawn -/
theorem w_compP {Φ : Str → List D → G → R D} {ρ : En.Env} {g : G} {Q : D → G → Prop} {i p r c M B dp : Nat} {it : It} {e : E}
    (hs : Wp (denI Φ it ρ g) fun src g1 => ∃ lo N, src = .vals (rngL lo N) ∧ N ≤ 1000 ∧ PenAt p (r + c * N) g1 ∧ Same p g g1 ∧ ∀ xs g', xs.length = N → (∀ d ∈ xs, Nice M B dp d) → PenAt p r g' → Same p g g' → Q (.p (.list xs)) g')
    (he : ∀ d g r, PenAt p (r + c) g → Wp (den Φ e false ((wipeD ρ [i]).set i (some d)) g) fun v g' => ∃ x, v = .p x ∧ Nice M B dp x ∧ PenAt p r g' ∧ Same p g g') : Wp (den Φ (.comp false false [i] it .no e) false ρ g) Q := by
  refine w_comp (hs.mono fun src g1 ⟨lo, N, e1, hN, P1, s1, hQ⟩ => ⟨_, e1, fun acc rest g' => ∃ xs : List PyData, acc = xs.map .p ∧ (∀ d ∈ xs, Nice M B dp d) ∧ xs.length + rest.length = N ∧ PenAt p (r + c * rest.length) g' ∧ Same p g g', ⟨[], rfl, (fun _ m => nomatch m), by rw [rngL_len]; simp, by rw [rngL_len]; exact P1, s1⟩, ?_, ?_⟩)
  · rintro acc d rest g' ⟨xs, rfl, hx, hl, P', s'⟩
    rw [List.length_cons] at hl
    refine ⟨by rw [List.length_map]; show xs.length < 1000000; omega, w_cno ⟨fun _ => ?_, fun h => nomatch h⟩⟩
    have P2 : PenAt p (r + c * rest.length + c) g' := by
      rw [List.length_cons, Nat.mul_succ] at P'
      exact P'.le (by omega)
    refine (he d g' _ P2).mono ?_
    rintro _ g2 ⟨x, rfl, nx, P3, s3⟩
    refine ⟨xs ++ [x], by simp, fun d m => ?_, by rw [List.length_append, List.length_singleton]; omega, P3, s'.trans s3⟩
    rcases List.mem_append.mp m with m | m
    · exact hx d m
    · rw [List.mem_singleton.mp m]; exact nx
  · rintro acc g' ⟨xs, rfl, hx, hl, P', s'⟩
    refine w_fin (areP_map xs) (by rw [List.length_map]; show xs.length ≤ 1000000; simp at hl; omega) ?_
    rw [toP_map]
    exact hQ xs g' (by simpa using hl) hx (by simpa using P') s'
theorem w_tupleL {g : G} {Q : D → G → Prop} {ds : List PyData} {mu : Bool} (hl : ds.length ≤ lim) (q : Q (.p (.tuple ds)) g) : Wp (opBf .tuple mu [.p (.list ds)] g) Q := by
  show Wp (finT (ds.map .p) g) Q
  refine w_finT (areP_map ds) (by simpa using hl) ?_
  rw [toP_map]; exact q
theorem w_listT {g : G} {Q : D → G → Prop} {ds : List PyData} (hl : ds.length ≤ lim) (q : Q (.p (.list ds)) g) : Wp (opBf .list false [.p (.tuple ds)] g) Q := by
  show Wp (fin false (ds.map .p) g) Q
  refine w_fin (areP_map ds) (by simpa using hl) ?_
  rw [toP_map]; exact q
theorem house_ok (k : Nat) {p r : Nat} {g : G} (P : PenAt p (r + 6) g) : Wp (Fn pr.tab (k + 2) "_law_house" [.ref p] g) fun v g' => ∃ ds, v = .p (.tuple ds) ∧ Nice 100000000000 50000 4 (.tuple ds) ∧ PenAt p r g' ∧ Same p g g' := by
  rw [f12, b12]
  refine w_fn ?_
  walk_at "wp"
  refine w_compP (p := p) (r := r) (c := 1) (M := 100000000000) (B := 1921) (dp := 0) ?_ ?_
  · walk_at "wp"
    refine (draw_ok _ (r := r + 5) P (by decide)).mono ?_
    rintro _ g' ⟨x, rfl, x0, x1, P', s⟩
    walk_at "wp"
    refine w_srcG (by omega) ?_
    refine ⟨_, _, rfl, by omega, P'.le (by omega), s, fun xs g2 hl hx P2 s2 => ?_⟩
    walk_at "wp"
    refine w_tupleL (by show xs.length ≤ 1000000; omega) ?_
    have h5 : xs.length ≤ 5 := by omega
    refine ⟨xs, rfl, (nice_tuple hx).le (Nat.le_refl _) ?_ (by omega), P2, s2⟩
    have : xs.length * (1921 + 2) ≤ 5 * (1921 + 2) := Nat.mul_le_mul_right _ h5
    omega
  · intro d g r P
    walk_at "wp"
    refine (draw_ok _ P (by decide)).mono ?_
    rintro _ g' ⟨x, rfl, x0, x1, P', s⟩
    walk_at "wp"
    exact ⟨_, rfl, nice_int (by omega), P', s⟩
theorem stay_ok (k : Nat) {p r : Nat} {g : G} (P : PenAt p (r + 8) g) : Wp (Fn pr.tab (k + 2) "_law_stay" [.ref p] g) fun v g' => ∃ ds, v = .p (.tuple ds) ∧ Nice 100000000000 5800 1 (.tuple ds) ∧ PenAt p r g' ∧ Same p g g' := by
  rw [f13, b13]
  refine w_fn ?_
  walk_at "wp"
  refine (draw_ok _ (r := r + 7) P (by decide)).mono ?_
  rintro _ g1 ⟨x1, rfl, a1, b1, P1, s1⟩
  walk_at "wp"
  refine (draw_ok _ (r := r + 6) P1 (by decide)).mono ?_
  rintro _ g2 ⟨x2, rfl, a2, b2, P2, s2⟩
  walk_at "wp"
  refine (draw_ok _ (r := r + 5) P2 (by decide)).mono ?_
  rintro _ g3 ⟨x3, rfl, a3, b3, P3, s3⟩
  walk_at "wp"
  refine (draw_ok _ (r := r + 4) P3 (by decide)).mono ?_
  rintro _ g4 ⟨x4, rfl, a4, b4, P4, s4⟩
  walk_at "wp"
  refine w_ixL a4 (by show x4 < 3; exact b4) fun d m => ?_
  obtain ⟨z1, rfl, hz1⟩ : ∃ z : Int, d = .int z ∧ z.natAbs ≤ 100 := by
    simp only [toP, List.mem_cons, List.not_mem_nil, or_false] at m
    rcases m with rfl | rfl | rfl <;> exact ⟨_, rfl, by omega⟩
  walk_at "wp"
  refine (draw_ok _ (r := r + 3) P4 (by decide)).mono ?_
  rintro _ g5 ⟨x5, rfl, a5, b5, P5, s5⟩
  walk_at "wp"
  refine (draw_ok _ (r := r + 2) P5 (by decide)).mono ?_
  rintro _ g6 ⟨x6, rfl, a6, b6, P6, s6⟩
  walk_at "wp"
  refine (draw_ok _ (r := r + 1) P6 (by decide)).mono ?_
  rintro _ g7 ⟨x7, rfl, a7, b7, P7, s7⟩
  walk_at "wp"
  refine w_ixL a7 (by show x7 < 2; exact b7) fun d m => ?_
  obtain ⟨z2, rfl, hz2⟩ : ∃ z : Int, d = .int z ∧ z.natAbs ≤ 100 := by
    simp only [toP, List.mem_cons, List.not_mem_nil, or_false] at m
    rcases m with rfl | rfl <;> exact ⟨_, rfl, by omega⟩
  walk_at "wp"
  refine (draw_ok _ (r := r) P7 (by decide)).mono ?_
  rintro _ g8 ⟨x8, rfl, a8, b8, P8, s8⟩
  walk_at "wp"
  refine w_ixL a8 (by show x8 < 4; exact b8) fun d m => ?_
  obtain ⟨z3, rfl, hz3⟩ : ∃ z : Int, d = .int z ∧ z.natAbs ≤ 100 := by
    simp only [toP, List.mem_cons, List.not_mem_nil, or_false] at m
    rcases m with rfl | rfl | rfl | rfl <;> exact ⟨_, rfl, by decide⟩
  walk_at "wp"
  refine ⟨[.int z3, .int z1, .int z2], rfl, ?_, P8, s1.trans (s2.trans (s3.trans (s4.trans (s5.trans (s6.trans (s7.trans s8))))))⟩
  refine (nice_tuple (M := 100000000000) (B := 1921) (dp := 0) fun d m => ?_).le (Nat.le_refl _) (by show 3 + 3 * (1921 + 2) ≤ 5800; decide) (by decide)
  simp only [List.mem_cons, List.not_mem_nil, or_false] at m
  rcases m with rfl | rfl | rfl <;> exact nice_int (by omega)
theorem stays_ok (k : Nat) {p r : Nat} {g : G} (P : PenAt p (r + 65) g) : Wp (Fn pr.tab (k + 3) "_law_stays" [.ref p, .p (.int 8)] g) fun v g' => ∃ ds, v = .p (.tuple ds) ∧ Nice 100000000000 50000 4 (.tuple ds) ∧ PenAt p r g' ∧ Same p g g' := by
  rw [f14, b14]
  refine w_fn ?_
  walk_at "wp"
  refine w_compP (p := p) (r := r) (c := 8) (M := 100000000000) (B := 5800) (dp := 1) ?_ ?_
  · walk_at "wp"
    refine (draw_ok _ (r := r + 64) P (by decide)).mono ?_
    rintro _ g' ⟨x, rfl, x0, x1, P', s⟩
    walk_at "wp"
    refine w_srcG (by omega) ?_
    refine ⟨_, _, rfl, by omega, P'.le (by omega), s, fun xs g2 hl hx P2 s2 => ?_⟩
    walk_at "wp"
    refine w_tupleL (by show xs.length ≤ 1000000; omega) ?_
    have h5 : xs.length ≤ 8 := by omega
    refine ⟨xs, rfl, (nice_tuple hx).le (Nat.le_refl _) ?_ (by omega), P2, s2⟩
    have : xs.length * (5800 + 2) ≤ 8 * (5800 + 2) := Nat.mul_le_mul_right _ h5
    omega
  · intro d g r P
    walk_at "wp"
    refine (stay_ok _ P).mono ?_
    rintro _ g' ⟨x, rfl, n, P', s⟩
    exact ⟨_, rfl, n, P', s⟩
end K01

set_option Elab.async false
set_option linter.all false
set_option maxRecDepth 100000
namespace K01
open PySem En
local macro_rules | `(tactic| walk_at "wp") => `(tactic| repeat (first
  | with_reducible refine w_seq ?_ | with_reducible refine w_skip ?_ | with_reducible refine w_ret ?_ | with_reducible refine w_retN ?_ | with_reducible refine w_ex ?_ | with_reducible refine w_asg ?_ | with_reducible refine w_par ?_ | with_reducible refine w_if ?_
  | with_reducible refine w_dcons ?_ | with_reducible refine w_dnil ?_
  | with_reducible refine w_lit ?_ | with_reducible refine w_var (by with_unfolding_all rfl) ?_ | with_reducible refine w_call ?_ | with_reducible refine w_bf ?_ | with_reducible refine w_bin ?_ | with_reducible refine w_cmp ?_ | with_reducible refine w_chain ?_ | with_reducible refine w_and ?_ | with_reducible refine w_or ?_ | with_reducible refine w_not ?_ | with_reducible refine w_neg ?_ | with_reducible refine w_ife ?_ | with_reducible refine w_tup ?_ | with_reducible refine w_lst ?_ | with_reducible refine w_ix ?_ | with_reducible refine w_sl ?_ | with_reducible refine w_rev ?_ | with_reducible refine w_isi ?_
  | with_reducible refine w_varT ?_ | with_reducible refine w_callT ?_ | with_reducible refine w_bfT ?_ | with_reducible refine w_binT ?_ | with_reducible refine w_ixT ?_ | with_reducible refine w_isiT ?_ | with_reducible refine w_litT ?_
  | with_reducible refine w_ono ?_ | with_reducible refine w_oso ?_ | with_reducible refine w_cno ?_ | with_reducible refine w_cso ?_ | with_reducible refine w_pno ?_ | with_reducible refine w_pso ?_ | with_reducible refine w_asB ?_ | with_reducible refine w_trB ?_ | with_reducible refine w_trI ?_
  | with_reducible refine w_iseq ?_ | with_reducible refine w_irng ?_ | with_reducible refine w_irng2 ?_ | with_reducible refine w_srcT ?_ | with_reducible refine w_srcL ?_
  | with_reducible refine Wp.of (cmp_lt _ _ _) ?_ | with_reducible refine Wp.of (cmp_le _ _ _) ?_ | with_reducible refine Wp.of (cmp_gt _ _ _) ?_ | with_reducible refine Wp.of (cmp_ge _ _ _) ?_ | with_reducible refine Wp.of (cmp_eqI _ _ _) ?_ | with_reducible refine Wp.of (cmp_neI _ _ _) ?_ | with_reducible refine Wp.of (cmp_eqS _ _ _) ?_ | with_reducible refine Wp.of (cmp_neS _ _ _) ?_ | with_reducible refine Wp.of (cmp_eqT0 _ _) ?_
  | with_reducible refine Wp.of (bin_addI _ _ _ _) ?_ | with_reducible refine Wp.of (bin_subI _ _ _ _) ?_ | with_reducible refine Wp.of (neg_int _ _) ?_ | with_reducible refine Wp.of (len_tup _ _ _) ?_ | with_reducible refine Wp.of (len_list _ _ _) ?_ | with_reducible refine Wp.of (max_int _ _ _ _) ?_ | with_reducible refine Wp.of (min_int _ _ _ _) ?_
  | with_reducible refine w_finB (by with_unfolding_all rfl) (by with_unfolding_all rfl) ?_ | with_reducible refine w_finTB (by with_unfolding_all rfl) (by with_unfolding_all rfl) ?_ | with_reducible refine w_finMB (by with_unfolding_all rfl) ?_))

def BentAt (p deep : Nat) : Prop := ∀ (k r : Nat) (g : G) (d : PyData) (M B dp : Nat), PenAt p (r + 4 * (deep + 1)) g → Nice M B dp d → 100000000000 ≤ M → B ≤ 200000 → 4 + deep ≤ dp →
  Wp (Fn pr.tab (k + deep + 3) "_law_bent" [.ref p, .p d, .p (.int (deep : Int))] g) fun v g' => ∃ x, v = .p x ∧ Nice (M + 4) (2 * B + 4000) dp x ∧ PenAt p r g' ∧ Same p g g'
theorem isi_tuple {g : G} {Q : D → G → Prop} {d : PyData} (h1 : ∀ ds, d = .tuple ds → Q (.p (.bool true)) g) (h2 : (∀ ds, d ≠ .tuple ds) → Q (.p (.bool false)) g) : Wp (isiD (.p d) .tuple g) Q := by
  cases d <;> first | exact Wp.of rfl (h1 _ rfl) | exact Wp.of rfl (h2 (fun _ h => nomatch h))
theorem Same.refl (p : Nat) (g : G) : Same p g g := by
  by_cases h : p < g.length
  · exact ⟨g[p], (List.set_getElem_self h).symm⟩
  · exact ⟨.lst [], (List.set_eq_of_length_le (by omega)).symm⟩
theorem bent_step {p deep : Nat} (ih : ∀ n, deep = n + 1 → BentAt p n) : BentAt p deep := by
  intro k r g d M B dp P n hM hB hd
  have nm := n.m
  have nw := n.w
  have np := n.p
  have P : PenAt p (r + 4 * deep + 4) g := P.le (by omega)
  rw [f15, b15]
  refine w_fn ?_
  walk_at "wp"
  refine Wp.of (l_whole_ok _ d g) ?_
  walk_at "wp"
  -- what follows the first test, from whatever state
  have rest : ∀ g1, PenAt p (r + 4 * deep + 3) g1 → Same p g g1 → Ws (denS (Fn pr.tab (k + deep + 2)) (match b15 with | .seq _ s => s | _ => .skip) [some (.ref p), some (.p d), some (.p (.int (deep : Int))), none, none, none] g1) ⟨fun _ _ => False, fun v g' => ∃ x, v = .p x ∧ Nice (M + 4) (2 * B + 4000) dp x ∧ PenAt p r g' ∧ Same p g g', fun _ _ => False, fun _ _ => False⟩ := by
    intro g1 P1 s1
    rw [b15]
    simp only
    have odd : Wp (Fn pr.tab (k + deep + 2) "_law_odd" [.ref p] g1) fun v g' => ∃ x, v = .p x ∧ Nice (M + 4) (2 * B + 4000) dp x ∧ PenAt p r g' ∧ Same p g g' := by
      refine (odd_ok (k + deep) (r := r) (P1.le (by omega))).mono ?_
      rintro _ g2 ⟨x, rfl, nx, P2, s2⟩
      exact ⟨x, rfl, nx.le (by omega) (by omega) (by omega), P2, s1.trans s2⟩
    walk_at "wp"
    refine isi_tuple (fun ds e => ?_) (fun hn => ?_)
    · subst e
      simp only [mx] at nm
      simp only [wt] at nw
      simp only [PyData.depth] at np
      walk_at "wp"
      refine ⟨(fun h => nomatch h), fun _ => ?_⟩
      walk_at "wp"
      refine ⟨fun h => ?_, fun h => ?_⟩
      · walk_at "wp"
        refine ⟨fun _ => ?_, fun h => nomatch h⟩
        walk_at "wp"
        exact odd
      · walk_at "wp"
        refine ⟨fun _ => ?_, fun h0 => ?_⟩
        · walk_at "wp"
          exact odd
        · have h0 : (deep : Int) ≠ 0 := by simpa using h0
          walk_at "wp"
          have hne : ds ≠ [] := by rintro rfl; simp at h
          have hl := len_wts ds
          have hpos : 0 < ds.length := List.length_pos_iff.mpr hne
          refine (draw_ok _ (r := r + 4 * deep + 2) P1 (by omega)).mono ?_
          rintro _ g2 ⟨at_, rfl, a0, a1, P2, s2⟩
          walk_at "wp"
          refine (draw_ok _ (r := r + 4 * deep + 1) P2 (by omega)).mono ?_
          rintro _ g3 ⟨way, rfl, w0, w1, P3, s3⟩
          obtain ⟨a, x, b, rfl, rfl⟩ := split_at a0 a1
          have s13 := s1.trans (s2.trans s3)
          rw [mxs_app] at nm
          rw [wts_app] at nw
          rw [dps_app] at np
          simp only [mxs, wts, PyData.depthAll] at nm nw np
          have la := len_wts a
          have lb := len_wts b
          walk_at "wp"
          have tn : ∀ l, mxs l ≤ M + 4 → 3 + wts l ≤ 2 * B + 4000 → PyData.depthAll l + 1 ≤ dp → Nice (M + 4) (2 * B + 4000) dp (.tuple l) := fun l h1 h2 h3 => ⟨by simpa [mx] using h1, by simpa [wt] using h2, by simpa [PyData.depth] using h3⟩
          refine ⟨fun _ => ?_, fun _ => ?_⟩
          · walk_at "wp"
            refine w_slP ?_
            rw [cut_to]
            walk_at "wp"
            refine (odd_ok (k + deep) (r := r) (P3.le (by omega))).mono ?_
            rintro _ g4 ⟨o, rfl, no, P4, s4⟩
            have om := no.m
            have ow := no.w
            have op := no.p
            walk_at "wp"
            refine Wp.of (bin_addT _ _ _ _ (by show a.length + 1 ≤ 1000000; omega)) ?_
            walk_at "wp"
            refine w_slP ?_
            rw [cut_from]
            refine Wp.of (bin_addT _ _ _ _ (by simp only [toP, List.length_append, List.length_cons, List.length_nil]; show _ ≤ 1000000; omega)) ?_
            refine ⟨_, rfl, tn _ ?_ ?_ ?_, P4, s13.trans s4⟩
            · simp only [toP, mxs_app, mxs]; omega
            · simp only [toP, wts_app, wts]; omega
            · simp only [toP, dps_app, PyData.depthAll]; omega
          · walk_at "wp"
            refine ⟨fun _ => ?_, fun _ => ?_⟩
            · walk_at "wp"
              refine w_slP ?_
              rw [cut_to]
              walk_at "wp"
              refine w_slP ?_
              rw [cut_past]
              refine Wp.of (bin_addT _ _ _ _ (by show _ ≤ 1000000; omega)) ?_
              refine ⟨_, rfl, tn _ ?_ ?_ ?_, P3.le (by omega), s13⟩
              · simp only [mxs_app]; omega
              · simp only [wts_app]; omega
              · simp only [dps_app]; omega
            · walk_at "wp"
              refine ⟨fun _ => ?_, fun _ => ?_⟩
              · walk_at "wp"
                refine w_slP ?_
                rw [cut_to]
                walk_at "wp"
                refine w_slP ?_
                rw [cut_one]
                refine Wp.of (bin_addT _ _ _ _ (by show a.length + 1 ≤ 1000000; omega)) ?_
                walk_at "wp"
                refine w_slP ?_
                rw [cut_from]
                refine Wp.of (bin_addT _ _ _ _ (by simp only [List.length_append, List.length_cons, List.length_nil]; show _ ≤ 1000000; omega)) ?_
                walk_at "wp"
                refine w_listT (by simp only [List.length_append, List.length_cons]; show _ ≤ 1000000; omega) ?_
                walk_at "wp"
                refine w_revP ?_
                walk_at "wp"
                refine (draw_ok _ (r := r) (P3.le (by omega)) (by omega)).mono ?_
                rintro _ g4 ⟨z, rfl, z0, z1, P4, s4⟩
                refine w_ixL z0 (by show z < 3; exact z1) fun y m => ?_
                refine ⟨y, rfl, ?_, P4, s13.trans s4⟩
                have n0 : Nice (M + 4) (2 * B + 4000) dp (.tuple (a ++ x :: b)) := n.le (by omega) (by omega) (Nat.le_refl _)
                simp only [toP, List.mem_cons, List.not_mem_nil, or_false] at m
                rcases m with rfl | rfl | rfl
                · exact nice_list n0
                · obtain ⟨q1, q2, q3⟩ := rev_sizes (a ++ x :: b)
                  have n1 := n0.m
                  have n2 := n0.w
                  have n3 := n0.p
                  simp only [mx, wt, PyData.depth] at n1 n2 n3
                  exact tn _ (by rw [q2]; exact n1) (by rw [q1]; exact n2) (by rw [q3]; exact n3)
                · refine tn _ ?_ ?_ ?_
                  · simp only [mxs_app, mxs]; omega
                  · simp only [wts_app, wts]; omega
                  · simp only [dps_app, PyData.depthAll]; omega
              · walk_at "wp"
                refine w_slP ?_
                rw [cut_to]
                walk_at "wp"
                refine w_ixP (atI_mid a b x) ?_
                walk_at "wp"
                obtain ⟨m, rfl⟩ : ∃ m, deep = m + 1 := ⟨deep - 1, by omega⟩
                have e1 : ((m + 1 : Nat) : Int) - 1 = (m : Int) := by omega
                rw [e1]
                have nx : Nice M (wt x) (dp - 1) x := ⟨by omega, Nat.le_refl _, by omega⟩
                refine (ih m rfl k r g3 x M (wt x) (dp - 1) (P3.le (by omega)) nx hM (by omega) (by omega)).mono ?_
                rintro _ g4 ⟨y, rfl, ny, P4, s4⟩
                have ym := ny.m
                have yw := ny.w
                have yp := ny.p
                walk_at "wp"
                refine Wp.of (bin_addT _ _ _ _ (by show a.length + 1 ≤ 1000000; omega)) ?_
                walk_at "wp"
                refine w_slP ?_
                rw [cut_past]
                refine Wp.of (bin_addT _ _ _ _ (by simp only [toP, List.length_append, List.length_cons, List.length_nil]; show _ ≤ 1000000; omega)) ?_
                refine ⟨_, rfl, tn _ ?_ ?_ ?_, P4, s13.trans s4⟩
                · simp only [toP, mxs_app, mxs]; omega
                · simp only [toP, wts_app, wts]; omega
                · simp only [toP, dps_app, PyData.depthAll]; omega
    · walk_at "wp"
      refine ⟨fun _ => ?_, (fun h => nomatch h)⟩
      walk_at "wp"
      refine ⟨fun _ => ?_, (fun h => nomatch h)⟩
      walk_at "wp"
      exact odd
  refine ⟨fun hw => ?_, fun hw => ?_⟩
  · obtain ⟨i, rfl⟩ : ∃ i, d = .int i := by
      cases d <;> first | exact ⟨_, rfl⟩ | cases hw
    simp only [mx] at nm
    simp only [wt] at nw
    walk_at "wp"
    refine (draw_ok _ (r := r + 4 * deep + 3) P (by omega)).mono ?_
    rintro _ g1 ⟨z, rfl, z0, z1, P1, s1⟩
    walk_at "wp"
    refine ⟨fun _ => ?_, fun _ => ?_⟩
    · walk_at "wp"
      refine (draw_ok _ (r := r + 4 * deep + 2) P1 (by omega)).mono ?_
      rintro _ g2 ⟨y, rfl, y0, y1, P2, s2⟩
      refine w_ixL y0 (by show y < 6; exact y1) fun d m => ?_
      refine ⟨d, rfl, ?_, P2.le (by omega), s1.trans s2⟩
      have ni : ∀ j : Int, j.natAbs ≤ M + 4 → Nice (M + 4) (2 * B + 4000) dp (.int j) := fun j h => (nice_int h).le (Nat.le_refl _) (by omega) (by omega)
      simp only [toP, List.mem_cons, List.not_mem_nil, or_false] at m
      rcases m with rfl | rfl | rfl | rfl | rfl | rfl
      · exact ni _ (by omega)
      · exact ni _ (by omega)
      · exact ni _ (by omega)
      · exact ni _ (by omega)
      · exact ⟨by simp [mx], by simp only [wt]; omega, by simp [PyData.depth]⟩
      · exact ni _ (by omega)
    · refine w_skip ?_
      exact (rest g1 P1 s1).mono (fun _ _ h => h.elim) (fun _ _ h => h) (fun _ _ h => h.elim) (fun _ _ h => h.elim)
  · walk_at "wp"
    refine ⟨(fun h => nomatch h), fun _ => w_skip ?_⟩
    exact (rest g (P.le (by omega)) (Same.refl p g)).mono (fun _ _ h => h.elim) (fun _ _ h => h) (fun _ _ h => h.elim) (fun _ _ h => h.elim)
theorem bent_ok (p : Nat) : ∀ deep, BentAt p deep
  | 0 => bent_step fun n h => by omega
  | n + 1 => bent_step fun m h => by
    have : m = n := by omega
    subst this
    exact bent_ok p m
end K01

set_option Elab.async false
set_option linter.all false
set_option maxRecDepth 100000
namespace K01
open PySem En
local macro_rules | `(tactic| walk_at "wp") => `(tactic| repeat (first
  | with_reducible refine w_seq ?_ | with_reducible refine w_skip ?_ | with_reducible refine w_ret ?_ | with_reducible refine w_retN ?_ | with_reducible refine w_ex ?_ | with_reducible refine w_asg ?_ | with_reducible refine w_par ?_ | with_reducible refine w_if ?_
  | with_reducible refine w_dcons ?_ | with_reducible refine w_dnil ?_
  | with_reducible refine w_lit ?_ | with_reducible refine w_var (by with_unfolding_all rfl) ?_ | with_reducible refine w_call ?_ | with_reducible refine w_bf ?_ | with_reducible refine w_bin ?_ | with_reducible refine w_cmp ?_ | with_reducible refine w_chain ?_ | with_reducible refine w_and ?_ | with_reducible refine w_or ?_ | with_reducible refine w_not ?_ | with_reducible refine w_neg ?_ | with_reducible refine w_ife ?_ | with_reducible refine w_tup ?_ | with_reducible refine w_lst ?_ | with_reducible refine w_ix ?_ | with_reducible refine w_sl ?_ | with_reducible refine w_rev ?_ | with_reducible refine w_isi ?_
  | with_reducible refine w_varT ?_ | with_reducible refine w_callT ?_ | with_reducible refine w_bfT ?_ | with_reducible refine w_binT ?_ | with_reducible refine w_ixT ?_ | with_reducible refine w_isiT ?_ | with_reducible refine w_litT ?_
  | with_reducible refine w_ono ?_ | with_reducible refine w_oso ?_ | with_reducible refine w_cno ?_ | with_reducible refine w_cso ?_ | with_reducible refine w_pno ?_ | with_reducible refine w_pso ?_ | with_reducible refine w_asB ?_ | with_reducible refine w_trB ?_ | with_reducible refine w_trI ?_
  | with_reducible refine w_iseq ?_ | with_reducible refine w_irng ?_ | with_reducible refine w_irng2 ?_ | with_reducible refine w_srcT ?_ | with_reducible refine w_srcL ?_
  | with_reducible refine Wp.of (cmp_lt _ _ _) ?_ | with_reducible refine Wp.of (cmp_le _ _ _) ?_ | with_reducible refine Wp.of (cmp_gt _ _ _) ?_ | with_reducible refine Wp.of (cmp_ge _ _ _) ?_ | with_reducible refine Wp.of (cmp_eqI _ _ _) ?_ | with_reducible refine Wp.of (cmp_neI _ _ _) ?_ | with_reducible refine Wp.of (cmp_eqS _ _ _) ?_ | with_reducible refine Wp.of (cmp_neS _ _ _) ?_ | with_reducible refine Wp.of (cmp_eqT0 _ _) ?_
  | with_reducible refine Wp.of (bin_addI _ _ _ _) ?_ | with_reducible refine Wp.of (bin_subI _ _ _ _) ?_ | with_reducible refine Wp.of (neg_int _ _) ?_ | with_reducible refine Wp.of (len_tup _ _ _) ?_ | with_reducible refine Wp.of (len_list _ _ _) ?_ | with_reducible refine Wp.of (max_int _ _ _ _) ?_ | with_reducible refine Wp.of (min_int _ _ _ _) ?_
  | with_reducible refine w_finB (by with_unfolding_all rfl) (by with_unfolding_all rfl) ?_ | with_reducible refine w_finTB (by with_unfolding_all rfl) (by with_unfolding_all rfl) ?_ | with_reducible refine w_finMB (by with_unfolding_all rfl) ?_))

def t3 (a b c : Int) : PyData := .tuple [.int a, .int b, .int c]
def fixed : List PyData := [.tuple [.int 3, .int 3, .int 3, .int 3, .int 3], .tuple [.int 1, .int 1, .int 1, .int 1, .int 1, .int 1], .tuple [], .tuple [.int 0], .tuple [.int 4], .tuple [.bool true], .list [.int 1], .tuple [.int 1, .int 3], .tuple [.tuple [.int 1]],
  t3 1 0 1, t3 3 20 8, t3 1 21 1, t3 1 0 9, t3 1 0 0, t3 1 (-1) 1, t3 0 0 1, t3 4 0 1, .tuple [.int 1, .int 0],
  .tuple [.bool true, .int 0, .int 1], .tuple [.int 1, .bool false, .int 1], .list [.int 1, .int 0, .int 1], .tuple [.int 1, .int 0, .int 1, .int 1], .tuple [.int 1, .none, .int 1],
  .tuple [t3 1 0 1, t3 1 0 1, t3 1 0 1, t3 1 0 1, t3 1 0 1, t3 1 0 1, t3 1 0 1, t3 1 0 1], .tuple [t3 1 0 1, t3 1 0 1, t3 1 0 1, t3 1 0 1, t3 1 0 1, t3 1 0 1, t3 1 0 1, t3 1 0 1, t3 1 0 1], .tuple [t3 1 0 1, .tuple [.int 1, .int 0]], .list [t3 1 0 1], .tuple [t3 3 20 8]]
def niceB (M B dp : Nat) (d : PyData) : Bool := decide (mx d ≤ M) && (decide (wt d ≤ B) && decide (d.depth ≤ dp))
theorem niceB_ok {M B dp : Nat} {d : PyData} (h : niceB M B dp d = true) : Nice M B dp d := by
  unfold niceB at h
  simp only [Bool.and_eq_true, decide_eq_true_eq] at h
  exact ⟨h.1, h.2.1, h.2.2⟩
/-- what may be looked at -/
def Fine (d : PyData) : Prop := Nice 200000000000 1000000 20 d
theorem Nice.fine {M B dp : Nat} {d : PyData} (n : Nice M B dp d) (h1 : M ≤ 200000000000) (h2 : B ≤ 1000000) (h3 : dp ≤ 20) : Fine d := n.le h1 h2 h3
theorem fixed_fine : ∀ d ∈ fixed, Fine d := by
  have h : fixed.all (niceB 100 60000 10) = true := by decide +kernel
  intro d m
  exact (niceB_ok (List.all_eq_true.mp h d m)).le (by decide) (by decide) (by decide)
theorem fixed_ok (k : Nat) (g : G) : Fn pr.tab (k + 1) "_law_fixed" [] g = .ok (.p (.list fixed)) g := by
  rw [f19]
  rfl
theorem fine_right (k : Nat) (d : PyData) (g : G) (n : Fine d) : Wp (Fn pr.tab (k + 6) "_law_right" [.p d] g) fun d' g' => d' = .p (.bool true) ∧ g' = g :=
  right_ok k d g n (Nat.lt_of_lt_of_le (show 200000000000 < 2 ^ 40 by decide) (Nat.pow_le_pow_right (by decide) (by decide))) (by show 1000000 ≤ 1000000; decide) (by decide)
theorem trues_ok {g : G} {mu : Bool} {Q : D → G → Prop} (n : Nat) (q : Q (.p (.bool true)) g) : Wp (opBf .all mu [.p (.list ((List.replicate n true).map .bool))] g) Q := by
  refine Wp.of (all_list _ g mu) ?_
  have : (List.replicate n true).all id = true := by simp
  rw [this]; exact q
/-- the turn of both looks -/
theorem look_turn {Φ : Str → List D → G → R D} {ρ : En.Env} {g g0 : G} {i : Nat} {acc rest : List D} {d : D} {k : Nat} (hΦ : Φ = Fn pr.tab (k + 6)) (hi : i < ρ.length) (n : Nat) (ha : acc = (List.replicate n (PyData.bool true)).map .p) (hx : ∀ x ∈ d :: rest, ∃ y, x = .p y ∧ Fine y) (hl : n + (d :: rest).length ≤ 1000) :
    acc.length < lim ∧ Wp (denC Φ .no ((wipeD ρ [i]).set i (some d)) g) fun b g' => (b = true → Wp (den Φ (.call "_law_right" (.cons (.var i) .nil)) false ((wipeD ρ [i]).set i (some d)) g') fun y g' => ∃ n, acc ++ [y] = (List.replicate n (PyData.bool true)).map .p ∧ (∀ x ∈ rest, ∃ y, x = .p y ∧ Fine y) ∧ n + rest.length ≤ 1000 ∧ g' = g) ∧ (b = false → ∃ n, acc = (List.replicate n (PyData.bool true)).map .p ∧ (∀ x ∈ rest, ∃ y, x = .p y ∧ Fine y) ∧ n + rest.length ≤ 1000 ∧ g' = g) := by
  rw [List.length_cons] at hl
  refine ⟨by rw [ha]; simp; show n < 1000000; omega, w_cno ⟨fun _ => ?_, (fun h => nomatch h)⟩⟩
  obtain ⟨y, rfl, ny⟩ := hx _ List.mem_cons_self
  subst hΦ
  refine w_call (w_dcons (w_var (d := .p y) ?_ (w_dnil ?_)))
  · rw [List.getElem?_set_self (by rw [wipeD_length]; exact hi)]
  · refine (fine_right k y g ny).mono ?_
    rintro _ _ ⟨rfl, rfl⟩
    refine ⟨n + 1, ?_, fun x m => hx x (List.mem_cons_of_mem _ m), by omega, rfl⟩
    rw [ha, List.replicate_succ', List.map_append]; rfl
theorem toP_trues (n : Nat) : toP ((List.replicate n (PyData.bool true)).map .p) = (List.replicate n true).map .bool := by
  rw [toP_map]; simp
theorem areP_trues (n : Nat) : areP ((List.replicate n (PyData.bool true)).map .p) = true := areP_map _
theorem cell_ok (k : Nat) (ns : List Int) (j : Int) (g : G) (hj : 0 ≤ j) : Wp (Fn pr.tab (k + 1) "_law_cell_at" [.kl (ns.map .int), .p (.int j)] g) fun v g' => g' = g ∧ ∃ i : Int, v = .p (.int i) := by
  rw [f6, b6]
  refine w_fn ?_
  walk_at "wp"
  refine Wp.of (len_kl _ _ _) ?_
  walk_at "wp"
  refine ⟨fun h => ?_, fun _ => ?_⟩
  · have h : j < ((ns.map PyData.int).map D.p).length := by simpa using h
    walk_at "wp"
    refine w_ixK hj (by simpa using h) fun d m => ?_
    obtain ⟨i, _, rfl⟩ := List.mem_map.mp m
    exact ⟨rfl, i, rfl⟩
  · walk_at "wp"
    exact ⟨rfl, 0, rfl⟩
theorem pen_ok (k : Nat) (i : Int) (g : G) : Wp (Fn pr.tab (k + 1) "_law_pen" [.p (.int i)] g) fun v g' => v = .ref g.length ∧ PenAt g.length 1000000 g' ∧ ∃ o, g' = g ++ [o] := by
  rw [f7, b7]
  refine w_fn ?_
  walk_at "wp"
  refine Wp.of (bin_powI _ _ _ _ (by decide)) ?_
  walk_at "wp"
  refine Wp.of (bin_modI _ _ _ _ (by decide)) ?_
  walk_at "wp"
  exact ⟨rfl, ⟨_, i % 1000000007, 0, by rw [List.getElem?_append_right (Nat.le_refl _), Nat.sub_self]; rfl, Int.emod_nonneg _ (by decide), Int.emod_lt_of_pos _ (by decide), by decide, by decide⟩, _, rfl⟩
end K01

set_option Elab.async false
set_option linter.all false
set_option maxRecDepth 100000
namespace K01
open PySem En
local macro_rules | `(tactic| walk_at "wp") => `(tactic| repeat (first
  | with_reducible refine w_seq ?_ | with_reducible refine w_skip ?_ | with_reducible refine w_ret ?_ | with_reducible refine w_retN ?_ | with_reducible refine w_ex ?_ | with_reducible refine w_asg ?_ | with_reducible refine w_par ?_ | with_reducible refine w_if ?_
  | with_reducible refine w_dcons ?_ | with_reducible refine w_dnil ?_
  | with_reducible refine w_lit ?_ | with_reducible refine w_var (by with_unfolding_all rfl) ?_ | with_reducible refine w_call ?_ | with_reducible refine w_bf ?_ | with_reducible refine w_bin ?_ | with_reducible refine w_cmp ?_ | with_reducible refine w_chain ?_ | with_reducible refine w_and ?_ | with_reducible refine w_or ?_ | with_reducible refine w_not ?_ | with_reducible refine w_neg ?_ | with_reducible refine w_ife ?_ | with_reducible refine w_tup ?_ | with_reducible refine w_lst ?_ | with_reducible refine w_ix ?_ | with_reducible refine w_sl ?_ | with_reducible refine w_rev ?_ | with_reducible refine w_isi ?_
  | with_reducible refine w_varT ?_ | with_reducible refine w_callT ?_ | with_reducible refine w_bfT ?_ | with_reducible refine w_binT ?_ | with_reducible refine w_ixT ?_ | with_reducible refine w_isiT ?_ | with_reducible refine w_litT ?_
  | with_reducible refine w_ono ?_ | with_reducible refine w_oso ?_ | with_reducible refine w_cno ?_ | with_reducible refine w_cso ?_ | with_reducible refine w_pno ?_ | with_reducible refine w_pso ?_ | with_reducible refine w_asB ?_ | with_reducible refine w_trB ?_ | with_reducible refine w_trI ?_
  | with_reducible refine w_iseq ?_ | with_reducible refine w_irng ?_ | with_reducible refine w_irng2 ?_ | with_reducible refine w_srcT ?_ | with_reducible refine w_srcL ?_
  | with_reducible refine Wp.of (cmp_lt _ _ _) ?_ | with_reducible refine Wp.of (cmp_le _ _ _) ?_ | with_reducible refine Wp.of (cmp_gt _ _ _) ?_ | with_reducible refine Wp.of (cmp_ge _ _ _) ?_ | with_reducible refine Wp.of (cmp_eqI _ _ _) ?_ | with_reducible refine Wp.of (cmp_neI _ _ _) ?_ | with_reducible refine Wp.of (cmp_eqS _ _ _) ?_ | with_reducible refine Wp.of (cmp_neS _ _ _) ?_ | with_reducible refine Wp.of (cmp_eqT0 _ _) ?_
  | with_reducible refine Wp.of (bin_addI _ _ _ _) ?_ | with_reducible refine Wp.of (bin_subI _ _ _ _) ?_ | with_reducible refine Wp.of (neg_int _ _) ?_ | with_reducible refine Wp.of (len_tup _ _ _) ?_ | with_reducible refine Wp.of (len_list _ _ _) ?_ | with_reducible refine Wp.of (max_int _ _ _ _) ?_ | with_reducible refine Wp.of (min_int _ _ _ _) ?_
  | with_reducible refine w_finB (by with_unfolding_all rfl) (by with_unfolding_all rfl) ?_ | with_reducible refine w_finTB (by with_unfolding_all rfl) (by with_unfolding_all rfl) ?_ | with_reducible refine w_finMB (by with_unfolding_all rfl) ?_))

theorem PenAt.snoc {p r : Nat} {g : G} {o : GO} (h : PenAt p r g) : PenAt p r (g ++ [o]) := by
  obtain ⟨a, b, n, h1, h2⟩ := h.is
  exact ⟨a, b, n, by rw [List.getElem?_append_left (List.getElem?_eq_some_iff.mp h1).1]; exact h1, h2⟩
theorem PenAt.lt {p r : Nat} {g : G} (h : PenAt p r g) : p < g.length := by
  obtain ⟨a, b, n, h1, h2⟩ := h.is
  exact (List.getElem?_eq_some_iff.mp h1).1
theorem PenAt.put {p q r : Nat} {g : G} {o : GO} (h : PenAt p r g) (hq : q ≠ p) : PenAt p r (g.set q o) := by
  obtain ⟨a, b, n, h1, h2⟩ := h.is
  exact ⟨a, b, n, by rw [List.getElem?_set_ne hq]; exact h1, h2⟩
theorem addR {g : G} {q : Nat} {a : List PyData} (h : g[q]? = some (.lst (a.map .p))) (b : List PyData) (hl : (a ++ b).length ≤ lim) : opBin .add true (.ref q) (.p (.list b)) g = .ok (.ref g.length) (g ++ [.lst ((a ++ b).map .p)]) := by
  show (match catOf g (.ref q), catOf g (.p (.list b)) with | some a, some b => fin true (a ++ b) g | _, _ => .stuck) = _
  have e1 : catOf g (.ref q) = some (a.map .p) := by
    show (match g[q]? with | some (.lst ds) => some ds | _ => none) = _
    rw [h]
  rw [e1]
  show fin true (a.map .p ++ b.map .p) g = _
  unfold fin
  rw [if_pos (by simpa using hl), if_pos rfl, List.map_append]
def BODY : S := match b21 with
  | .seq _ (.seq (.for_ _ _ _ s) _) => s
  | _ => .skip
theorem body_ok (k : Nat) (ns : List Int) (j : Int) (hj : 0 ≤ j) (x1 x2 x3 x4 x5 x6 x7 x8 : Option D) (g : G) (P : Po) (hP : ∀ y3 y4 y5 y6 y7 y8 g', P.nx [some (.kl (ns.map .int)), x1, some (.p (.int j)), y3, y4, y5, y6, y7, y8] g') :
    Ws (denS (Fn pr.tab (k + 12)) BODY [some (.kl (ns.map .int)), x1, some (.p (.int j)), x3, x4, x5, x6, x7, x8] g) P := by
  unfold BODY b21
  simp only
  walk_at "wp"
  refine (cell_ok _ ns j g hj).mono ?_
  rintro _ g0 ⟨e0, i, rfl⟩
  walk_at "wp"
  refine (pen_ok _ i _).mono ?_
  rintro _ g1 ⟨rfl, P1, o1, e1⟩
  have hp := P1.lt
  generalize g0.length = p at P1 hp
  walk_at "wp"
  refine (house_ok _ (r := 900000) (P1.le (by omega))).mono ?_
  rintro _ g2 ⟨hs, rfl, nh, P2, s2⟩
  walk_at "wp"
  refine (stays_ok _ (r := 800000) (P2.le (by omega))).mono ?_
  rintro _ g3 ⟨rows, rfl, nr, P3, s3⟩
  walk_at "wp"
  refine (stay_ok _ (r := 700000) (P3.le (by omega))).mono ?_
  rintro _ g4 ⟨st, rfl, nst, P4, s4⟩
  walk_at "wp"
  have lh : hs.length ≤ 1000000 := by have := len_wts hs; have := nh.w; simp only [wt] at this; omega
  have lr : rows.length ≤ 1000000 := by have := len_wts rows; have := nr.w; simp only [wt] at this; omega
  refine w_listT lh ?_
  walk_at "wp"
  refine w_listT lr ?_
  walk_at "wp"
  refine (odd_ok _ (r := 600000) (P4.le (by omega))).mono ?_
  rintro _ g5 ⟨od, rfl, no, P5, s5⟩
  walk_at "wp"
  refine w_for ?_
  walk_at "wp"
  refine w_srcG (by decide) ?_
  refine ⟨_, rfl, fun rest ρ g => ∃ (q : Nat) (things : List PyData) (y7 y8 : Option D), ρ = [some (.kl (ns.map .int)), x1, some (.p (.int j)), some (.ref p), some (.p (.tuple hs)), some (.p (.tuple rows)), some (.ref q), y7, y8] ∧ g[q]? = some (.lst (things.map .p)) ∧ q ≠ p ∧ (∀ d ∈ things, Fine d) ∧ things.length + 4 * rest.length ≤ 100 ∧ PenAt p (48 * rest.length) g, ?_, ?_, ?_⟩
  · refine ⟨g5.length, [.tuple hs, .tuple rows, .tuple st, .list hs, .list rows, od, .none], x7, x8, rfl, ?_, ?_, ?_, ?_, ?_⟩
    · rw [List.getElem?_append_right (Nat.le_refl _), Nat.sub_self]; rfl
    · have := P5.lt; omega
    · have f1 : Fine (.tuple hs) := nh.fine (by decide) (by decide) (by decide)
      have f2 : Fine (.tuple rows) := nr.fine (by decide) (by decide) (by decide)
      intro d m
      simp only [List.mem_cons, List.not_mem_nil, or_false] at m
      rcases m with rfl | rfl | rfl | rfl | rfl | rfl | rfl
      · exact f1
      · exact f2
      · exact nst.fine (by decide) (by decide) (by decide)
      · exact nice_list f1
      · exact nice_list f2
      · exact no.fine (by decide) (by decide) (by decide)
      · exact ⟨by simp [mx], by simp [wt], by simp [PyData.depth]⟩
    · rw [rngL_len]; show 7 + 4 * ((10 : Int) - 0).toNat ≤ 100; decide
    · rw [rngL_len]; exact P5.snoc.le (by decide)
  · rintro d rest ρ g6 ⟨q, things, y7, y8, rfl, hq, hqp, ht, hl, P6⟩
    rw [List.length_cons] at hl P6
    walk_at "wp"
    refine (bent_ok p 2 _ (48 * rest.length + 36) g6 (.tuple rows) 100000000000 50000 10 (P6.le (by omega)) (nr.le (by decide) (by decide) (by decide)) (by decide) (by decide) (by decide)).mono ?_
    rintro _ g7 ⟨b1, rfl, n1, P7, s7⟩
    walk_at "wp"
    refine (bent_ok p 2 _ (48 * rest.length + 24) g7 b1 100000000004 104000 10 (P7.le (by omega)) (n1.le (by decide) (by decide) (by decide)) (by decide) (by decide) (by decide)).mono ?_
    rintro _ g8 ⟨b2, rfl, n2, P8, s8⟩
    walk_at "wp"
    refine (bent_ok p 1 _ (48 * rest.length + 16) g8 (.tuple hs) 100000000000 50000 10 (P8.le (by omega)) (nh.le (by decide) (by decide) (by decide)) (by decide) (by decide) (by decide)).mono ?_
    rintro _ g9 ⟨b3, rfl, n3, P9, s9⟩
    walk_at "wp"
    have hq9 : g9[q]? = some (.lst (things.map .p)) := by rw [s9.get (Ne.symm hqp), s8.get (Ne.symm hqp), s7.get (Ne.symm hqp)]; exact hq
    refine Wp.of (addR hq9 [b1, b2, b3] (by simp; show _ ≤ 1000000; omega)) ?_
    refine w_seq (w_app ?_)
    walk_at "wp"
    have hq10 : (g9 ++ [GO.lst ((things ++ [b1, b2, b3]).map D.p)])[g9.length]? = some (.lst ((things ++ [b1, b2, b3]).map D.p)) := by rw [List.getElem?_append_right (Nat.le_refl _), Nat.sub_self]; rfl
    have hp9 : g9.length ≠ p := by have := P9.lt; omega
    refine ⟨_, _, rfl, hq10, ?_⟩
    walk_at "wp"
    refine (stay_ok _ (r := 48 * rest.length + 8) P9.snoc).mono ?_
    rintro _ g10 ⟨st2, rfl, n10, P10, s10⟩
    walk_at "wp"
    refine (bent_ok p 1 _ (48 * rest.length) g10 (.tuple st2) 100000000000 50000 10 (P10.le (by omega)) (n10.le (by decide) (by decide) (by decide)) (by decide) (by decide) (by decide)).mono ?_
    rintro _ g11 ⟨b4, rfl, n4, P11, s11⟩
    have hq11 := (s10.trans s11).get (Ne.symm hp9)
    rw [hq10] at hq11
    refine ⟨_, hq11, by simp; show _ < 1000000; omega, ?_⟩
    walk_at "wp"
    refine ⟨g9.length, things ++ [b1, b2, b3] ++ [b4], some d, some (.p b1), rfl, ?_, hp9, ?_, by simp; omega, P11.put hp9⟩
    · rw [List.getElem?_set_self (by rw [(s10.trans s11).len]; simp)]; simp
    · intro y m
      simp only [List.append_assoc, List.mem_append, List.mem_cons, List.not_mem_nil, or_false] at m
      rcases m with m | (rfl | rfl | rfl) | rfl
      · exact ht y m
      · exact n1.fine (by decide) (by decide) (by decide)
      · exact n2.fine (by decide) (by decide) (by decide)
      · exact n3.fine (by decide) (by decide) (by decide)
      · exact n4.fine (by decide) (by decide) (by decide)
  · rintro ρ g6 ⟨q, things, y7, y8, rfl, hq, hqp, ht, hl, P6⟩
    walk_at "wp"
    refine w_compR ?_
    walk_at "wp"
    refine w_srcR hq ?_
    refine ⟨q, things.map .p, rfl, fun acc rest g => (∃ n, acc = (List.replicate n (PyData.bool true)).map .p ∧ (∀ x ∈ rest, ∃ y, x = .p y ∧ Fine y) ∧ n + rest.length ≤ 1000 ∧ g = g6) ∧ ∃ pre, things.map D.p = pre ++ rest, ⟨⟨0, rfl, fun x m => ?_, ?_, rfl⟩, [], rfl⟩, ?_, ?_, ?_⟩
    · obtain ⟨y, my, rfl⟩ := List.mem_map.mp m
      exact ⟨y, rfl, ht y my⟩
    · simp at hl ⊢; omega
    · rintro acc rest g ⟨⟨n, h1, h2, h3, rfl⟩, hp⟩
      exact ⟨hq, hp⟩
    · rintro acc d rest g ⟨⟨n, h1, h2, h3, rfl⟩, pre, hpre⟩
      obtain ⟨t1, t2⟩ := look_turn (k := k + 6) (g := g) (g0 := g) (i := 1) rfl (ρ := [some (.kl (ns.map .int)), x1, some (.p (.int j)), some (.ref p), some (.p (.tuple hs)), some (.p (.tuple rows)), some (.ref q), y7, y8]) (by show 1 < 9; decide) n h1 h2 h3
      refine ⟨t1, t2.mono ?_⟩
      rintro b g7 ⟨t3, t4⟩
      have hpre' : things.map D.p = (pre ++ [d]) ++ rest := by rw [hpre]; simp
      exact ⟨fun h => (t3 h).mono fun y g8 h => ⟨h, _, hpre'⟩, fun h => ⟨t4 h, _, hpre'⟩⟩
    · rintro acc g ⟨⟨n, rfl, _, h3, rfl⟩, _⟩
      refine w_fin (areP_trues n) (by simp; show n ≤ 1000000; simp at h3; omega) ?_
      rw [toP_trues]
      walk_at "wp"
      refine trues_ok n ?_
      walk_at "wp"
      refine ⟨(fun h => nomatch h), fun _ => ?_⟩
      walk_at "wp"
      exact hP _ _ _ _ _ _ _
end K01

set_option Elab.async false
set_option linter.all false
set_option maxRecDepth 100000
namespace K01
open PySem En
local macro_rules | `(tactic| walk_at "wp") => `(tactic| repeat (first
  | with_reducible refine w_seq ?_ | with_reducible refine w_skip ?_ | with_reducible refine w_ret ?_ | with_reducible refine w_retN ?_ | with_reducible refine w_ex ?_ | with_reducible refine w_asg ?_ | with_reducible refine w_par ?_ | with_reducible refine w_if ?_
  | with_reducible refine w_dcons ?_ | with_reducible refine w_dnil ?_
  | with_reducible refine w_lit ?_ | with_reducible refine w_var (by with_unfolding_all rfl) ?_ | with_reducible refine w_call ?_ | with_reducible refine w_bf ?_ | with_reducible refine w_bin ?_ | with_reducible refine w_cmp ?_ | with_reducible refine w_chain ?_ | with_reducible refine w_and ?_ | with_reducible refine w_or ?_ | with_reducible refine w_not ?_ | with_reducible refine w_neg ?_ | with_reducible refine w_ife ?_ | with_reducible refine w_tup ?_ | with_reducible refine w_lst ?_ | with_reducible refine w_ix ?_ | with_reducible refine w_sl ?_ | with_reducible refine w_rev ?_ | with_reducible refine w_isi ?_
  | with_reducible refine w_varT ?_ | with_reducible refine w_callT ?_ | with_reducible refine w_bfT ?_ | with_reducible refine w_binT ?_ | with_reducible refine w_ixT ?_ | with_reducible refine w_isiT ?_ | with_reducible refine w_litT ?_
  | with_reducible refine w_ono ?_ | with_reducible refine w_oso ?_ | with_reducible refine w_cno ?_ | with_reducible refine w_cso ?_ | with_reducible refine w_pno ?_ | with_reducible refine w_pso ?_ | with_reducible refine w_asB ?_ | with_reducible refine w_trB ?_ | with_reducible refine w_trI ?_
  | with_reducible refine w_iseq ?_ | with_reducible refine w_irng ?_ | with_reducible refine w_irng2 ?_ | with_reducible refine w_srcT ?_ | with_reducible refine w_srcL ?_
  | with_reducible refine Wp.of (cmp_lt _ _ _) ?_ | with_reducible refine Wp.of (cmp_le _ _ _) ?_ | with_reducible refine Wp.of (cmp_gt _ _ _) ?_ | with_reducible refine Wp.of (cmp_ge _ _ _) ?_ | with_reducible refine Wp.of (cmp_eqI _ _ _) ?_ | with_reducible refine Wp.of (cmp_neI _ _ _) ?_ | with_reducible refine Wp.of (cmp_eqS _ _ _) ?_ | with_reducible refine Wp.of (cmp_neS _ _ _) ?_ | with_reducible refine Wp.of (cmp_eqT0 _ _) ?_
  | with_reducible refine Wp.of (bin_addI _ _ _ _) ?_ | with_reducible refine Wp.of (bin_subI _ _ _ _) ?_ | with_reducible refine Wp.of (neg_int _ _) ?_ | with_reducible refine Wp.of (len_tup _ _ _) ?_ | with_reducible refine Wp.of (len_list _ _ _) ?_ | with_reducible refine Wp.of (max_int _ _ _ _) ?_ | with_reducible refine Wp.of (min_int _ _ _ _) ?_
  | with_reducible refine w_finB (by with_unfolding_all rfl) (by with_unfolding_all rfl) ?_ | with_reducible refine w_finTB (by with_unfolding_all rfl) (by with_unfolding_all rfl) ?_ | with_reducible refine w_finMB (by with_unfolding_all rfl) ?_))

def LHEAD : S := match b21 with
  | .seq a _ => a
  | _ => .skip
def LIT : It := match b21 with
  | .seq _ (.seq (.for_ _ _ it _) _) => it
  | _ => .seq .stuck
theorem b21_eq : b21 = .seq LHEAD (.seq (.for_ false [2] LIT BODY) (.seq (.ret (.lit (.bool true))) .skip)) := rfl
theorem head_ok (k : Nat) {Φ : Str → List D → G → R D} (hΦ : Φ = Fn pr.tab (k + 12)) (x : D) (P : Po) (hP : P.nx [some x, none, none, none, none, none, none, none, none] []) : Ws (denS Φ LHEAD [some x, none, none, none, none, none, none, none, none] []) P := by
  unfold LHEAD b21
  simp only
  walk_at "wp"
  refine w_comp ?_
  walk_at "wp"
  refine Wp.of ((congrFun (congrFun (congrFun hΦ _) _) _).trans (fixed_ok _ _)) ?_
  walk_at "wp"
  refine ⟨_, rfl, fun acc rest g => ∃ n, acc = (List.replicate n (PyData.bool true)).map .p ∧ (∀ x ∈ rest, ∃ y, x = .p y ∧ Fine y) ∧ n + rest.length ≤ 1000 ∧ g = [], ⟨0, rfl, fun x m => ?_, by rw [List.length_map]; decide +kernel, rfl⟩, ?_, ?_⟩
  · obtain ⟨y, my, rfl⟩ := List.mem_map.mp m
    exact ⟨y, rfl, fixed_fine y my⟩
  · rintro acc d rest g ⟨n, h1, h2, h3, rfl⟩
    exact look_turn (k := k + 6) (g := []) (g0 := []) (i := 1) hΦ (ρ := [some x, none, none, none, none, none, none, none, none]) (by show 1 < 9; decide) n h1 h2 h3
  · rintro acc g ⟨n, rfl, _, h3, rfl⟩
    refine w_fin (areP_trues n) (by simp; show n ≤ 1000000; simp at h3; omega) ?_
    rw [toP_trues]
    walk_at "wp"
    refine trues_ok n ?_
    walk_at "wp"
    refine ⟨(fun h => nomatch h), fun _ => w_skip ?_⟩
    exact hP
theorem wp_end {r : R D} {c : D} (h : Wp r fun v _ => v = c) : ∃ g, r = .ok c g := by
  obtain ⟨x, g, e, rfl⟩ := h.to
  exact ⟨g, e⟩
theorem law_end (k : Nat) (ns : List Int) (hn : ns.length ≤ 63) : ∃ g, Fn pr.tab (k + 13) "law" [.kl (ns.map .int)] [] = .ok (.p (.bool true)) g := by
  rw [f21, b21_eq]
  have body := body_ok k ns
  generalize hΦ : Fn pr.tab (k + 12) = Φ at body ⊢
  apply wp_end
  refine w_fn (w_seq (head_ok k hΦ.symm _ _ ?_))
  refine w_seq (w_for ?_)
  unfold LIT b21
  simp only
  walk_at "wp"
  refine Wp.of (len_kl _ _ _) ?_
  walk_at "wp"
  have hl : ((ns.map PyData.int).map D.p).length = ns.length := by simp
  rw [hl]
  refine w_srcG (by split <;> split <;> omega) ?_
  refine ⟨_, rfl, fun rest ρ g => (∀ d ∈ rest, ∃ j : Int, d = .p (.int j) ∧ 0 ≤ j) ∧ ∃ x1 x2 x3 x4 x5 x6 x7 x8, ρ = [some (.kl (ns.map .int)), x1, x2, x3, x4, x5, x6, x7, x8], ⟨fun d m => ?_, _, _, _, _, _, _, _, _, rfl⟩, ?_, ?_⟩
  · obtain ⟨j, e, h, _⟩ := rngL_int _ _ d m
    exact ⟨j, e, h⟩
  · rintro d rest ρ g ⟨hd, x1, x2, x3, x4, x5, x6, x7, x8, rfl⟩
    obtain ⟨j, rfl, hj⟩ := hd d List.mem_cons_self
    exact body j hj x1 x2 x3 x4 x5 x6 x7 x8 g _ fun y3 y4 y5 y6 y7 y8 g' => ⟨fun d m => hd d (List.mem_cons_of_mem _ m), _, _, _, _, _, _, _, _, rfl⟩
  · rintro ρ g ⟨_, x1, x2, x3, x4, x5, x6, x7, x8, rfl⟩
    walk_at "wp"
    rfl
theorem law_true (ns : List Int) (hn : ns.length ≤ 63) : ∃ g, Fn pr.tab 60 "law" [.kl (ns.map .int)] [] = .ok (.p (.bool true)) g := law_end 47 ns hn
end K01

set_option Elab.async false
set_option linter.all false
set_option maxRecDepth 100000
namespace K01
open PySem PySem.Spec PyProof.Rows L2 En
def depth : Nat := 60
theorem law_in : d21 ∈ pr.defs := by unfold pr; simp
theorem law_holds : ∀ ns : List Int, ns.length ≤ 63 → ∃ g, Fn pr.tab depth d21.name [.kl (ns.map .int)] [] = .ok (.p (.bool true)) g := fun ns hn => law_true ns hn
theorem S0 : FnScope d0.N d0.ps (defScope d0.st) := ⟨rfl, rfl, rfl, by decide +kernel, rfl, by decide +kernel, by decide +kernel⟩
theorem B0 : ∀ (kV doc pm : Value) (an : Option Addr) (cdv ct : Value) (us : List Value), us.length = d0.ps.length → bindArgs (PySem.W.fnOf d0.name d0.name (defArgs d0.st) (defBody d0.st) (defScope d0.st) .none kV doc pm an cdv ct) ⟨us, []⟩ = pure (d0.ps.zip us) :=
  fun _ _ _ _ _ _ us hl => match us, hl with | [_], _ => rfl
theorem S1 : FnScope d1.N d1.ps (defScope d1.st) := ⟨rfl, rfl, rfl, by decide +kernel, rfl, by decide +kernel, by decide +kernel⟩
theorem B1 : ∀ (kV doc pm : Value) (an : Option Addr) (cdv ct : Value) (us : List Value), us.length = d1.ps.length → bindArgs (PySem.W.fnOf d1.name d1.name (defArgs d1.st) (defBody d1.st) (defScope d1.st) .none kV doc pm an cdv ct) ⟨us, []⟩ = pure (d1.ps.zip us) :=
  fun _ _ _ _ _ _ us hl => match us, hl with | [_, _, _], _ => rfl
theorem S2 : FnScope d2.N d2.ps (defScope d2.st) := ⟨rfl, rfl, rfl, by decide +kernel, rfl, by decide +kernel, by decide +kernel⟩
theorem B2 : ∀ (kV doc pm : Value) (an : Option Addr) (cdv ct : Value) (us : List Value), us.length = d2.ps.length → bindArgs (PySem.W.fnOf d2.name d2.name (defArgs d2.st) (defBody d2.st) (defScope d2.st) .none kV doc pm an cdv ct) ⟨us, []⟩ = pure (d2.ps.zip us) :=
  fun _ _ _ _ _ _ us hl => match us, hl with | [_], _ => rfl
theorem S3 : FnScope d3.N d3.ps (defScope d3.st) := ⟨rfl, rfl, rfl, by decide +kernel, rfl, by decide +kernel, by decide +kernel⟩
theorem B3 : ∀ (kV doc pm : Value) (an : Option Addr) (cdv ct : Value) (us : List Value), us.length = d3.ps.length → bindArgs (PySem.W.fnOf d3.name d3.name (defArgs d3.st) (defBody d3.st) (defScope d3.st) .none kV doc pm an cdv ct) ⟨us, []⟩ = pure (d3.ps.zip us) :=
  fun _ _ _ _ _ _ us hl => match us, hl with | [_], _ => rfl
theorem S4 : FnScope d4.N d4.ps (defScope d4.st) := ⟨rfl, rfl, rfl, by decide +kernel, rfl, by decide +kernel, by decide +kernel⟩
theorem B4 : ∀ (kV doc pm : Value) (an : Option Addr) (cdv ct : Value) (us : List Value), us.length = d4.ps.length → bindArgs (PySem.W.fnOf d4.name d4.name (defArgs d4.st) (defBody d4.st) (defScope d4.st) .none kV doc pm an cdv ct) ⟨us, []⟩ = pure (d4.ps.zip us) :=
  fun _ _ _ _ _ _ us hl => match us, hl with | [_], _ => rfl
theorem S5 : FnScope d5.N d5.ps (defScope d5.st) := ⟨rfl, rfl, rfl, by decide +kernel, rfl, by decide +kernel, by decide +kernel⟩
theorem B5 : ∀ (kV doc pm : Value) (an : Option Addr) (cdv ct : Value) (us : List Value), us.length = d5.ps.length → bindArgs (PySem.W.fnOf d5.name d5.name (defArgs d5.st) (defBody d5.st) (defScope d5.st) .none kV doc pm an cdv ct) ⟨us, []⟩ = pure (d5.ps.zip us) :=
  fun _ _ _ _ _ _ us hl => match us, hl with | [_], _ => rfl
theorem S6 : FnScope d6.N d6.ps (defScope d6.st) := ⟨rfl, rfl, rfl, by decide +kernel, rfl, by decide +kernel, by decide +kernel⟩
theorem B6 : ∀ (kV doc pm : Value) (an : Option Addr) (cdv ct : Value) (us : List Value), us.length = d6.ps.length → bindArgs (PySem.W.fnOf d6.name d6.name (defArgs d6.st) (defBody d6.st) (defScope d6.st) .none kV doc pm an cdv ct) ⟨us, []⟩ = pure (d6.ps.zip us) :=
  fun _ _ _ _ _ _ us hl => match us, hl with | [_, _], _ => rfl
theorem S7 : FnScope d7.N d7.ps (defScope d7.st) := ⟨rfl, rfl, rfl, by decide +kernel, rfl, by decide +kernel, by decide +kernel⟩
theorem B7 : ∀ (kV doc pm : Value) (an : Option Addr) (cdv ct : Value) (us : List Value), us.length = d7.ps.length → bindArgs (PySem.W.fnOf d7.name d7.name (defArgs d7.st) (defBody d7.st) (defScope d7.st) .none kV doc pm an cdv ct) ⟨us, []⟩ = pure (d7.ps.zip us) :=
  fun _ _ _ _ _ _ us hl => match us, hl with | [_], _ => rfl
theorem S8 : FnScope d8.N d8.ps (defScope d8.st) := ⟨rfl, rfl, rfl, by decide +kernel, rfl, by decide +kernel, by decide +kernel⟩
theorem B8 : ∀ (kV doc pm : Value) (an : Option Addr) (cdv ct : Value) (us : List Value), us.length = d8.ps.length → bindArgs (PySem.W.fnOf d8.name d8.name (defArgs d8.st) (defBody d8.st) (defScope d8.st) .none kV doc pm an cdv ct) ⟨us, []⟩ = pure (d8.ps.zip us) :=
  fun _ _ _ _ _ _ us hl => match us, hl with | [_, _], _ => rfl
theorem S9 : FnScope d9.N d9.ps (defScope d9.st) := ⟨rfl, rfl, rfl, by decide +kernel, rfl, by decide +kernel, by decide +kernel⟩
theorem B9 : ∀ (kV doc pm : Value) (an : Option Addr) (cdv ct : Value) (us : List Value), us.length = d9.ps.length → bindArgs (PySem.W.fnOf d9.name d9.name (defArgs d9.st) (defBody d9.st) (defScope d9.st) .none kV doc pm an cdv ct) ⟨us, []⟩ = pure (d9.ps.zip us) :=
  fun _ _ _ _ _ _ us hl => match us, hl with | [_], _ => rfl
theorem S10 : FnScope d10.N d10.ps (defScope d10.st) := ⟨rfl, rfl, rfl, by decide +kernel, rfl, by decide +kernel, by decide +kernel⟩
theorem B10 : ∀ (kV doc pm : Value) (an : Option Addr) (cdv ct : Value) (us : List Value), us.length = d10.ps.length → bindArgs (PySem.W.fnOf d10.name d10.name (defArgs d10.st) (defBody d10.st) (defScope d10.st) .none kV doc pm an cdv ct) ⟨us, []⟩ = pure (d10.ps.zip us) :=
  fun _ _ _ _ _ _ us hl => match us, hl with | [_, _, _], _ => rfl
theorem S11 : FnScope d11.N d11.ps (defScope d11.st) := ⟨rfl, rfl, rfl, by decide +kernel, rfl, by decide +kernel, by decide +kernel⟩
theorem B11 : ∀ (kV doc pm : Value) (an : Option Addr) (cdv ct : Value) (us : List Value), us.length = d11.ps.length → bindArgs (PySem.W.fnOf d11.name d11.name (defArgs d11.st) (defBody d11.st) (defScope d11.st) .none kV doc pm an cdv ct) ⟨us, []⟩ = pure (d11.ps.zip us) :=
  fun _ _ _ _ _ _ us hl => match us, hl with | [_], _ => rfl
theorem S12 : FnScope d12.N d12.ps (defScope d12.st) := ⟨rfl, rfl, rfl, by decide +kernel, rfl, by decide +kernel, by decide +kernel⟩
theorem B12 : ∀ (kV doc pm : Value) (an : Option Addr) (cdv ct : Value) (us : List Value), us.length = d12.ps.length → bindArgs (PySem.W.fnOf d12.name d12.name (defArgs d12.st) (defBody d12.st) (defScope d12.st) .none kV doc pm an cdv ct) ⟨us, []⟩ = pure (d12.ps.zip us) :=
  fun _ _ _ _ _ _ us hl => match us, hl with | [_], _ => rfl
theorem S13 : FnScope d13.N d13.ps (defScope d13.st) := ⟨rfl, rfl, rfl, by decide +kernel, rfl, by decide +kernel, by decide +kernel⟩
theorem B13 : ∀ (kV doc pm : Value) (an : Option Addr) (cdv ct : Value) (us : List Value), us.length = d13.ps.length → bindArgs (PySem.W.fnOf d13.name d13.name (defArgs d13.st) (defBody d13.st) (defScope d13.st) .none kV doc pm an cdv ct) ⟨us, []⟩ = pure (d13.ps.zip us) :=
  fun _ _ _ _ _ _ us hl => match us, hl with | [_], _ => rfl
theorem S14 : FnScope d14.N d14.ps (defScope d14.st) := ⟨rfl, rfl, rfl, by decide +kernel, rfl, by decide +kernel, by decide +kernel⟩
theorem B14 : ∀ (kV doc pm : Value) (an : Option Addr) (cdv ct : Value) (us : List Value), us.length = d14.ps.length → bindArgs (PySem.W.fnOf d14.name d14.name (defArgs d14.st) (defBody d14.st) (defScope d14.st) .none kV doc pm an cdv ct) ⟨us, []⟩ = pure (d14.ps.zip us) :=
  fun _ _ _ _ _ _ us hl => match us, hl with | [_, _], _ => rfl
theorem S15 : FnScope d15.N d15.ps (defScope d15.st) := ⟨rfl, rfl, rfl, by decide +kernel, rfl, by decide +kernel, by decide +kernel⟩
theorem B15 : ∀ (kV doc pm : Value) (an : Option Addr) (cdv ct : Value) (us : List Value), us.length = d15.ps.length → bindArgs (PySem.W.fnOf d15.name d15.name (defArgs d15.st) (defBody d15.st) (defScope d15.st) .none kV doc pm an cdv ct) ⟨us, []⟩ = pure (d15.ps.zip us) :=
  fun _ _ _ _ _ _ us hl => match us, hl with | [_, _, _], _ => rfl
theorem S16 : FnScope d16.N d16.ps (defScope d16.st) := ⟨rfl, rfl, rfl, by decide +kernel, rfl, by decide +kernel, by decide +kernel⟩
theorem B16 : ∀ (kV doc pm : Value) (an : Option Addr) (cdv ct : Value) (us : List Value), us.length = d16.ps.length → bindArgs (PySem.W.fnOf d16.name d16.name (defArgs d16.st) (defBody d16.st) (defScope d16.st) .none kV doc pm an cdv ct) ⟨us, []⟩ = pure (d16.ps.zip us) :=
  fun _ _ _ _ _ _ us hl => match us, hl with | [_], _ => rfl
theorem S17 : FnScope d17.N d17.ps (defScope d17.st) := ⟨rfl, rfl, rfl, by decide +kernel, rfl, by decide +kernel, by decide +kernel⟩
theorem B17 : ∀ (kV doc pm : Value) (an : Option Addr) (cdv ct : Value) (us : List Value), us.length = d17.ps.length → bindArgs (PySem.W.fnOf d17.name d17.name (defArgs d17.st) (defBody d17.st) (defScope d17.st) .none kV doc pm an cdv ct) ⟨us, []⟩ = pure (d17.ps.zip us) :=
  fun _ _ _ _ _ _ us hl => match us, hl with | [_], _ => rfl
theorem S18 : FnScope d18.N d18.ps (defScope d18.st) := ⟨rfl, rfl, rfl, by decide +kernel, rfl, by decide +kernel, by decide +kernel⟩
theorem B18 : ∀ (kV doc pm : Value) (an : Option Addr) (cdv ct : Value) (us : List Value), us.length = d18.ps.length → bindArgs (PySem.W.fnOf d18.name d18.name (defArgs d18.st) (defBody d18.st) (defScope d18.st) .none kV doc pm an cdv ct) ⟨us, []⟩ = pure (d18.ps.zip us) :=
  fun _ _ _ _ _ _ us hl => match us, hl with | [_], _ => rfl
theorem S19 : FnScope d19.N d19.ps (defScope d19.st) := ⟨rfl, rfl, rfl, by decide +kernel, rfl, by decide +kernel, by decide +kernel⟩
theorem B19 : ∀ (kV doc pm : Value) (an : Option Addr) (cdv ct : Value) (us : List Value), us.length = d19.ps.length → bindArgs (PySem.W.fnOf d19.name d19.name (defArgs d19.st) (defBody d19.st) (defScope d19.st) .none kV doc pm an cdv ct) ⟨us, []⟩ = pure (d19.ps.zip us) :=
  fun _ _ _ _ _ _ us hl => match us, hl with | [], _ => rfl
theorem S20 : FnScope d20.N d20.ps (defScope d20.st) := ⟨rfl, rfl, rfl, by decide +kernel, rfl, by decide +kernel, by decide +kernel⟩
theorem B20 : ∀ (kV doc pm : Value) (an : Option Addr) (cdv ct : Value) (us : List Value), us.length = d20.ps.length → bindArgs (PySem.W.fnOf d20.name d20.name (defArgs d20.st) (defBody d20.st) (defScope d20.st) .none kV doc pm an cdv ct) ⟨us, []⟩ = pure (d20.ps.zip us) :=
  fun _ _ _ _ _ _ us hl => match us, hl with | [_], _ => rfl
theorem S21 : FnScope d21.N d21.ps (defScope d21.st) := ⟨rfl, rfl, rfl, by decide +kernel, rfl, by decide +kernel, by decide +kernel⟩
theorem B21 : ∀ (kV doc pm : Value) (an : Option Addr) (cdv ct : Value) (us : List Value), us.length = d21.ps.length → bindArgs (PySem.W.fnOf d21.name d21.name (defArgs d21.st) (defBody d21.st) (defScope d21.st) .none kV doc pm an cdv ct) ⟨us, []⟩ = pure (d21.ps.zip us) :=
  fun _ _ _ _ _ _ us hl => match us, hl with | [_], _ => rfl
theorem blt_of {mg : Str → Option Value} (h0 : mg "len" = none) (h1 : mg "repr" = none) (h2 : mg "all" = none) (h3 : mg "any" = none) (h4 : mg "tuple" = none) (h5 : mg "list" = none) (h6 : mg "max" = none) (h7 : mg "min" = none) (h8 : mg "sum" = none) (h9 : mg "int" = none) (h10 : mg "bool" = none) (h11 : mg "str" = none) (h12 : mg "dict" = none) (h13 : mg "isinstance" = none) (h14 : mg "range" = none) : (∀ f : BF, mg f.nm = none) ∧ (∀ t : TY, mg (Str.ofString t.nm) = none) ∧ mg "isinstance" = none ∧ mg "range" = none := by
  refine ⟨fun f => ?_, fun t => ?_, h13, h14⟩
  · cases f <;> assumption
  · cases t <;> assumption
set_option maxHeartbeats 4000000 in
theorem mod_mk {K : PySem.W.Frag} {mg : Str → Option Value} {h : Heap} (X : K.In h) (G : h.Ns mainGlobals mg)
    {f0 : Addr} {od0 an0 : Option Addr} {sl0 : Array (Option Value)} {oc0 kV0 dc0 pm0 cd0 ct0 : Value} (a0 : PySem.W.nsIn K mainGlobals "is_whole" = some (some (.ref f0))) (l0 : K.lookup f0 = some ⟨oc0, od0, .func (PySem.W.fnOf "is_whole" "is_whole" (defArgs d0.st) (defBody d0.st) (defScope d0.st) .none kV0 dc0 pm0 an0 cd0 ct0), sl0⟩) (c0 : PySem.W.codeIn K cd0 "is_whole" = true) (k0 : PySem.W.keepIn K (.ref f0) = true)
    {f1 : Addr} {od1 an1 : Option Addr} {sl1 : Array (Option Value)} {oc1 kV1 dc1 pm1 cd1 ct1 : Value} (a1 : PySem.W.nsIn K mainGlobals "is_within" = some (some (.ref f1))) (l1 : K.lookup f1 = some ⟨oc1, od1, .func (PySem.W.fnOf "is_within" "is_within" (defArgs d1.st) (defBody d1.st) (defScope d1.st) .none kV1 dc1 pm1 an1 cd1 ct1), sl1⟩) (c1 : PySem.W.codeIn K cd1 "is_within" = true) (k1 : PySem.W.keepIn K (.ref f1) = true)
    {f2 : Addr} {od2 an2 : Option Addr} {sl2 : Array (Option Value)} {oc2 kV2 dc2 pm2 cd2 ct2 : Value} (a2 : PySem.W.nsIn K mainGlobals "is_kind" = some (some (.ref f2))) (l2 : K.lookup f2 = some ⟨oc2, od2, .func (PySem.W.fnOf "is_kind" "is_kind" (defArgs d2.st) (defBody d2.st) (defScope d2.st) .none kV2 dc2 pm2 an2 cd2 ct2), sl2⟩) (c2 : PySem.W.codeIn K cd2 "is_kind" = true) (k2 : PySem.W.keepIn K (.ref f2) = true)
    {f3 : Addr} {od3 an3 : Option Addr} {sl3 : Array (Option Value)} {oc3 kV3 dc3 pm3 cd3 ct3 : Value} (a3 : PySem.W.nsIn K mainGlobals "is_house" = some (some (.ref f3))) (l3 : K.lookup f3 = some ⟨oc3, od3, .func (PySem.W.fnOf "is_house" "is_house" (defArgs d3.st) (defBody d3.st) (defScope d3.st) .none kV3 dc3 pm3 an3 cd3 ct3), sl3⟩) (c3 : PySem.W.codeIn K cd3 "is_house" = true) (k3 : PySem.W.keepIn K (.ref f3) = true)
    {f4 : Addr} {od4 an4 : Option Addr} {sl4 : Array (Option Value)} {oc4 kV4 dc4 pm4 cd4 ct4 : Value} (a4 : PySem.W.nsIn K mainGlobals "is_stay" = some (some (.ref f4))) (l4 : K.lookup f4 = some ⟨oc4, od4, .func (PySem.W.fnOf "is_stay" "is_stay" (defArgs d4.st) (defBody d4.st) (defScope d4.st) .none kV4 dc4 pm4 an4 cd4 ct4), sl4⟩) (c4 : PySem.W.codeIn K cd4 "is_stay" = true) (k4 : PySem.W.keepIn K (.ref f4) = true)
    {f5 : Addr} {od5 an5 : Option Addr} {sl5 : Array (Option Value)} {oc5 kV5 dc5 pm5 cd5 ct5 : Value} (a5 : PySem.W.nsIn K mainGlobals "are_stays" = some (some (.ref f5))) (l5 : K.lookup f5 = some ⟨oc5, od5, .func (PySem.W.fnOf "are_stays" "are_stays" (defArgs d5.st) (defBody d5.st) (defScope d5.st) .none kV5 dc5 pm5 an5 cd5 ct5), sl5⟩) (c5 : PySem.W.codeIn K cd5 "are_stays" = true) (k5 : PySem.W.keepIn K (.ref f5) = true)
    {f6 : Addr} {od6 an6 : Option Addr} {sl6 : Array (Option Value)} {oc6 kV6 dc6 pm6 cd6 ct6 : Value} (a6 : PySem.W.nsIn K mainGlobals "_law_cell_at" = some (some (.ref f6))) (l6 : K.lookup f6 = some ⟨oc6, od6, .func (PySem.W.fnOf "_law_cell_at" "_law_cell_at" (defArgs d6.st) (defBody d6.st) (defScope d6.st) .none kV6 dc6 pm6 an6 cd6 ct6), sl6⟩) (c6 : PySem.W.codeIn K cd6 "_law_cell_at" = true) (k6 : PySem.W.keepIn K (.ref f6) = true)
    {f7 : Addr} {od7 an7 : Option Addr} {sl7 : Array (Option Value)} {oc7 kV7 dc7 pm7 cd7 ct7 : Value} (a7 : PySem.W.nsIn K mainGlobals "_law_pen" = some (some (.ref f7))) (l7 : K.lookup f7 = some ⟨oc7, od7, .func (PySem.W.fnOf "_law_pen" "_law_pen" (defArgs d7.st) (defBody d7.st) (defScope d7.st) .none kV7 dc7 pm7 an7 cd7 ct7), sl7⟩) (c7 : PySem.W.codeIn K cd7 "_law_pen" = true) (k7 : PySem.W.keepIn K (.ref f7) = true)
    {f8 : Addr} {od8 an8 : Option Addr} {sl8 : Array (Option Value)} {oc8 kV8 dc8 pm8 cd8 ct8 : Value} (a8 : PySem.W.nsIn K mainGlobals "_law_draw" = some (some (.ref f8))) (l8 : K.lookup f8 = some ⟨oc8, od8, .func (PySem.W.fnOf "_law_draw" "_law_draw" (defArgs d8.st) (defBody d8.st) (defScope d8.st) .none kV8 dc8 pm8 an8 cd8 ct8), sl8⟩) (c8 : PySem.W.codeIn K cd8 "_law_draw" = true) (k8 : PySem.W.keepIn K (.ref f8) = true)
    {f9 : Addr} {od9 an9 : Option Addr} {sl9 : Array (Option Value)} {oc9 kV9 dc9 pm9 cd9 ct9 : Value} (a9 : PySem.W.nsIn K mainGlobals "_law_whole" = some (some (.ref f9))) (l9 : K.lookup f9 = some ⟨oc9, od9, .func (PySem.W.fnOf "_law_whole" "_law_whole" (defArgs d9.st) (defBody d9.st) (defScope d9.st) .none kV9 dc9 pm9 an9 cd9 ct9), sl9⟩) (c9 : PySem.W.codeIn K cd9 "_law_whole" = true) (k9 : PySem.W.keepIn K (.ref f9) = true)
    {f10 : Addr} {od10 an10 : Option Addr} {sl10 : Array (Option Value)} {oc10 kV10 dc10 pm10 cd10 ct10 : Value} (a10 : PySem.W.nsIn K mainGlobals "_law_within" = some (some (.ref f10))) (l10 : K.lookup f10 = some ⟨oc10, od10, .func (PySem.W.fnOf "_law_within" "_law_within" (defArgs d10.st) (defBody d10.st) (defScope d10.st) .none kV10 dc10 pm10 an10 cd10 ct10), sl10⟩) (c10 : PySem.W.codeIn K cd10 "_law_within" = true) (k10 : PySem.W.keepIn K (.ref f10) = true)
    {f11 : Addr} {od11 an11 : Option Addr} {sl11 : Array (Option Value)} {oc11 kV11 dc11 pm11 cd11 ct11 : Value} (a11 : PySem.W.nsIn K mainGlobals "_law_odd" = some (some (.ref f11))) (l11 : K.lookup f11 = some ⟨oc11, od11, .func (PySem.W.fnOf "_law_odd" "_law_odd" (defArgs d11.st) (defBody d11.st) (defScope d11.st) .none kV11 dc11 pm11 an11 cd11 ct11), sl11⟩) (c11 : PySem.W.codeIn K cd11 "_law_odd" = true) (k11 : PySem.W.keepIn K (.ref f11) = true)
    {f12 : Addr} {od12 an12 : Option Addr} {sl12 : Array (Option Value)} {oc12 kV12 dc12 pm12 cd12 ct12 : Value} (a12 : PySem.W.nsIn K mainGlobals "_law_house" = some (some (.ref f12))) (l12 : K.lookup f12 = some ⟨oc12, od12, .func (PySem.W.fnOf "_law_house" "_law_house" (defArgs d12.st) (defBody d12.st) (defScope d12.st) .none kV12 dc12 pm12 an12 cd12 ct12), sl12⟩) (c12 : PySem.W.codeIn K cd12 "_law_house" = true) (k12 : PySem.W.keepIn K (.ref f12) = true)
    {f13 : Addr} {od13 an13 : Option Addr} {sl13 : Array (Option Value)} {oc13 kV13 dc13 pm13 cd13 ct13 : Value} (a13 : PySem.W.nsIn K mainGlobals "_law_stay" = some (some (.ref f13))) (l13 : K.lookup f13 = some ⟨oc13, od13, .func (PySem.W.fnOf "_law_stay" "_law_stay" (defArgs d13.st) (defBody d13.st) (defScope d13.st) .none kV13 dc13 pm13 an13 cd13 ct13), sl13⟩) (c13 : PySem.W.codeIn K cd13 "_law_stay" = true) (k13 : PySem.W.keepIn K (.ref f13) = true)
    {f14 : Addr} {od14 an14 : Option Addr} {sl14 : Array (Option Value)} {oc14 kV14 dc14 pm14 cd14 ct14 : Value} (a14 : PySem.W.nsIn K mainGlobals "_law_stays" = some (some (.ref f14))) (l14 : K.lookup f14 = some ⟨oc14, od14, .func (PySem.W.fnOf "_law_stays" "_law_stays" (defArgs d14.st) (defBody d14.st) (defScope d14.st) .none kV14 dc14 pm14 an14 cd14 ct14), sl14⟩) (c14 : PySem.W.codeIn K cd14 "_law_stays" = true) (k14 : PySem.W.keepIn K (.ref f14) = true)
    {f15 : Addr} {od15 an15 : Option Addr} {sl15 : Array (Option Value)} {oc15 kV15 dc15 pm15 cd15 ct15 : Value} (a15 : PySem.W.nsIn K mainGlobals "_law_bent" = some (some (.ref f15))) (l15 : K.lookup f15 = some ⟨oc15, od15, .func (PySem.W.fnOf "_law_bent" "_law_bent" (defArgs d15.st) (defBody d15.st) (defScope d15.st) .none kV15 dc15 pm15 an15 cd15 ct15), sl15⟩) (c15 : PySem.W.codeIn K cd15 "_law_bent" = true) (k15 : PySem.W.keepIn K (.ref f15) = true)
    {f16 : Addr} {od16 an16 : Option Addr} {sl16 : Array (Option Value)} {oc16 kV16 dc16 pm16 cd16 ct16 : Value} (a16 : PySem.W.nsIn K mainGlobals "_law_is_house" = some (some (.ref f16))) (l16 : K.lookup f16 = some ⟨oc16, od16, .func (PySem.W.fnOf "_law_is_house" "_law_is_house" (defArgs d16.st) (defBody d16.st) (defScope d16.st) .none kV16 dc16 pm16 an16 cd16 ct16), sl16⟩) (c16 : PySem.W.codeIn K cd16 "_law_is_house" = true) (k16 : PySem.W.keepIn K (.ref f16) = true)
    {f17 : Addr} {od17 an17 : Option Addr} {sl17 : Array (Option Value)} {oc17 kV17 dc17 pm17 cd17 ct17 : Value} (a17 : PySem.W.nsIn K mainGlobals "_law_is_stay" = some (some (.ref f17))) (l17 : K.lookup f17 = some ⟨oc17, od17, .func (PySem.W.fnOf "_law_is_stay" "_law_is_stay" (defArgs d17.st) (defBody d17.st) (defScope d17.st) .none kV17 dc17 pm17 an17 cd17 ct17), sl17⟩) (c17 : PySem.W.codeIn K cd17 "_law_is_stay" = true) (k17 : PySem.W.keepIn K (.ref f17) = true)
    {f18 : Addr} {od18 an18 : Option Addr} {sl18 : Array (Option Value)} {oc18 kV18 dc18 pm18 cd18 ct18 : Value} (a18 : PySem.W.nsIn K mainGlobals "_law_are_stays" = some (some (.ref f18))) (l18 : K.lookup f18 = some ⟨oc18, od18, .func (PySem.W.fnOf "_law_are_stays" "_law_are_stays" (defArgs d18.st) (defBody d18.st) (defScope d18.st) .none kV18 dc18 pm18 an18 cd18 ct18), sl18⟩) (c18 : PySem.W.codeIn K cd18 "_law_are_stays" = true) (k18 : PySem.W.keepIn K (.ref f18) = true)
    {f19 : Addr} {od19 an19 : Option Addr} {sl19 : Array (Option Value)} {oc19 kV19 dc19 pm19 cd19 ct19 : Value} (a19 : PySem.W.nsIn K mainGlobals "_law_fixed" = some (some (.ref f19))) (l19 : K.lookup f19 = some ⟨oc19, od19, .func (PySem.W.fnOf "_law_fixed" "_law_fixed" (defArgs d19.st) (defBody d19.st) (defScope d19.st) .none kV19 dc19 pm19 an19 cd19 ct19), sl19⟩) (c19 : PySem.W.codeIn K cd19 "_law_fixed" = true) (k19 : PySem.W.keepIn K (.ref f19) = true)
    {f20 : Addr} {od20 an20 : Option Addr} {sl20 : Array (Option Value)} {oc20 kV20 dc20 pm20 cd20 ct20 : Value} (a20 : PySem.W.nsIn K mainGlobals "_law_right" = some (some (.ref f20))) (l20 : K.lookup f20 = some ⟨oc20, od20, .func (PySem.W.fnOf "_law_right" "_law_right" (defArgs d20.st) (defBody d20.st) (defScope d20.st) .none kV20 dc20 pm20 an20 cd20 ct20), sl20⟩) (c20 : PySem.W.codeIn K cd20 "_law_right" = true) (k20 : PySem.W.keepIn K (.ref f20) = true)
    {f21 : Addr} {od21 an21 : Option Addr} {sl21 : Array (Option Value)} {oc21 kV21 dc21 pm21 cd21 ct21 : Value} (a21 : PySem.W.nsIn K mainGlobals "law" = some (some (.ref f21))) (l21 : K.lookup f21 = some ⟨oc21, od21, .func (PySem.W.fnOf "law" "law" (defArgs d21.st) (defBody d21.st) (defScope d21.st) .none kV21 dc21 pm21 an21 cd21 ct21), sl21⟩) (c21 : PySem.W.codeIn K cd21 "law" = true) (k21 : PySem.W.keepIn K (.ref f21) = true)
    {t0 : Tok} (g0 : PySem.W.nsIn K mainGlobals "MOST_KIND" = some (some (.int 3 t0)))
    {t1 : Tok} (g1 : PySem.W.nsIn K mainGlobals "MOST_ROOMS" = some (some (.int 5 t1)))
    {t2 : Tok} (g2 : PySem.W.nsIn K mainGlobals "MOST_STAYS" = some (some (.int 8 t2)))
    {t3 : Tok} (g3 : PySem.W.nsIn K mainGlobals "LAST_FIRST" = some (some (.int 20 t3)))
    {t4 : Tok} (g4 : PySem.W.nsIn K mainGlobals "MOST_NIGHTS" = some (some (.int 8 t4)))
    (n0 : PySem.W.nsIn K mainGlobals "len" = some none)
    (n1 : PySem.W.nsIn K mainGlobals "repr" = some none)
    (n2 : PySem.W.nsIn K mainGlobals "all" = some none)
    (n3 : PySem.W.nsIn K mainGlobals "any" = some none)
    (n4 : PySem.W.nsIn K mainGlobals "tuple" = some none)
    (n5 : PySem.W.nsIn K mainGlobals "list" = some none)
    (n6 : PySem.W.nsIn K mainGlobals "max" = some none)
    (n7 : PySem.W.nsIn K mainGlobals "min" = some none)
    (n8 : PySem.W.nsIn K mainGlobals "sum" = some none)
    (n9 : PySem.W.nsIn K mainGlobals "int" = some none)
    (n10 : PySem.W.nsIn K mainGlobals "bool" = some none)
    (n11 : PySem.W.nsIn K mainGlobals "str" = some none)
    (n12 : PySem.W.nsIn K mainGlobals "dict" = some none)
    (n13 : PySem.W.nsIn K mainGlobals "isinstance" = some none)
    (n14 : PySem.W.nsIn K mainGlobals "range" = some none) : ModOk pr K mg := by
  obtain ⟨b1, b2, b3, b4⟩ := blt_of (PySem.W.mg_none_of X G n0) (PySem.W.mg_none_of X G n1) (PySem.W.mg_none_of X G n2) (PySem.W.mg_none_of X G n3) (PySem.W.mg_none_of X G n4) (PySem.W.mg_none_of X G n5) (PySem.W.mg_none_of X G n6) (PySem.W.mg_none_of X G n7) (PySem.W.mg_none_of X G n8) (PySem.W.mg_none_of X G n9) (PySem.W.mg_none_of X G n10) (PySem.W.mg_none_of X G n11) (PySem.W.mg_none_of X G n12) (PySem.W.mg_none_of X G n13) (PySem.W.mg_none_of X G n14)
  exact ⟨by decide +kernel, all_cons (def_at d0 X G a0 l0 c0 k0 S0 B0) (all_cons (def_at d1 X G a1 l1 c1 k1 S1 B1) (all_cons (def_at d2 X G a2 l2 c2 k2 S2 B2) (all_cons (def_at d3 X G a3 l3 c3 k3 S3 B3) (all_cons (def_at d4 X G a4 l4 c4 k4 S4 B4) (all_cons (def_at d5 X G a5 l5 c5 k5 S5 B5) (all_cons (def_at d6 X G a6 l6 c6 k6 S6 B6) (all_cons (def_at d7 X G a7 l7 c7 k7 S7 B7) (all_cons (def_at d8 X G a8 l8 c8 k8 S8 B8) (all_cons (def_at d9 X G a9 l9 c9 k9 S9 B9) (all_cons (def_at d10 X G a10 l10 c10 k10 S10 B10) (all_cons (def_at d11 X G a11 l11 c11 k11 S11 B11) (all_cons (def_at d12 X G a12 l12 c12 k12 S12 B12) (all_cons (def_at d13 X G a13 l13 c13 k13 S13 B13) (all_cons (def_at d14 X G a14 l14 c14 k14 S14 B14) (all_cons (def_at d15 X G a15 l15 c15 k15 S15 B15) (all_cons (def_at d16 X G a16 l16 c16 k16 S16 B16) (all_cons (def_at d17 X G a17 l17 c17 k17 S17 B17) (all_cons (def_at d18 X G a18 l18 c18 k18 S18 B18) (all_cons (def_at d19 X G a19 l19 c19 k19 S19 B19) (all_cons (def_at d20 X G a20 l20 c20 k20 S20 B20) (all_cons (def_at d21 X G a21 l21 c21 k21 S21 B21) (all_nil)))))))))))))))))))))), glb_cons (glb_int X G g0) (glb_cons (glb_int X G g1) (glb_cons (glb_int X G g2) (glb_cons (glb_int X G g3) (glb_cons (glb_int X G g4) (glb_nil))))), b1, b2, b3, b4⟩
end K01
open PySem PySem.W PyProof.Rows
set_option maxRecDepth 100000 in
set_option maxHeartbeats 0 in
theorem PySem.Challenge.cw_nightsheld_k01_houses_and_stays_known_holds : PySem.Challenge.rw_nightsheld_k01_houses_and_stays_known.Holds := by
  w_on; o_law; k_head; (case hw => w_witness2)
  k_fill
  refine En.walk_law (l := PySem.Challenge.rw_nightsheld_k01_houses_and_stays_known) (p := K01.pr) (dl := K01.d21) K01.depth rfl rfl ⟨rfl, by decide, by decide, rfl⟩ (fun w h Y => PySem.W.kIn_of Y) K01.law_in rfl ⟨_, rfl⟩ ?F ?B K01.law_holds
  case B =>
    intro K a fd F s u
    obtain ⟨oc, od, kV, doc, pm, an, cdv, ct, osl, rfl, lk, hcd⟩ := F.ex
    exact .of_eq rfl
  case F =>
    intro w mg h KX G
    refine' K01.mod_mk KX G ?zza0 ?zzl0 ?zzc0 ?zzk0 ?zza1 ?zzl1 ?zzc1 ?zzk1 ?zza2 ?zzl2 ?zzc2 ?zzk2 ?zza3 ?zzl3 ?zzc3 ?zzk3 ?zza4 ?zzl4 ?zzc4 ?zzk4 ?zza5 ?zzl5 ?zzc5 ?zzk5 ?zza6 ?zzl6 ?zzc6 ?zzk6 ?zza7 ?zzl7 ?zzc7 ?zzk7 ?zza8 ?zzl8 ?zzc8 ?zzk8 ?zza9 ?zzl9 ?zzc9 ?zzk9 ?zza10 ?zzl10 ?zzc10 ?zzk10 ?zza11 ?zzl11 ?zzc11 ?zzk11 ?zza12 ?zzl12 ?zzc12 ?zzk12 ?zza13 ?zzl13 ?zzc13 ?zzk13 ?zza14 ?zzl14 ?zzc14 ?zzk14 ?zza15 ?zzl15 ?zzc15 ?zzk15 ?zza16 ?zzl16 ?zzc16 ?zzk16 ?zza17 ?zzl17 ?zzc17 ?zzk17 ?zza18 ?zzl18 ?zzc18 ?zzk18 ?zza19 ?zzl19 ?zzc19 ?zzk19 ?zza20 ?zzl20 ?zzc20 ?zzk20 ?zza21 ?zzl21 ?zzc21 ?zzk21 ?zzg0 ?zzg1 ?zzg2 ?zzg3 ?zzg4 ?zzn0 ?zzn1 ?zzn2 ?zzn3 ?zzn4 ?zzn5 ?zzn6 ?zzn7 ?zzn8 ?zzn9 ?zzn10 ?zzn11 ?zzn12 ?zzn13 ?zzn14
    (case zza0 => k_is)
    (case zzl0 => k_is)
    (case zzc0 => k_is)
    (case zzk0 => k_is)
    (case zza1 => k_is)
    (case zzl1 => k_is)
    (case zzc1 => k_is)
    (case zzk1 => k_is)
    (case zza2 => k_is)
    (case zzl2 => k_is)
    (case zzc2 => k_is)
    (case zzk2 => k_is)
    (case zza3 => k_is)
    (case zzl3 => k_is)
    (case zzc3 => k_is)
    (case zzk3 => k_is)
    (case zza4 => k_is)
    (case zzl4 => k_is)
    (case zzc4 => k_is)
    (case zzk4 => k_is)
    (case zza5 => k_is)
    (case zzl5 => k_is)
    (case zzc5 => k_is)
    (case zzk5 => k_is)
    (case zza6 => k_is)
    (case zzl6 => k_is)
    (case zzc6 => k_is)
    (case zzk6 => k_is)
    (case zza7 => k_is)
    (case zzl7 => k_is)
    (case zzc7 => k_is)
    (case zzk7 => k_is)
    (case zza8 => k_is)
    (case zzl8 => k_is)
    (case zzc8 => k_is)
    (case zzk8 => k_is)
    (case zza9 => k_is)
    (case zzl9 => k_is)
    (case zzc9 => k_is)
    (case zzk9 => k_is)
    (case zza10 => k_is)
    (case zzl10 => k_is)
    (case zzc10 => k_is)
    (case zzk10 => k_is)
    (case zza11 => k_is)
    (case zzl11 => k_is)
    (case zzc11 => k_is)
    (case zzk11 => k_is)
    (case zza12 => k_is)
    (case zzl12 => k_is)
    (case zzc12 => k_is)
    (case zzk12 => k_is)
    (case zza13 => k_is)
    (case zzl13 => k_is)
    (case zzc13 => k_is)
    (case zzk13 => k_is)
    (case zza14 => k_is)
    (case zzl14 => k_is)
    (case zzc14 => k_is)
    (case zzk14 => k_is)
    (case zza15 => k_is)
    (case zzl15 => k_is)
    (case zzc15 => k_is)
    (case zzk15 => k_is)
    (case zza16 => k_is)
    (case zzl16 => k_is)
    (case zzc16 => k_is)
    (case zzk16 => k_is)
    (case zza17 => k_is)
    (case zzl17 => k_is)
    (case zzc17 => k_is)
    (case zzk17 => k_is)
    (case zza18 => k_is)
    (case zzl18 => k_is)
    (case zzc18 => k_is)
    (case zzk18 => k_is)
    (case zza19 => k_is)
    (case zzl19 => k_is)
    (case zzc19 => k_is)
    (case zzk19 => k_is)
    (case zza20 => k_is)
    (case zzl20 => k_is)
    (case zzc20 => k_is)
    (case zzk20 => k_is)
    (case zza21 => k_is)
    (case zzl21 => k_is)
    (case zzc21 => k_is)
    (case zzk21 => k_is)
    (case zzg0 => k_is)
    (case zzg1 => k_is)
    (case zzg2 => k_is)
    (case zzg3 => k_is)
    (case zzg4 => k_is)
    (case zzn0 => k_is)
    (case zzn1 => k_is)
    (case zzn2 => k_is)
    (case zzn3 => k_is)
    (case zzn4 => k_is)
    (case zzn5 => k_is)
    (case zzn6 => k_is)
    (case zzn7 => k_is)
    (case zzn8 => k_is)
    (case zzn9 => k_is)
    (case zzn10 => k_is)
    (case zzn11 => k_is)
    (case zzn12 => k_is)
    (case zzn13 => k_is)
    (case zzn14 => k_is)

