import PyProof.Rows.All
import Wide.All
import OpenK.AllK
import Wide.FinOn
import Lean
import PyProof.EqAt
import PyProof.EqKinds
import PyProof.TupleCall
import PySem.Challenge.RW_partbook_k08_refused
set_option Elab.async false
set_option linter.all false
set_option maxRecDepth 100000
namespace L2
open PySem PySem.Spec PyProof.Rows

/-- a key: an int or a str -/
abbrev Key := Sum Int Str
def keyIs : Key → Value → Bool
  | .inl k, v => Value.isInt k v
  | .inr x, v => Value.isStrOf x v
def keyH (w : World) : Key → Int
  | .inl k => hashInt k
  | .inr x => hashStr w x
theorem keyIs_shape : ∀ {k : Key} {v : Value}, keyIs k v = true → (∃ i t, k = Sum.inl i ∧ v = Value.int i t) ∨ (∃ x t, k = Sum.inr x ∧ v = Value.str x t)
  | .inl i, v, h => by
    obtain ⟨t, e⟩ := Value.isInt_shape (k := i) (v := v) h
    exact .inl ⟨i, t, rfl, e⟩
  | .inr x, v, h => by
    obtain ⟨t, e⟩ := Value.isStrOf_shape (x := x) (v := v) h
    exact .inr ⟨x, t, rfl, e⟩
theorem keyIs_int (i : Int) (t : Tok) : keyIs (.inl i) (.int i t) = true := by simp [keyIs, Value.isInt]
theorem keyIs_str (x : Str) (t : Tok) : keyIs (.inr x) (.str x t) = true := by simp [keyIs, Value.isStrOf]
theorem key_ll (a b : Int) : decide ((Sum.inl a : Key) = Sum.inl b) = (a == b) := by
  by_cases e : a = b
  · subst e; simp
  · have h : ¬ (Sum.inl a : Key) = Sum.inl b := fun q => e (Sum.inl.inj q)
    rw [decide_eq_false h]
    exact (beq_eq_false_iff_ne.mpr e).symm
theorem key_rr (a b : Str) : decide ((Sum.inr a : Key) = Sum.inr b) = decide (a = b) := by
  by_cases e : a = b
  · subst e; simp
  · have h : ¬ (Sum.inr a : Key) = Sum.inr b := fun q => e (Sum.inr.inj q)
    rw [decide_eq_false h, decide_eq_false e]
theorem key_lr (a : Int) (b : Str) : decide ((Sum.inl a : Key) = Sum.inr b) = false := decide_eq_false (fun q => nomatch q)
theorem key_rl (a : Str) (b : Int) : decide ((Sum.inr a : Key) = Sum.inl b) = false := decide_eq_false (fun q => nomatch q)

def mixKind (prog : Program) (w : World) : PySem.KeyKind prog w Key where
  is := keyIs
  hash := keyH w
  inj := fun v a b ha hb => by
    rcases keyIs_shape ha with ⟨i, t, rfl, rfl⟩ | ⟨x, t, rfl, rfl⟩
    · rcases keyIs_shape hb with ⟨j, u, rfl, e⟩ | ⟨y, u, rfl, e⟩
      · injection e with e1 _; rw [e1]
      · exact nomatch e
    · rcases keyIs_shape hb with ⟨j, u, rfl, e⟩ | ⟨y, u, rfl, e⟩
      · exact nomatch e
      · injection e with e1 _; rw [e1]
  byValue := fun k v h => by
    rcases keyIs_shape h with ⟨i, t, rfl, rfl⟩ | ⟨x, t, rfl, rfl⟩ <;> rfl
  pyHash := fun hv h => by
    rcases keyIs_shape hv with ⟨i, t, rfl, rfl⟩ | ⟨x, t, rfl, rfl⟩
    · exact wpAny_pyHash_int h
    · exact wpAny_pyHash_str h
  eqBool := fun hu hv h => by
    rcases keyIs_shape hu with ⟨i, t, rfl, rfl⟩ | ⟨x, t, rfl, rfl⟩
    · rcases keyIs_shape hv with ⟨j, u, rfl, rfl⟩ | ⟨y, u, rfl, rfl⟩
      · rw [key_ll] at h; exact wpAny_eqBool_int h
      · rw [key_lr] at h; exact SeqAt.EqAt.int_str i t y u _ _ _ _ h
    · rcases keyIs_shape hv with ⟨j, u, rfl, rfl⟩ | ⟨y, u, rfl, rfl⟩
      · rw [key_rl] at h; exact SeqAt.EqAt.str_int x t j u _ _ _ _ h
      · rw [key_rr] at h; exact wpAny_eqBool_str h
  «strs» := fun k x t v h => by
    rcases keyIs_shape h with ⟨i, u, rfl, e⟩ | ⟨y, u, rfl, e⟩
    · exact nomatch e
    · injection e with e1 _
      subst e1
      cases v <;> rfl

theorem mixKind_is (prog : Program) (w : World) (k : Key) (v : Value) : (mixKind prog w).is k v = keyIs k v := rfl
theorem mixKind_int (prog : Program) (w : World) (i : Int) (t : Tok) : (mixKind prog w).is (.inl i) (.int i t) = true := keyIs_int i t
theorem mixKind_str (prog : Program) (w : World) (x : Str) (t : Tok) : (mixKind prog w).is (.inr x) (.str x t) = true := keyIs_str x t
end L2

namespace L2
open PySem PySem.Spec PyProof.Rows

/-- a value, without the heap -/
inductive V where
  | non | bl (b : Bool) | int (i : Int) | str (x : Str) | byt (b : Array UInt8) | flt (b : UInt64) | ref (a : Addr) | ty (n : String)
  deriving DecidableEq

def RelV : V → Value → Prop
  | .non, u => u = Value.none
  | .bl b, u => u = Value.bool b
  | .int i, u => ∃ t, u = Value.int i t
  | .str x, u => ∃ t, u = Value.str x t
  | .byt b, u => ∃ t, u = Value.bytes b t
  | .flt b, u => ∃ t, u = Value.float b t
  | .ref a, u => u = Value.ref a
  | .ty n, u => u = Value.type n

abbrev Vals : List V → List Value → Prop := Paired RelV
theorem Vals.length {xs : List V} {us : List Value} (r : Vals xs us) : xs.length = us.length := Paired.length r
theorem Vals.get : ∀ {xs : List V} {us : List Value} {i : Nat} {x : V}, Vals xs us → xs[i]? = some x → ∃ u, us[i]? = some u ∧ RelV x u
  | _, _, _, _, .nil, e => by simp at e
  | _, _, 0, _, .cons r _, e => by simp at e; subst e; exact ⟨_, rfl, r⟩
  | _, _, i + 1, x, .cons _ t, e => by
    obtain ⟨u, h1, h2⟩ := Vals.get (i := i) (x := x) t (by simpa using e)
    exact ⟨u, by simpa using h1, h2⟩
theorem Vals.set {x : V} {u : Value} (r : RelV x u) : ∀ {xs : List V} {us : List Value} (i : Nat), Vals xs us → Vals (xs.set i x) (us.set i u)
  | _, _, _, .nil => .nil
  | _, _, 0, .cons _ t => .cons r t
  | _, _, i + 1, .cons q t => .cons q (Vals.set r i t)
theorem Vals.append : ∀ {xs ys : List V} {us ws : List Value}, Vals xs us → Vals ys ws → Vals (xs ++ ys) (us ++ ws)
  | _, _, _, _, .nil, s => s
  | _, _, _, _, .cons r t, s => .cons r (Vals.append t s)
theorem Vals.take : ∀ {xs : List V} {us : List Value} (n : Nat), Vals xs us → Vals (xs.take n) (us.take n)
  | _, _, 0, _ => .nil
  | _, _, _ + 1, .nil => .nil
  | _, _, n + 1, .cons r t => .cons r (Vals.take n t)
theorem Vals.drop : ∀ {xs : List V} {us : List Value} (n : Nat), Vals xs us → Vals (xs.drop n) (us.drop n)
  | _, _, 0, r => r
  | _, _, _ + 1, .nil => .nil
  | _, _, n + 1, .cons _ t => Vals.drop n t
theorem Vals.none_of : ∀ {xs : List V} {us : List Value} {i : Nat}, Vals xs us → xs[i]? = none → us[i]? = none := fun {xs us i} r e => by
  have h1 := r.length
  have h2 : xs.length ≤ i := List.getElem?_eq_none_iff.mp e
  exact List.getElem?_eq_none_iff.mpr (by omega)

def RelO : Option V → Option Value → Prop
  | some v, some u => RelV v u
  | none, none => True
  | _, _ => False
def KV {κ : Type} : List (κ × V) → List (κ × Value) → Prop := Paired fun (p : κ × V) (q : κ × Value) => p.1 = q.1 ∧ RelV p.2 q.2

/-- a key of a dict (00_mix): an int or a text -/
def kV : Key → V
  | .inl i => .int i
  | .inr x => .str x

/-- what stands at a tracked address -/
inductive HO where
  /-- a list -/
  | lst (xs : List V)
  /-- a tuple (never changes) -/
  | tup (xs : List V)
  /-- a dict whose keys are ints and texts; one whose keys are tuples of ints and texts (the empty one is both) -/
  | dK (kvs : List (Key × V)) | dT (kvs : List (List Key × V))
  /-- a set of ints: its members, its size -/
  | set (S : Int → Bool) (n : Nat)
  /-- an instance of the class at C, its dict at dx, its attributes -/
  | ins (C dx : Addr) (fs : List (Str × V))
  /-- the dict of the instance at x -/
  | own (x : Addr)
  /-- the dict of an exception -/
  | xd (fs : List (Str × V))
  /-- a bound method, f of x -/
  | met (f x : Addr)
  /-- a range object lo, lo + 1, .. below hi -/
  | rng (lo hi : Int)
  /-- a thing that is known to the object (the script; a dict while a loop walks it): read, never written while it is so -/
  | frz (o : Obj) (u : HO)
  /-- a code object's table -/
  | tbl (ps : Array Value)
  /-- any other thing, by what is true of its one object (a def of one's own: SetO a S n := HO.ext fun h => ..) -/
  | ext (φ : Heap → Prop)

abbrev Hp := Addr → Option HO
def upd (H : Hp) (a : Addr) (o : HO) : Hp := fun b => if b = a then some o else H b
theorem upd_same {H : Hp} {a : Addr} {o : HO} : upd H a o a = some o := by unfold upd; rw [if_pos rfl]
theorem upd_ne {H : Hp} {a b : Addr} {o : HO} (h : b ≠ a) : upd H a o b = H b := by unfold upd; rw [if_neg h]
theorem upd_upd {H : Hp} {a : Addr} {o u : HO} : upd (upd H a o) a u = upd H a u := by
  funext b; unfold upd; split <;> rfl
/-- two objects of different content stand apart -/
theorem ne_of {H : Hp} {a b : Addr} {o u : HO} (h : H a = some o) (h' : H b = some u) (d : o ≠ u) : a ≠ b := by
  intro e; subst e; rw [h] at h'; exact d (Option.some.inj h')
theorem ne_of_none {H : Hp} {a b : Addr} {o : HO} (h : H a = some o) (h' : H b = none) : a ≠ b := by
  intro e; subst e; rw [h] at h'; cases h'

section
variable (P : Program) (w : World)
def ObjOk (H : Hp) (h : Heap) (a : Addr) : HO → Prop
  | .lst xs => xs.length ≤ sizeLine ∧ ∃ (its : List Value) (n : Nat), Vals xs its ∧ h.get? a = some { cls := .type "list", data := .seq its.toArray n }
  | .tup xs => xs.length ≤ sizeLine ∧ ∃ its : List Value, Vals xs its ∧ IsTup h a its.toArray
  | .dK kvs => kvs.length ≤ sizeLine ∧ (a == sysModules) = false ∧ ∃ vs, KV kvs vs ∧ h.DictOf (mixKind P w) a vs
  | .dT kvs => kvs.length ≤ sizeLine ∧ (a == sysModules) = false ∧ ∃ xs : List (List Key × Addr × Value),
      Paired (fun (p : List Key × V) (q : List Key × Addr × Value) => p.1 = q.1 ∧ H q.2.1 = some (.tup (p.1.map kV)) ∧ RelV p.2 q.2.2) kvs xs ∧
      ∃ o es ep, h.get? a = some o ∧ o.ExactDict ∧ o.data = .dict es ep ∧ es.toList = xs.map (entryOfKey (tupleKind (mixKind P w))) ∧ (xs.map (·.1)).Nodup
  | .set S n => h.SetOf (intKind P w) a S n
  | .ins C dx fs => H dx = some (.own a) ∧ fs.length ≤ 1000 ∧ dx ≠ a ∧ h.get? a = some (PySem.W.instObj C dx) ∧
      ∃ mA, h.Ns1 dx mA ∧ (∀ f, RelO (fs.lookup f) (mA f)) ∧ PySem.Within mA (fs.map (·.1))
  | .own _ => ∃ o, h.get? a = some o
  | .xd fs => ∃ mA, h.Ns1 a mA ∧ ∀ f, RelO (fs.lookup f) (mA f)
  | .rng lo hi => ∃ t u v, h.get? a = some { cls := .type "range", data := .fields #[.int lo t, .int hi u, .int 1 v] }
  | .frz o u => h.get? a = some o ∧ ObjOk H h a u
  | .tbl ps => h.get? a = some { cls := .none, data := .fields ps }
  | .met f x => h.get? a = some (PySem.W.methodObj (.ref f) (.ref x))
  | .ext φ => φ h ∧ (∃ o, h.get? a = some o) ∧ ∀ h1 h2 : Heap, φ h1 → (∀ o, h1.get? a = some o → h2.get? a = some o) → φ h2
/-- the abstract heap is held -/
def HOk (H : Hp) (h : Heap) : Prop := ∀ a o, H a = some o → ObjOk P w H h a o
end

section
variable {P : Program} {w : World} {H H' : Hp} {h h' : Heap} {a : Addr} {o : HO}
theorem ObjOk.lt (x : ObjOk P w H h a o) : a < h.objs.size := by
  cases o with
  | lst xs => obtain ⟨_, _, _, _, e⟩ := x; exact Heap.lt_size e
  | tup xs => obtain ⟨_, _, _, p⟩ := x; exact p.lt
  | dK kvs => obtain ⟨_, _, _, _, o, _, _, e, _⟩ := x; exact Heap.lt_size e
  | dT kvs => obtain ⟨_, _, _, _, o, _, _, e, _⟩ := x; exact Heap.lt_size e
  | set S n => obtain ⟨o, _, _, _, e, _⟩ := x; exact Heap.lt_size e
  | ins C dx fs => obtain ⟨_, _, _, e, _⟩ := x; exact Heap.lt_size e
  | own y => obtain ⟨_, e⟩ := x; exact Heap.lt_size e
  | xd fs => obtain ⟨_, ⟨_, _, _, e, _⟩, _⟩ := x; exact Heap.lt_size e
  | rng lo hi => obtain ⟨_, _, _, e⟩ := x; exact Heap.lt_size e
  | frz ob u => obtain ⟨e, _⟩ := x; exact Heap.lt_size e
  | tbl ps => exact Heap.lt_size (show h.get? a = some _ from x)
  | met f y => exact Heap.lt_size (show h.get? a = some _ from x)
  | ext φ => obtain ⟨_, ⟨_, e⟩, _⟩ := x; exact Heap.lt_size e
theorem Paired.mapP {α β : Type} {F G : α → β → Prop} : ∀ {l₁ : List α} {l₂ : List β}, Paired F l₁ l₂ → (∀ a b, F a b → G a b) → Paired G l₁ l₂
  | _, _, .nil, _ => .nil
  | _, _, .cons r t, f => .cons (f _ _ r) (Paired.mapP t f)
theorem Paired.imp' {α β : Type} {F G : α → β → Prop} (f : ∀ a b, F a b → G a b) {l₁ : List α} {l₂ : List β} (r : Paired F l₁ l₂) : Paired G l₁ l₂ := Paired.mapP r f
/-- what an object's description leans on: its own object, its own dict, the tuples -/
theorem ObjOk.stay (x : ObjOk P w H h a o) (k : ∀ b u, (b = a ∨ H b = some (.own a)) → h.get? b = some u → h'.get? b = some u)
    (ho : ∀ b, H b = some (.own a) → H' b = some (.own a)) (ht : ∀ b xs, H b = some (.tup xs) → H' b = some (.tup xs)) : ObjOk P w H' h' a o := by
  induction o with
  | lst xs => obtain ⟨z, its, n, r, e⟩ := x; exact ⟨z, its, n, r, k _ _ (.inl rfl) e⟩
  | tup xs => obtain ⟨z, its, r, ob, e, c⟩ := x; exact ⟨z, its, r, ob, k _ _ (.inl rfl) e, c⟩
  | dK kvs => obtain ⟨z, y, vs, r, ob, es, ep, e, c⟩ := x; exact ⟨z, y, vs, r, ob, es, ep, k _ _ (.inl rfl) e, c⟩
  | dT kvs =>
    obtain ⟨z, y, xs, r, ob, es, ep, e, c⟩ := x
    exact ⟨z, y, xs, Paired.mapP r fun p q z => ⟨z.1, ht _ _ z.2.1, z.2.2⟩, ob, es, ep, k _ _ (.inl rfl) e, c⟩
  | set S n => obtain ⟨ob, es, ep, t, e, c⟩ := x; exact ⟨ob, es, ep, t, k _ _ (.inl rfl) e, c⟩
  | ins C dx fs =>
    obtain ⟨d, z, ne, e, mA, ⟨od, es, ep, e2, c⟩, r⟩ := x
    exact ⟨ho _ d, z, ne, k _ _ (.inl rfl) e, mA, ⟨od, es, ep, k _ _ (.inr d) e2, c⟩, r⟩
  | own y => obtain ⟨ob, e⟩ := x; exact ⟨ob, k _ _ (.inl rfl) e⟩
  | xd fs => obtain ⟨mA, ⟨od, es, ep, e, c⟩, r⟩ := x; exact ⟨mA, ⟨od, es, ep, k _ _ (.inl rfl) e, c⟩, r⟩
  | rng lo hi => obtain ⟨t, u, v, e⟩ := x; exact ⟨t, u, v, k _ _ (.inl rfl) e⟩
  | frz ob u ih => obtain ⟨e, q⟩ := x; exact ⟨k _ _ (.inl rfl) e, ih q⟩
  | tbl ps =>
    have e : h.get? a = some { cls := .none, data := .fields ps } := x
    show h'.get? a = some { cls := .none, data := .fields ps }
    exact k a _ (.inl rfl) e
  | met f y =>
    have e : h.get? a = some (PySem.W.methodObj (.ref f) (.ref y)) := x
    show h'.get? a = some (PySem.W.methodObj (.ref f) (.ref y))
    exact k a _ (.inl rfl) e
  | ext φ => obtain ⟨p, ⟨o, e⟩, st⟩ := x; exact ⟨st _ _ p fun o q => k _ _ (.inl rfl) q, ⟨o, k _ _ (.inl rfl) e⟩, st⟩
theorem HOk.lt (x : HOk P w H h) (e : H a = some o) : a < h.objs.size := (x a o e).lt
theorem HOk.fresh (x : HOk P w H h) (e : h.objs.size ≤ a) : H a = none := by
  cases q : H a with
  | none => rfl
  | some u => exact absurd (Nat.lt_of_lt_of_le (x.lt q) e) (Nat.lt_irrefl _)
/-- every object of the heap is kept -/
theorem HOk.kept (x : HOk P w H h) (k : ∀ b u, h.get? b = some u → h'.get? b = some u) : HOk P w H h' := fun a o e =>
  (x a o e).stay (fun b u _ q => k b u q) (fun _ q => q) fun _ _ q => q
/-- a new object is laid and tracked -/
theorem HOk.laid (x : HOk P w H h) (k : ∀ b u, h.get? b = some u → h'.get? b = some u) (hp : h.objs.size ≤ a) (new : ObjOk P w (upd H a o) h' a o) : HOk P w (upd H a o) h' := fun b u e => by
  have hn := x.fresh hp
  by_cases hb : b = a
  · subst hb; rw [upd_same] at e; cases e; exact new
  · rw [upd_ne hb] at e
    exact (x b u e).stay (fun c v _ q => k c v q) (fun c q => by rw [upd_ne (ne_of_none q hn)]; exact q) fun c xs q => by rw [upd_ne (ne_of_none q hn)]; exact q
end

/-- what may be read as u: it is u, or a known u -/
def Rd (H : Hp) (a : Addr) (u : HO) : Prop := H a = some u ∨ ∃ o, H a = some (.frz o u)
theorem Rd.of {H : Hp} {a : Addr} {u : HO} (h : H a = some u) : Rd H a u := .inl h
theorem Rd.ok {P : Program} {w : World} {H : Hp} {h : Heap} {a : Addr} {u : HO} (r : Rd H a u) (x : HOk P w H h) : ObjOk P w H h a u := by
  rcases r with r | ⟨o, r⟩
  · exact x a u r
  · obtain ⟨_, q⟩ := x a _ r
    exact q
/-- what may be written -/
def Mut : Option HO → Prop
  | some (.lst _) => True
  | some (.dK _) => True
  | some (.dT _) => True
  | some (.set _ _) => True
  | some (.ins _ _ _) => True
  | some (.ext _) => True
  | _ => False
section
variable {P : Program} {w : World} {H : Hp} {h h' : Heap} {x e : Addr} {o' : HO}
/-- the object at e is changed: x itself, or the dict of the instance x -/
theorem HOk.write (ok : HOk P w H h) (mu : Mut (H x)) (he : e = x ∨ H e = some (.own x)) (k : ∀ b u, b ≠ e → h.get? b = some u → h'.get? b = some u) (heo : ∃ u, h'.get? e = some u)
    (new : ObjOk P w (upd H x o') h' x o') : HOk P w (upd H x o') h' := fun b u q => by
  have nown : ∀ c y, H c = some (.own y) → c ≠ x := fun c y r z => by subst z; rw [r] at mu; exact mu
  have ntup : ∀ c xs, H c = some (.tup xs) → c ≠ x := fun c xs r z => by subst z; rw [r] at mu; exact mu
  by_cases hb : b = x
  · subst hb; rw [upd_same] at q; cases q; exact new
  · rw [upd_ne hb] at q
    by_cases hbe : b = e
    · have q' : H b = some (.own x) := by
        rcases he with z | z
        · exact absurd (hbe.trans z) hb
        · rw [hbe]; exact z
      rw [q] at q'; cases q'
      obtain ⟨v, hv⟩ := heo
      exact ⟨v, by rw [hbe]; exact hv⟩
    · refine (ok b u q).stay (fun c v hc r => k c v ?_ r) (fun c r => by rw [upd_ne (nown c b r)]; exact r) fun c xs r => by rw [upd_ne (ntup c xs r)]; exact r
      rcases hc with rfl | hc
      · exact hbe
      · rintro rfl
        rcases he with z | z
        · exact nown c b hc z
        · rw [hc] at z; cases z; exact hb rfl
end

/-! ### kept unless tracked; of the frames at fs (the callers') the slots may change (an exception that passes writes there); of the records at ex (iterators) nothing is said -/
structure Un (fs ex : List Addr) (H H' : Hp) (h h' : Heap) : Prop where
  keep : ∀ b o, h.get? b = some o → H b = none → b ∉ fs → b ∉ ex → h'.get? b = some o
  slot : ∀ b o, h.get? b = some o → H b = none → b ∈ fs → b ∉ ex → ∃ sl, h'.get? b = some { o with slots := sl }
  free : ∀ b o, h.get? b = some o → H b = none → b ∉ ex → H' b = none
  there : ∀ b o, h.get? b = some o → b ∉ ex → ∃ o', h'.get? b = some o'
  tups : ∀ b xs, H b = some (.tup xs) → H' b = some (.tup xs)
  frzs : ∀ b o u, H b = some (.frz o u) → H' b = some (.frz o u)
  tbls : ∀ b ps, H b = some (.tbl ps) → ∃ more, H' b = some (.tbl (ps ++ more))
section
variable {fs fs' ex ex' : List Addr} {H H1 H2 : Hp} {h h1 h2 h' : Heap} {a x e : Addr} {o : HO}
theorem Un.any (u : Un fs ex H H1 h h1) {b : Addr} {ob : Obj} (q : h.get? b = some ob) (n : H b = none) (hx : b ∉ ex) : ∃ sl, h1.get? b = some { ob with slots := sl } := by
  by_cases hb : b ∈ fs
  · exact u.slot b ob q n hb hx
  · exact ⟨ob.slots, u.keep b ob q n hb hx⟩
theorem Un.trans (a : Un fs ex H H1 h h1) (b : Un fs ex H1 H2 h1 h2) : Un fs ex H H2 h h2 where
  keep := fun c ob q n hc hx => b.keep c ob (a.keep c ob q n hc hx) (a.free c ob q n hx) hc hx
  slot := fun c ob q n hc hx => by
    obtain ⟨sl, e1⟩ := a.slot c ob q n hc hx
    obtain ⟨sl', e2⟩ := b.slot c _ e1 (a.free c ob q n hx) hc hx
    exact ⟨sl', e2⟩
  free := fun c ob q n hx => by
    obtain ⟨o', e1⟩ := a.there c ob q hx
    exact b.free c o' e1 (a.free c ob q n hx) hx
  there := fun c ob q hx => by
    obtain ⟨o', e1⟩ := a.there c ob q hx
    exact b.there c o' e1 hx
  tups := fun c xs q => b.tups c xs (a.tups c xs q)
  frzs := fun c ob xs q => b.frzs c ob xs (a.frzs c ob xs q)
  tbls := fun c ps q => by
    obtain ⟨m1, e1⟩ := a.tbls c ps q
    obtain ⟨m2, e2⟩ := b.tbls c _ e1
    exact ⟨m1 ++ m2, by rw [e2, Array.append_assoc]⟩
theorem Un.kept (k : ∀ b u, h.get? b = some u → h'.get? b = some u) : Un fs ex H H h h' :=
  ⟨fun b ob q _ _ _ => k b ob q, fun b ob q _ _ _ => ⟨ob.slots, k b ob q⟩, fun _ _ _ n _ => n, fun b ob q _ => ⟨ob, k b ob q⟩, fun _ _ q => q, fun _ _ _ q => q, fun _ ps q => ⟨#[], by rw [q]; simp⟩⟩
theorem Un.refl : Un fs ex H H h h := Un.kept fun _ _ q => q
theorem Un.laid (k : ∀ b u, h.get? b = some u → h'.get? b = some u) (hp : h.objs.size ≤ a) (hn : H a = none) : Un fs ex H (upd H a o) h h' where
  keep := fun b u q _ _ _ => k b u q
  slot := fun b u q _ _ _ => ⟨u.slots, k b u q⟩
  free := fun b u q n _ => by rw [upd_ne (Nat.ne_of_lt (Nat.lt_of_lt_of_le (Heap.lt_size q) hp))]; exact n
  there := fun b u q _ => ⟨u, k b u q⟩
  tups := fun b xs q => by rw [upd_ne (ne_of_none q hn)]; exact q
  frzs := fun b u xs q => by rw [upd_ne (ne_of_none q hn)]; exact q
  tbls := fun b ps q => ⟨#[], by rw [upd_ne (ne_of_none q hn), q]; simp⟩
theorem Un.write (mu : Mut (H x)) (he : e = x ∨ H e = some (.own x)) (k : ∀ b u, b ≠ e → h.get? b = some u → h'.get? b = some u) (heo : ∃ u, h'.get? e = some u) : Un fs ex H (upd H x o) h h' := by
  have hx : ∀ b, H b = none → b ≠ x := fun b n z => by subst z; rw [n] at mu; exact mu
  have hb : ∀ b, H b = none → b ≠ e := fun b n z => by
    subst z
    rcases he with r | r
    · exact hx b n r
    · rw [n] at r; cases r
  have hm : ∀ b u, H b = some u → ¬ Mut (some u) → b ≠ x := fun b u q nm z => by subst z; rw [q] at mu; exact nm mu
  refine ⟨fun b u q n _ _ => k b u (hb b n) q, fun b u q n _ _ => ⟨u.slots, k b u (hb b n) q⟩, fun b u q n _ => by rw [upd_ne (hx b n)]; exact n, fun b u q _ => ?_,
    fun b xs q => by rw [upd_ne (hm b _ q fun z => z)]; exact q, fun b u xs q => by rw [upd_ne (hm b _ q fun z => z)]; exact q, fun b ps q => ⟨#[], by rw [upd_ne (hm b _ q fun z => z), q]; simp⟩⟩
  by_cases hbe : b = e
  · subst hbe; exact heo
  · exact ⟨u, k b u hbe q⟩
theorem Un.mono (u : Un fs ex H H1 h h1) (hs : ∀ b ∈ fs, b ∈ fs') (hx : ∀ b ∈ ex, b ∈ ex') : Un fs' ex' H H1 h h1 :=
  ⟨fun b ob q n hb he => u.keep b ob q n (fun z => hb (hs b z)) fun z => he (hx b z), fun _ _ q n _ he => u.any q n fun z => he (hx _ z), fun b ob q n he => u.free b ob q n fun z => he (hx b z), fun b ob q he => u.there b ob q fun z => he (hx b z), u.tups, u.frzs, u.tbls⟩
end

/-! ### the heap without what is tracked -/
def trk (h : Heap) (H : Hp) : List Addr := (List.range h.objs.size).filter fun a => (H a).isSome
def hidT (h : Heap) (H : Hp) : Heap := PySem.W.hideAll h (trk h H)
theorem hidT_size (h : Heap) (H : Hp) : (hidT h H).objs.size = h.objs.size := PySem.W.hideAll_size _ _
theorem hidT_get {h : Heap} {H : Hp} {b : Addr} {o : Obj} (e : h.get? b = some o) (n : H b = none) : (hidT h H).get? b = some o :=
  PySem.W.hideAll_get _ e fun hm => by
    have q : (H b).isSome = true := (List.mem_filter.mp hm).2
    rw [n] at q; simp at q
theorem of_hidT {h : Heap} {H : Hp} {b : Addr} {o : Obj} (e : (hidT h H).get? b = some o) : h.get? b = some o ∧ H b = none := by
  have e' : h.get? b = some o := PySem.W.of_hideAll (trk h H) e
  refine ⟨e', ?_⟩
  cases q : H b with
  | none => rfl
  | some x =>
    have hm : b ∈ trk h H := List.mem_filter.mpr ⟨List.mem_range.mpr (Heap.lt_size e'), by simp [q]⟩
    have z : (hidT h H).get? b = none := PySem.W.hideAll_none (trk h H) hm
    rw [z] at e; cases e

/-! ### OpenK's ledger, filled with every new object but one -/
def allNews (g h : Heap) (L : Addr) : List (Addr × Obj) := (List.range h.objs.size).filterMap fun a => if a = L ∨ (g.get? a).isSome = true then none else (h.get? a).map fun o => (a, o)
theorem mem_allNews {g h : Heap} {L a : Addr} {o : Obj} (h1 : a ≠ L) (h2 : g.get? a = none) (h3 : h.get? a = some o) : (a, o) ∈ allNews g h L :=
  List.mem_filterMap.mpr ⟨a, List.mem_range.mpr (Heap.lt_size h3), by simp [h1, h2, h3]⟩
theorem of_mem_allNews {g h : Heap} {L : Addr} {p : Addr × Obj} (hp : p ∈ allNews g h L) : p.1 ≠ L ∧ g.get? p.1 = none ∧ h.get? p.1 = some p.2 := by
  obtain ⟨b, _, e⟩ := List.mem_filterMap.mp hp
  split at e
  · cases e
  · rename_i hn
    cases q : h.get? b with
    | none => rw [q] at e; simp at e
    | some u =>
      rw [q] at e
      simp only [Option.map_some, Option.some.injEq] at e
      subst e
      refine ⟨fun z => hn (.inl z), ?_, q⟩
      show g.get? b = none
      cases r : g.get? b with
      | none => rfl
      | some v => exact (hn (.inr (by simp [r]))).elim
def rest (g h : Heap) (L d : Addr) : List (Addr × Obj) := (allNews g h L).filter fun p => decide (p.1 ≠ d)
theorem rest_ne {g h : Heap} {L d : Addr} : ∀ p ∈ rest g h L d, p.1 ≠ d := fun p hp => of_decide_eq_true (List.mem_filter.mp hp).2
theorem mem_rest {g h : Heap} {L d a : Addr} {o : Obj} (h1 : a ≠ L) (h2 : g.get? a = none) (h3 : h.get? a = some o) (h4 : a ≠ d) : (a, o) ∈ rest g h L d :=
  List.mem_filter.mpr ⟨mem_allNews h1 h2 h3, decide_eq_true h4⟩
theorem news_all {g h : Heap} {L : Addr} : News g L h (allNews g h L) := fun p hp => let ⟨a, b, c⟩ := of_mem_allNews hp; ⟨c, a, b⟩
theorem news_at {g h : Heap} {L d : Addr} {o : Obj} (h1 : d ≠ L) (h2 : g.get? d = none) (h3 : h.get? d = some o) : News g L h ((d, o) :: rest g h L d) := fun p hp => by
  rcases List.mem_cons.mp hp with rfl | hp
  · exact ⟨h3, h1, h2⟩
  · exact news_all p (List.mem_filter.mp hp).1
/-- behind a rule that changed d alone: all else but the frame is kept -/
theorem kept_of_news {g h h' : Heap} {L d : Addr} {m : Str → Option Value} (k : ∀ b o, g.get? b = some o → h.get? b = some o) (F : Fr g L h' m) (N : News g L h' (rest g h L d)) :
    ∀ b o, b ≠ L → b ≠ d → h.get? b = some o → h'.get? b = some o := fun b o h1 h2 e => by
  cases q : g.get? b with
  | some u =>
    have := k b u q
    rw [e] at this; cases this
    exact F.keep b _ q
  | none => exact (N (b, o) (mem_rest h1 q e h2)).1
end L2

namespace L2
open PySem PySem.Spec PyProof.Rows

/-- the module's facts, over the base: the heap at the law's entry without what is tracked there -/
structure Mod (K : PySem.W.Frag) (mg : Str → Option Value) (base : Heap) : Prop where
  kin : K.In base
  glob : base.Ns mainGlobals mg
  blt : ∃ mb, base.Ns builtinsNs mb ∧ ∀ x : Str, x ≠ "__name__" → mb x = bootBuiltins x
  nolimit : base.NoLimit

/-- the context: a def's body (or a comprehension's block) running. base: fixed through the whole law; s₀, H₀: the entry; outer: the frames whose slots others may change (a def's callers); stack: all frames that run;
   ex: iterators that were made ahead of the entry and are walked here (a comprehension's); fn: the names whose cells were made at the entry (a def: all; a comprehension's block: its own); calm: not within an except suite; pn: pins that every state bears; xe: what is wanted of an exception that leaves the code -/
structure Cx where
  prog : Program
  w : World
  K : PySem.W.Frag
  mg : Str → Option Value
  base : Heap
  A : Around
  N : List Str
  s₀ : Shared
  H₀ : Hp
  env : Env
  outer : List Env
  stack : List Env
  ex : List Addr
  fn : Str → Bool
  calm : Bool
  pn : List (Addr × Obj)
  xe : Value → Shared → Prop
/-- the callers' frames -/
def frs (l : List Env) : List Addr := l.filterMap (·.frame)
abbrev Cx.fs (X : Cx) : List Addr := frs X.outer

def Vis (sc : Scope) (x : Str) : Prop := sc.names.lookup x = some .local ∨ sc.names.lookup x = some .cell ∨ sc.names.lookup x = some .free
def Loc (sc : Scope) (x : Str) : Prop := sc.names.lookup x = some .local ∨ sc.names.lookup x = some .cell
def Look (env : Env) (h : Heap) (m : Str → Option Value) (x : Str) (u : Value) : Prop :=
  (env.kindOf x = some .local ∧ m x = some u) ∨ ((env.kindOf x = some .cell ∨ env.kindOf x = some .free) ∧ ∃ c, env.cells.lookup x = some c ∧ h.IsCell c (some u))

structure Cx.Ok (X : Cx) : Prop where
  mod : Mod X.K X.mg X.base
  kind : X.env.scope.kind = .function
  glob : X.env.globals = mainGlobals
  blt : X.env.builtins = builtinsNs
  above : X.s₀.heap.objs.size ≤ X.env.locals
  inj : ∀ x y c, X.env.cells.lookup x = some c → X.env.cells.lookup y = some c → x = y
  has : ∀ x, (X.env.kindOf x = some .cell ∨ X.env.kindOf x = some .free) → ∃ c, X.env.cells.lookup x = some c
  cab : ∀ x c, X.fn x = true → X.env.cells.lookup x = some c → X.s₀.heap.objs.size ≤ c
  hd : X.calm = true → X.A.handled = none
  frames : X.A.frames = some X.stack
  stk : X.stack = X.outer ∨ (X.stack = X.env :: X.outer ∧ X.env.frame = some X.env.locals)
  exf : ∀ b ∈ X.ex, b ≠ X.env.locals ∧ ∀ x c, X.env.cells.lookup x = some c → c ≠ b
  bs : ∀ b o, X.base.get? b = some o → X.s₀.heap.get? b = some o ∧ X.H₀ b = none
  bsz : X.base.objs.size ≤ X.s₀.heap.objs.size
  noex : ∀ b o, X.base.get? b = some o → b ∉ X.ex
  exfs : ∀ b ∈ X.ex, b ∉ X.fs
  funs : X.s₀.heap.FunFrames X.base X.outer
  frf : ∀ b ∈ X.fs, X.H₀ b = none

structure Inv (X : Cx) (pins : List (Addr × Obj)) (σ : List (Option V)) (H : Hp) (s : Shared) : Prop where
  ok : X.Ok
  os : s.os = X.s₀.os
  bare : AllBare s.gens
  base : Un X.fs X.ex X.H₀ H X.s₀.heap s.heap
  loc : ∃ m, s.heap.Ns X.env.locals m ∧ ∀ (i : Nat) (x : Str) (v : V), X.N[i]? = some x → σ[i]? = some (some v) → Vis X.env.scope x → ∃ u, RelV v u ∧ Look X.env s.heap m x u
  cell : ∀ x c, X.env.cells.lookup x = some c → ∃ v, s.heap.IsCell c v
  free : H X.env.locals = none
  freeC : ∀ x c, X.env.cells.lookup x = some c → H c = none
  pin : ∀ p ∈ X.pn ++ pins, s.heap.get? p.1 = some p.2 ∧ H p.1 = none ∧ p.1 ≠ X.env.locals ∧ p.1 ∉ X.fs ∧ ∀ v, p.2.data ≠ .cell v
  hok : HOk X.prog X.w H s.heap
  len : σ.length = X.N.length

section
variable {X : Cx} {pins : List (Addr × Obj)} {σ : List (Option V)} {H H' : Hp} {s : Shared} {h' : Heap}

theorem Cx.Ok.nofr (ok : X.Ok) {b : Addr} {o : Obj} (e : X.base.get? b = some o) : b ∉ X.fs := fun hb => by
  have := (ok.funs.mem hb).1
  rw [e] at this; cases this
theorem Inv.bs (I : Inv X pins σ H s) : ∀ b o, X.base.get? b = some o → s.heap.get? b = some o ∧ H b = none := fun b o e =>
  ⟨I.base.keep b o (I.ok.bs b o e).1 (I.ok.bs b o e).2 (I.ok.nofr e) (I.ok.noex b o e), I.base.free b o (I.ok.bs b o e).1 (I.ok.bs b o e).2 (I.ok.noex b o e)⟩
theorem Inv.bk (I : Inv X pins σ H s) : ∀ b o, X.base.get? b = some o → s.heap.get? b = some o := fun b o e => (I.bs b o e).1
theorem Inv.mod (I : Inv X pins σ H s) : Mod X.K X.mg X.base := I.ok.mod
theorem Inv.kIn (I : Inv X pins σ H s) : X.K.In s.heap := I.ok.mod.kin.keeps I.bk
theorem Inv.nolimit (I : Inv X pins σ H s) : s.heap.NoLimit := I.ok.mod.nolimit.keeps I.bk
/-- the frame over the base: for OpenK's rules (K.In X.base is I.mod.kin) -/
theorem Inv.fr (I : Inv X pins σ H s) : ∃ m, Fr X.base X.env.locals s.heap m :=
  let ⟨m, hn, _⟩ := I.loc
  ⟨m, hn, I.bk, Nat.le_trans I.ok.bsz I.ok.above⟩
theorem Inv.lt (I : Inv X pins σ H s) : X.env.locals < s.heap.objs.size := let ⟨_, hn, _⟩ := I.loc; hn.lt
theorem Inv.sz (I : Inv X pins σ H s) : X.s₀.heap.objs.size ≤ s.heap.objs.size := Nat.le_trans I.ok.above (Nat.le_of_lt I.lt)
theorem Inv.nofs (I : Inv X pins σ H s) {a : Addr} (h : s.heap.objs.size ≤ a) : a ∉ X.fs := fun hb => by
  obtain ⟨_, o, ho, _⟩ := I.ok.funs.mem hb
  exact absurd (Nat.lt_of_lt_of_le (Heap.lt_size ho) (Nat.le_trans I.sz h)) (Nat.lt_irrefl _)
theorem Inv.cne (I : Inv X pins σ H s) : ∀ x c, X.env.cells.lookup x = some c → c ≠ X.env.locals := fun x c e z => by
  obtain ⟨v, o, ho, hd⟩ := I.cell x c e
  obtain ⟨m, ⟨o', es, ep, ho', hd', _⟩, _⟩ := I.loc
  rw [z, ho'] at ho; cases ho; rw [hd'] at hd; cases hd
theorem Inv.funs (I : Inv X pins σ H s) : s.heap.FunFrames X.base X.outer := by
  have all : ∀ (l : List Env), (∀ b ∈ frs l, b ∈ X.fs) → X.s₀.heap.FunFrames X.base l → s.heap.FunFrames X.base l := by
    intro l
    induction l with
    | nil => intro _ _; trivial
    | cons env r ih =>
      intro hs hl
      obtain ⟨hk, ⟨L, o, hf, hn, ho, hd⟩, hr⟩ := hl
      have hL : L ∈ X.fs := hs L (by unfold frs; rw [List.filterMap_cons, hf]; exact List.mem_cons_self)
      obtain ⟨sl, e⟩ := I.base.slot L o ho (I.ok.frf L hL) hL fun z => I.ok.exfs L z hL
      exact ⟨hk, ⟨L, _, hf, hn, e, hd⟩, ih (fun b hb => hs b (by unfold frs; rw [List.filterMap_cons, hf]; exact List.mem_cons_of_mem _ hb)) hr⟩
  exact all X.outer (fun _ hb => hb) I.ok.funs

/-- the frames that run, for a call -/
theorem Inv.stack (I : Inv X pins σ H s) : s.heap.FunFrames X.base X.stack := by
  rcases I.ok.stk with e | ⟨e, hf⟩
  · rw [e]; exact I.funs
  · rw [e]
    obtain ⟨m, hn, _⟩ := I.loc
    refine .cons (by rw [I.ok.kind]; decide) hf hn ?_ I.funs
    exact Heap.get?_none_of_le (Nat.le_trans I.ok.bsz I.ok.above)
theorem Inv.stkSub (I : Inv X pins σ H s) : ∀ b ∈ frs X.stack, b ∈ X.env.locals :: X.fs := fun b hb => by
  rcases I.ok.stk with e | ⟨e, hf⟩
  · rw [e] at hb; exact List.mem_cons_of_mem _ hb
  · rw [e] at hb
    unfold frs at hb
    rw [List.filterMap_cons, hf] at hb
    exact hb
theorem Inv.stkFree (I : Inv X pins σ H s) : ∀ b ∈ frs X.stack, H b = none := fun b hb => by
  rcases List.mem_cons.mp (I.stkSub b hb) with e | hb
  · rw [e]; exact I.free
  · obtain ⟨_, o, ho, _⟩ := I.ok.funs.mem hb
    exact I.base.free b o ho (I.ok.frf b hb) fun z => I.ok.exfs b z hb

/-- THE STEP: the untracked objects but the frame and the records at ch are kept (the callers' frames up to slots), the frame's map is kept, the new abstract heap is held -/
theorem Inv.step {g' : Array GenState} {t' : Nat} {d' : Drawn} {ch : List Addr} (I : Inv X pins σ H s)
    (hch : ∀ b ∈ ch, (b ∈ X.ex ∨ X.s₀.heap.objs.size ≤ b) ∧ b ≠ X.env.locals ∧ (∀ x c, X.env.cells.lookup x = some c → c ≠ b) ∧ ∀ p ∈ X.pn ++ pins, p.1 ≠ b)
    (keep : ∀ b o, b ≠ X.env.locals → b ∉ X.fs → b ∉ ch → s.heap.get? b = some o → H b = none → h'.get? b = some o)
    (slot : ∀ b o, b ≠ X.env.locals → b ∈ X.fs → b ∉ ch → s.heap.get? b = some o → H b = none → ∃ sl, h'.get? b = some { o with slots := sl }) (free : ∀ b o, b ∉ ch → s.heap.get? b = some o → H b = none → H' b = none)
    (there : ∀ b o, b ∉ ch → s.heap.get? b = some o → ∃ o', h'.get? b = some o')
    (tups : ∀ b xs, H b = some (.tup xs) → H' b = some (.tup xs)) (frzs : ∀ b o u, H b = some (.frz o u) → H' b = some (.frz o u)) (tbls : ∀ b ps, H b = some (.tbl ps) → ∃ more, H' b = some (.tbl (ps ++ more)))
    (ns : ∀ m, s.heap.Ns X.env.locals m → h'.Ns X.env.locals m) (hok : HOk X.prog X.w H' h') (hg : AllBare g') :
    Inv X pins σ H' { s with heap := h', gens := g', drawn := d', toks := t' } := by
  have neL : ∀ b o, X.s₀.heap.get? b = some o → b ≠ X.env.locals := fun b o e => Nat.ne_of_lt (Nat.lt_of_lt_of_le (Heap.lt_size e) I.ok.above)
  have neC : ∀ b o, X.s₀.heap.get? b = some o → b ∉ X.ex → b ∉ ch := fun b o e hx hb => by
    rcases (hch b hb).1 with z | z
    · exact hx z
    · exact absurd (Nat.lt_of_lt_of_le (Heap.lt_size e) z) (Nat.lt_irrefl _)
  have cellK : ∀ x c, X.env.cells.lookup x = some c → ∀ v, s.heap.IsCell c v → h'.IsCell c v := fun x c e v ⟨o, ho, hd⟩ => by
    have nch : c ∉ ch := fun z => (hch c z).2.2.1 x c e rfl
    by_cases hc : c ∈ X.fs
    · obtain ⟨sl, q⟩ := slot c o (I.cne x c e) hc nch ho (I.freeC x c e)
      exact ⟨_, q, hd⟩
    · exact ⟨o, keep c o (I.cne x c e) hc nch ho (I.freeC x c e), hd⟩
  refine ⟨I.ok, I.os, hg, ⟨fun b o e n hb hx => ?_, fun b o e n hb hx => ?_, fun b o e n hx => ?_, fun b o e hx => ?_, fun b xs e => tups b xs (I.base.tups b xs e), fun b o xs e => frzs b o xs (I.base.frzs b o xs e), fun b ps e => ?_⟩, ?_, fun x c e => ?_, ?_, fun x c e => ?_, fun p hp => ?_, hok, I.len⟩
  · exact keep b o (neL b o e) hb (neC b o e hx) (I.base.keep b o e n hb hx) (I.base.free b o e n hx)
  · obtain ⟨sl, e1⟩ := I.base.slot b o e n hb hx
    obtain ⟨sl', e2⟩ := slot b _ (neL b o e) hb (neC b o e hx) e1 (I.base.free b o e n hx)
    exact ⟨sl', e2⟩
  · obtain ⟨o', e1⟩ := I.base.there b o e hx
    exact free b o' (neC b o e hx) e1 (I.base.free b o e n hx)
  · obtain ⟨o', e1⟩ := I.base.there b o e hx
    exact there b o' (neC b o e hx) e1
  · obtain ⟨m1, e1⟩ := I.base.tbls b ps e
    obtain ⟨m2, e2⟩ := tbls b _ e1
    exact ⟨m1 ++ m2, by rw [e2, Array.append_assoc]⟩
  · obtain ⟨m, hn, hl⟩ := I.loc
    refine ⟨m, ns m hn, fun i x v e1 e2 e3 => ?_⟩
    obtain ⟨u, r, l⟩ := hl i x v e1 e2 e3
    refine ⟨u, r, ?_⟩
    rcases l with l | ⟨k, c, e, z⟩
    · exact .inl l
    · exact .inr ⟨k, c, e, cellK x c e _ z⟩
  · obtain ⟨v, z⟩ := I.cell x c e
    exact ⟨v, cellK x c e v z⟩
  · obtain ⟨m, ⟨o, _, _, ho, _⟩, _⟩ := I.loc
    exact free _ o (fun z => (hch _ z).2.1 rfl) ho I.free
  · obtain ⟨v, o, ho, hd⟩ := I.cell x c e
    exact free c o (fun z => (hch c z).2.2.1 x c e rfl) ho (I.freeC x c e)
  · obtain ⟨e, n, ne, nf, d⟩ := I.pin p hp
    have nch : p.1 ∉ ch := fun z => (hch p.1 z).2.2.2 p hp rfl
    exact ⟨keep p.1 p.2 ne nf nch e n, free p.1 p.2 nch e n, ne, nf, d⟩
/-- .. where the frame's own object is kept too -/
theorem Inv.un {t' : Nat} (I : Inv X pins σ H s) (u : Un X.fs [] H H' s.heap h') (hok : HOk X.prog X.w H' h') : Inv X pins σ H' { s with heap := h', toks := t' } := by
  obtain ⟨m, ⟨o, es, ep, ho, r⟩, _⟩ := id I.loc
  obtain ⟨sl, hL⟩ := u.any ho I.free (by simp)
  exact I.step (g' := s.gens) (d' := s.drawn) (ch := []) (fun _ z => nomatch z) (fun b o _ hb _ e n => u.keep b o e n hb (by simp)) (fun b o _ hb _ e n => u.slot b o e n hb (by simp)) (fun b o _ e n => u.free b o e n (by simp)) (fun b o _ e => u.there b o e (by simp)) u.tups u.frzs u.tbls (fun m' hm => by
    obtain ⟨o', es', ep', ho', r'⟩ := hm
    rw [ho] at ho'; cases ho'
    exact ⟨_, es', ep', hL, r'⟩) hok I.bare
/-- behind a call (or a comprehension's block): the slots of this frame may have changed too, the records at ch may have turned -/
theorem Inv.call {g' : Array GenState} {t' : Nat} {d' : Drawn} {ch : List Addr} (I : Inv X pins σ H s) (u : Un (frs X.stack) ch H H' s.heap h') (hok : HOk X.prog X.w H' h') (hg : AllBare g')
    (hch : ∀ b ∈ ch, (b ∈ X.ex ∨ X.s₀.heap.objs.size ≤ b) ∧ b ≠ X.env.locals ∧ (∀ x c, X.env.cells.lookup x = some c → c ≠ b) ∧ ∀ p ∈ X.pn ++ pins, p.1 ≠ b) :
    Inv X pins σ H' { s with heap := h', gens := g', drawn := d', toks := t' } := by
  obtain ⟨m, ⟨o, es, ep, ho, r⟩, _⟩ := id I.loc
  obtain ⟨sl, hL⟩ := u.any ho I.free fun z => (hch _ z).2.1 rfl
  exact I.step (ch := ch) hch (fun b o hL hb hc e n => u.keep b o e n (fun z => (List.mem_cons.mp (I.stkSub b z)).elim hL hb) hc) (fun b o _ _ hc e n => u.any e n hc) (fun b o hc e n => u.free b o e n hc) (fun b o hc e => u.there b o e hc) u.tups u.frzs u.tbls (fun m' hm => by
    obtain ⟨o', es', ep', ho', r'⟩ := hm
    rw [ho] at ho'; cases ho'
    exact ⟨_, es', ep', hL, r'⟩) hok hg
/-- an untracked record of ours (an iterator) has turned -/
theorem Inv.turned {t' : Nat} {it : Addr} (I : Inv X pins σ H s) (k : ∀ b o, b ≠ it → s.heap.get? b = some o → h'.get? b = some o) (hn : H it = none) (hL : it ≠ X.env.locals)
    (h1 : it ∈ X.ex ∨ X.s₀.heap.objs.size ≤ it) (h2 : ∀ x c, X.env.cells.lookup x = some c → c ≠ it) (h3 : ∀ p ∈ X.pn ++ pins, p.1 ≠ it) : Inv X pins σ H { s with heap := h', toks := t' } := by
  have nit : ∀ b u, H b = some u → b ≠ it := fun b u e z => by rw [z, hn] at e; cases e
  refine I.step (g' := s.gens) (d' := s.drawn) (ch := [it]) (fun b hb => ?_) (fun b o _ _ hc e _ => k b o (fun z => hc (by simp [z])) e) (fun b o _ _ hc e _ => ⟨o.slots, k b o (fun z => hc (by simp [z])) e⟩) (fun _ _ _ _ n => n)
    (fun b o hc e => ⟨o, k b o (fun z => hc (by simp [z])) e⟩) (fun _ _ e => e) (fun _ _ _ e => e) (fun b ps e => ⟨#[], by rw [e]; simp⟩) (fun m hm => ?_) (fun b u e => ?_) I.bare
  · have e : b = it := by simpa using hb
    subst e
    exact ⟨h1, hL, h2, h3⟩
  · obtain ⟨o, es, ep, ho, r⟩ := hm
    exact ⟨o, es, ep, k _ o (Ne.symm hL) ho, r⟩
  · refine (I.hok b u e).stay (fun c v hc q => k c v ?_ q) (fun _ q => q) fun _ _ q => q
    rcases hc with z | z
    · rw [z]; exact nit b u e
    · exact nit c _ z
theorem Inv.tok (I : Inv X pins σ H s) (t : Nat) : Inv X pins σ H { s with toks := t } := I.un (h' := s.heap) (t' := t) Un.refl I.hok
/-- all objects kept -/
theorem Inv.kept {t' : Nat} (I : Inv X pins σ H s) (k : ∀ b u, s.heap.get? b = some u → h'.get? b = some u) : Inv X pins σ H { s with heap := h', toks := t' } := I.un (Un.kept k) (I.hok.kept k)
/-- a new object laid and tracked -/
theorem Inv.laid {a : Addr} {o : HO} {t' : Nat} (I : Inv X pins σ H s) (k : ∀ b u, s.heap.get? b = some u → h'.get? b = some u) (hp : s.heap.objs.size ≤ a) (new : ObjOk X.prog X.w (upd H a o) h' a o) :
    Inv X pins σ (upd H a o) { s with heap := h', toks := t' } := I.un (Un.laid k hp (I.hok.fresh hp)) (I.hok.laid k hp new)
/-- an object written -/
theorem Inv.write {x e : Addr} {o : HO} {t' : Nat} (I : Inv X pins σ H s) (mu : Mut (H x)) (he : e = x ∨ H e = some (.own x)) (k : ∀ b u, b ≠ e → s.heap.get? b = some u → h'.get? b = some u) (heo : ∃ u, h'.get? e = some u)
    (new : ObjOk X.prog X.w (upd H x o) h' x o) : Inv X pins σ (upd H x o) { s with heap := h', toks := t' } := I.un (Un.write mu he k heo) (I.hok.write mu he k heo new)
/-- forgetting slots, pins -/
theorem Inv.weak {σ' : List (Option V)} (I : Inv X pins σ H s) (hl : σ'.length = σ.length) (w : ∀ (i : Nat) v, σ'[i]? = some (some v) → σ[i]? = some (some v)) : Inv X pins σ' H s :=
  ⟨I.ok, I.os, I.bare, I.base, let ⟨m, hn, hl'⟩ := I.loc; ⟨m, hn, fun i x v e1 e2 e3 => hl' i x v e1 (w i v e2) e3⟩, I.cell, I.free, I.freeC, I.pin, I.hok, hl.trans I.len⟩
theorem Inv.pins_of {pins' : List (Addr × Obj)} (I : Inv X pins σ H s) (h : ∀ p ∈ pins', s.heap.get? p.1 = some p.2 ∧ H p.1 = none ∧ p.1 ≠ X.env.locals ∧ p.1 ∉ X.fs ∧ ∀ v, p.2.data ≠ .cell v) : Inv X pins' σ H s :=
  ⟨I.ok, I.os, I.bare, I.base, I.loc, I.cell, I.free, I.freeC, fun p hp => (List.mem_append.mp hp).elim (fun z => I.pin p (List.mem_append_left _ z)) (h p), I.hok, I.len⟩

theorem nodup_ix {N : List Str} (hN : N.Nodup) {i j : Nat} {x : Str} (a : N[i]? = some x) (b : N[j]? = some x) : i = j := by
  obtain ⟨h1, e1⟩ := List.getElem?_eq_some_iff.mp a
  obtain ⟨h2, e2⟩ := List.getElem?_eq_some_iff.mp b
  exact (List.getElem_inj hN).mp (e1.trans e2.symm)

/-- a name is stored; what changed -/
theorem store_ok2 {M : Model} {A : Around} {E : Value → Shared → Prop} {i : Nat} {x : Str} {v : V} {u : Value} {Q : Unit → Shared → Prop} (I : Inv X pins σ H s) (hN : X.N.Nodup) (hi : X.N[i]? = some x) (hx : Loc X.env.scope x) (r : RelV v u)
    (h : ∀ s', Inv X pins (σ.set i (some v)) H s' → (∃ a, Heap.SameBut a s.heap s'.heap ∧ (a = X.env.locals ∨ X.env.cells.lookup x = some a)) → Q () s') (hf : X.fn x = true ∨ X.env.scope.names.lookup x = some .local := by first | exact .inl rfl | exact .inr rfl | assumption) : wpAny M A (storeName X.env x u) Q E s := by
  obtain ⟨m, hn, hl⟩ := id I.loc
  have hcls : (X.env.scope.kind == .class || (X.env.scope.kind == .module && X.env.locals != X.env.globals)) = false := by rw [I.ok.kind]; rfl
  have hiσ : i < σ.length := by rw [I.len]; exact (List.getElem?_eq_some_iff.mp hi).1
  have cne := I.cne
  have tracked : ∀ {a : Addr} {h' : Heap}, (∃ o, s.heap.get? a = some o ∧ H a = none) → Heap.SameBut a s.heap h' → HOk X.prog X.w H h' := fun {a h'} ha hs b ob e => by
    obtain ⟨_, _, hfree⟩ := ha
    refine (I.hok b ob e).stay (fun c w' hc q => (hs.2 c ?_).trans q) (fun _ q => q) fun _ _ q => q
    rintro rfl
    rcases hc with rfl | hc
    · rw [hfree] at e; cases e
    · rw [hfree] at hc; cases hc
  rcases hx with hk | hk
  · refine wpAny_storeName_local hk hn (fun h' hn' hs => ?_) hcls
    obtain ⟨oL, _, _, hoL, _⟩ := id hn
    refine h _ ⟨I.ok, I.os, I.bare, ⟨fun b o e n hb hx => ?_, fun b o e n hb hx => ?_, I.base.free, fun b o e hx => ?_, I.base.tups, I.base.frzs, I.base.tbls⟩, ⟨_, hn', fun j y v' e1 e2 e3 => ?_⟩, fun y c e => ?_, I.free, I.freeC, fun p hp => ?_, tracked ⟨oL, hoL, I.free⟩ hs, by simpa using I.len⟩ ⟨_, hs, .inl rfl⟩
    · exact (hs.2 b (Nat.ne_of_lt (Nat.lt_of_lt_of_le (Heap.lt_size e) I.ok.above))).trans (I.base.keep b o e n hb hx)
    · obtain ⟨sl, e1⟩ := I.base.slot b o e n hb hx
      exact ⟨sl, (hs.2 b (Nat.ne_of_lt (Nat.lt_of_lt_of_le (Heap.lt_size e) I.ok.above))).trans e1⟩
    · obtain ⟨o', e1⟩ := I.base.there b o e hx
      exact ⟨o', (hs.2 b (Nat.ne_of_lt (Nat.lt_of_lt_of_le (Heap.lt_size e) I.ok.above))).trans e1⟩
    · by_cases hj : j = i
      · subst hj
        rw [hi] at e1; cases e1
        rw [List.getElem?_set_self hiσ] at e2
        cases e2
        exact ⟨u, r, .inl ⟨hk, by simp⟩⟩
      · rw [List.getElem?_set_ne (Ne.symm hj)] at e2
        obtain ⟨u', r', q⟩ := hl j y v' e1 e2 e3
        refine ⟨u', r', ?_⟩
        rcases q with ⟨k, e⟩ | ⟨k, c, e, z⟩
        · refine .inl ⟨k, ?_⟩
          have : y ≠ x := fun e => hj (nodup_ix hN e1 (e ▸ hi))
          simp [this, e]
        · exact .inr ⟨k, c, e, z.sameBut hs (cne y c e)⟩
    · obtain ⟨w', z⟩ := I.cell y c e
      exact ⟨w', z.sameBut hs (cne y c e)⟩
    · obtain ⟨e, n, ne, nf, d⟩ := I.pin p hp
      exact ⟨(hs.2 p.1 ne).trans e, n, ne, nf, d⟩
  · have hfn : X.fn x = true := by
      rcases hf with z | z
      · exact z
      · rw [z] at hk; cases hk
    obtain ⟨c, hc⟩ := I.ok.has x (.inl hk)
    obtain ⟨w', z⟩ := I.cell x c hc
    refine wpAny_storeName_cell I.ok.kind hk hc z (fun h' hc' hs => ?_)
    obtain ⟨oc, hoc, hocd⟩ := id z
    refine h { s with heap := h' } ⟨I.ok, I.os, I.bare, ⟨fun b o e n hb hx => ?_, fun b o e n hb hx => ?_, I.base.free, fun b o e hx => ?_, I.base.tups, I.base.frzs, I.base.tbls⟩, ⟨m, hn.sameBut hs (Ne.symm (cne x c hc)), fun j y v' e1 e2 e3 => ?_⟩, fun y c' e => ?_, I.free, I.freeC, fun p hp => ?_, tracked ⟨oc, hoc, I.freeC x c hc⟩ hs, by simpa using I.len⟩ ⟨c, hs, .inr hc⟩
    · exact (hs.2 b (Nat.ne_of_lt (Nat.lt_of_lt_of_le (Heap.lt_size e) (I.ok.cab x c hfn hc)))).trans (I.base.keep b o e n hb hx)
    · obtain ⟨sl, e1⟩ := I.base.slot b o e n hb hx
      exact ⟨sl, (hs.2 b (Nat.ne_of_lt (Nat.lt_of_lt_of_le (Heap.lt_size e) (I.ok.cab x c hfn hc)))).trans e1⟩
    · obtain ⟨o', e1⟩ := I.base.there b o e hx
      exact ⟨o', (hs.2 b (Nat.ne_of_lt (Nat.lt_of_lt_of_le (Heap.lt_size e) (I.ok.cab x c hfn hc)))).trans e1⟩
    · by_cases hj : j = i
      · subst hj
        rw [hi] at e1; cases e1
        rw [List.getElem?_set_self hiσ] at e2
        cases e2
        exact ⟨u, r, .inr ⟨.inl hk, c, hc, hc'⟩⟩
      · rw [List.getElem?_set_ne (Ne.symm hj)] at e2
        obtain ⟨u', r', q⟩ := hl j y v' e1 e2 e3
        refine ⟨u', r', ?_⟩
        rcases q with q | ⟨k, c', e, z'⟩
        · exact .inl q
        · refine .inr ⟨k, c', e, z'.sameBut hs ?_⟩
          rintro rfl
          exact hj (nodup_ix hN e1 (I.ok.inj _ _ _ e hc ▸ hi))
    · by_cases hcc : c' = c
      · subst hcc; exact ⟨_, hc'⟩
      · obtain ⟨w2, z2⟩ := I.cell y c' e
        exact ⟨w2, z2.sameBut hs hcc⟩
    · obtain ⟨e, n, ne, nf, d⟩ := I.pin p hp
      refine ⟨(hs.2 p.1 ?_).trans e, n, ne, nf, d⟩
      intro q
      rw [q, hoc] at e
      have q' : oc = p.2 := Option.some.inj e
      exact d w' (by rw [← q']; exact hocd)
theorem store_ok {M : Model} {A : Around} {E : Value → Shared → Prop} {i : Nat} {x : Str} {v : V} {u : Value} {Q : Unit → Shared → Prop} (I : Inv X pins σ H s) (hN : X.N.Nodup) (hi : X.N[i]? = some x) (hx : Loc X.env.scope x) (r : RelV v u)
    (h : ∀ s', Inv X pins (σ.set i (some v)) H s' → Q () s') (hf : X.fn x = true ∨ X.env.scope.names.lookup x = some .local := by first | exact .inl rfl | exact .inr rfl | assumption) : wpAny M A (storeName X.env x u) Q E s :=
  store_ok2 I hN hi hx r (fun s' I' _ => h s' I') hf
/-- behind a call or a block, the state as it is -/
theorem Inv.call' {s' : Shared} {ch : List Addr} (I : Inv X pins σ H s) (ho : s'.os = s.os) (u : Un (frs X.stack) ch H H' s.heap s'.heap) (hok : HOk X.prog X.w H' s'.heap) (hg : AllBare s'.gens)
    (hch : ∀ b ∈ ch, (b ∈ X.ex ∨ X.s₀.heap.objs.size ≤ b) ∧ b ≠ X.env.locals ∧ (∀ x c, X.env.cells.lookup x = some c → c ≠ b) ∧ ∀ p ∈ X.pn ++ pins, p.1 ≠ b) : Inv X pins σ H' s' := by
  obtain ⟨h', g', d', t', o'⟩ := s'
  have e : o' = s.os := ho
  subst e
  exact I.call (g' := g') (t' := t') (d' := d') u hok hg hch
end

/-! ### the judgements -/
/-- an exception: its class, its own dict's address (where it has one), the abstract heap behind it -/
abbrev XK := Value → Option Addr → Hp → Prop
abbrev St := List (Option V)
abbrev VK := V → Hp → Prop
/-- an expression's reading; a test's; an argument list's -/
abbrev TE := St → Hp → VK → Prop
abbrev TT := St → Hp → (Bool → Hp → Prop) → Prop
abbrev TA := St → Hp → (List V → Hp → Prop) → Prop
/-- what is wanted behind a statement -/
structure Ends where
  nx : St → Hp → Prop
  rt : VK
  bk : St → Hp → Prop := fun _ _ => False
  ct : St → Hp → Prop := fun _ _ => False
abbrev TS := Ends → St → Hp → Prop

def EP (X : Cx) (pins : List (Addr × Obj)) (σ : St) (Q : VK) (u : Value) (s' : Shared) : Prop := ∃ v H', Inv X pins σ H' s' ∧ RelV v u ∧ Q v H'
def TP (X : Cx) (pins : List (Addr × Obj)) (σ : St) (Q : Bool → Hp → Prop) (b : Bool) (s' : Shared) : Prop := ∃ H', Inv X pins σ H' s' ∧ Q b H'
def AP (X : Cx) (pins : List (Addr × Obj)) (σ : St) (Q : List V → Hp → Prop) (us : List Value) (s' : Shared) : Prop := ∃ vs H', Inv X pins σ H' s' ∧ Vals vs us ∧ Q vs H'
def SP (X : Cx) (pins : List (Addr × Obj)) (D : Ends) (f : Flow) (s' : Shared) : Prop :=
  match f with
  | .next => ∃ σ' H', Inv X pins σ' H' s' ∧ D.nx σ' H'
  | .brk => ∃ σ' H', Inv X pins σ' H' s' ∧ D.bk σ' H'
  | .cont => ∃ σ' H', Inv X pins σ' H' s' ∧ D.ct σ' H'
  | .ret u => ∃ v σ' H', Inv X pins σ' H' s' ∧ RelV v u ∧ D.rt v H'

def PE (X : Cx) (e : Expr) (t : TE) : Prop :=
  ∀ (pins : List (Addr × Obj)) (s : Shared) (σ : St) (H : Hp) (Q : VK), Inv X pins σ H s → t σ H Q → wpAny (model X.prog X.w) X.A (eval e X.env) (EP X pins σ Q) X.xe s
def PT (X : Cx) (e : Expr) (t : TT) : Prop :=
  ∀ (pins : List (Addr × Obj)) (s : Shared) (σ : St) (H : Hp) (Q : Bool → Hp → Prop), Inv X pins σ H s → t σ H Q → wpAny (model X.prog X.w) X.A (isTrue e X.env (eval e X.env)) (TP X pins σ Q) X.xe s
/-- a test whatever its 'whole' is (and, or) -/
def PW (X : Cx) (e : Expr) (t : TT) : Prop :=
  ∀ (whole : Sem Value) (pins : List (Addr × Obj)) (s : Shared) (σ : St) (H : Hp) (Q : Bool → Hp → Prop), Inv X pins σ H s → t σ H Q → wpAny (model X.prog X.w) X.A (isTrue e X.env whole) (TP X pins σ Q) X.xe s
theorem PW.pt {X : Cx} {e : Expr} {t : TT} (h : PW X e t) : PT X e t := h _
/-- an argument list (no star), from the left -/
def PA (X : Cx) (es : List Expr) (t : TA) : Prop :=
  ∀ (pos : Pos) (pins : List (Addr × Obj)) (s : Shared) (σ : St) (H : Hp) (Q : List V → Hp → Prop), Inv X pins σ H s → t σ H Q → wpAny (model X.prog X.w) X.A (spliced (backTo pos (starEach es X.env))) (AP X pins σ Q) X.xe s
def PS (X : Cx) (st : Stmt) (t : TS) : Prop :=
  ∀ (pins : List (Addr × Obj)) (s : Shared) (σ : St) (H : Hp) (D : Ends), Inv X pins σ H s → t D σ H → wpAny (model X.prog X.w) X.A (exec st X.env) (SP X pins D) X.xe s
def PSs (X : Cx) (st : List Stmt) (t : TS) : Prop :=
  ∀ (pins : List (Addr × Obj)) (s : Shared) (σ : St) (H : Hp) (D : Ends), Inv X pins σ H s → t D σ H → wpAny (model X.prog X.w) X.A (execs st X.env) (SP X pins D) X.xe s
/-- weaken the end -/
theorem thn {α : Type} {t : Sem α} {Q Q' : α → Shared → Prop} {M : Model} {A : Around} {E : Value → Shared → Prop} {s : Shared} (h : wpAny M A t Q E s) (hQ : ∀ a s, Q a s → Q' a s) : wpAny M A t Q' E s := wpAny_mono h hQ fun _ _ x => x
end L2

namespace L2
open PySem PySem.Spec PyProof.Rows
section
variable {X : Cx}

/-- two expressions in a row -/
theorem bin {a b : Expr} {ta tb : TE} (ha : PE X a ta) (hb : PE X b tb) {pins : List (Addr × Obj)} {s : Shared} {σ : St} {H : Hp} {R : V → V → Hp → Prop} (I : Inv X pins σ H s) (h : ta σ H fun x H1 => tb σ H1 fun y H2 => R x y H2)
    {α : Type} {Q : α → Shared → Prop} {f : Value → Value → Sem α}
    (hf : ∀ v u s2 x y H2, Inv X pins σ H2 s2 → RelV x v → RelV y u → R x y H2 → wpAny (model X.prog X.w) X.A (f v u) Q X.xe s2) :
    wpAny (model X.prog X.w) X.A (eval a X.env) (fun v s₁ => wpAny (model X.prog X.w) X.A (eval b X.env) (fun u s₂ => wpAny (model X.prog X.w) X.A (f v u) Q X.xe s₂) X.xe s₁) X.xe s := by
  refine thn (ha pins s σ H _ I h) fun v s1 ⟨x, H1, I1, r1, q1⟩ => ?_
  refine thn (hb pins s1 σ H1 _ I1 q1) fun u s2 ⟨y, H2, I2, r2, q2⟩ => ?_
  exact hf v u s2 x y H2 I2 r1 r2 q2

/-! ### names and constants -/
def tVar (i : Nat) : TE := fun σ H Q => ∃ v, σ[i]? = some (some v) ∧ Q v H
def tC (v : V) : TE := fun _ H Q => Q v H
theorem pe_var {i : Nat} {x : Str} {pos : Pos} (hN : X.N[i]? = some x) (hv : Vis X.env.scope x) (hd : (x == ("__debug__" : Str)) = false := by decide) (hcd : (x == ("__classdict__" : Str)) = false := by decide) : PE X (.Name x pos) (tVar i) := by
  intro pins s σ H Q I h
  obtain ⟨v, e, h⟩ := h
  obtain ⟨m, hn, hl⟩ := I.loc
  obtain ⟨u, r, l⟩ := hl i x v hN e hv
  have fin : EP X pins σ Q u s := ⟨v, H, I, r, h⟩
  rcases l with ⟨hk, hm⟩ | ⟨hk, c, hc, hcell⟩
  · exact wpAny_Name (wpAny_loadName_local I.ok.kind hk hn hm fin) hd
  · rcases hk with hk | hk
    · exact wpAny_Name (wpAny_loadName_cell I.ok.kind hk hc hcell fin) hd
    · exact wpAny_Name (wpAny_loadName_free I.ok.kind hk hc hcell fin hcd) hd
theorem pe_int {i j pos} : PE X (.Constant (.int i) j pos) (tC (.int i)) := fun _ _ _ H _ I h => wpAny_Constant_int ⟨.int i, H, I.tok _, ⟨_, rfl⟩, h⟩
theorem pe_bl {b j pos} : PE X (.Constant (.bool b) j pos) (tC (.bl b)) := fun _ _ _ H _ I h => Constant_bool ⟨.bl b, H, I, rfl, h⟩
theorem pe_non {j pos} : PE X (.Constant .none j pos) (tC .non) := fun _ _ _ H _ I h => Constant_none ⟨.non, H, I, rfl, h⟩
theorem pe_str {x j pos} : PE X (.Constant (.str x) j pos) (tC (.str x)) := fun _ _ _ H _ I h => Calls.Constant_str ⟨.str x, H, I.tok _, ⟨_, rfl⟩, h⟩

/-- a global name of the def -/
def Gl (X : Cx) (x : Str) : Prop := X.env.kindOf x = some .globalImplicit
theorem ld_glob {E : Value → Shared → Prop} {pins : List (Addr × Obj)} {s : Shared} {σ : St} {H : Hp} {x : Str} {u : Value} {pos : Pos} {Q : Value → Shared → Prop} (I : Inv X pins σ H s) (hg : Gl X x) (hm : X.mg x = some u) (h : Q u s)
    (hd : (x == ("__debug__" : Str)) = false := by decide) : wpAny (model X.prog X.w) X.A (eval (.Name x pos) X.env) Q E s :=
  Calls.Name_function_global I.ok.kind hg (Calls.loadGlobal_global (by rw [I.ok.glob]; exact I.mod.glob.keeps I.bk) hm h) hd
theorem ld_blt {E : Value → Shared → Prop} {pins : List (Addr × Obj)} {s : Shared} {σ : St} {H : Hp} {x : Str} {u : Value} {pos : Pos} {Q : Value → Shared → Prop} (I : Inv X pins σ H s) (hg : Gl X x) (hm : X.mg x = none) (hv : bootBuiltins x = some u) (h : Q u s)
    (hn : x ≠ "__name__" := by decide) (hd : (x == ("__debug__" : Str)) = false := by decide) : wpAny (model X.prog X.w) X.A (eval (.Name x pos) X.env) Q E s := by
  obtain ⟨mb, h1, h2⟩ := I.mod.blt
  exact Calls.Name_function_global I.ok.kind hg (Calls.loadGlobal_builtin (by rw [I.ok.glob]; exact I.mod.glob.keeps I.bk) hm (by rw [I.ok.blt]; exact h1.keeps I.bk) ((h2 x hn).trans hv) h) hd
/-- a module's constant, a class, a function, as a value -/
theorem pe_glob {x : Str} {v : V} {u : Value} {pos : Pos} (hg : Gl X x) (hm : X.mg x = some u) (r : RelV v u) (hd : (x == ("__debug__" : Str)) = false := by decide) : PE X (.Name x pos) (tC v) :=
  fun _ _ _ H _ I h => ld_glob I hg hm ⟨v, H, I, r, h⟩ hd
theorem pe_bltn {x : Str} {v : V} {u : Value} {pos : Pos} (hg : Gl X x) (hm : X.mg x = none) (hv : bootBuiltins x = some u) (r : RelV v u) (hn : x ≠ "__name__" := by decide) (hd : (x == ("__debug__" : Str)) = false := by decide) : PE X (.Name x pos) (tC v) :=
  fun _ _ _ H _ I h => ld_blt I hg hm hv ⟨v, H, I, r, h⟩ hn hd

/-! ### arithmetic -/
/-- two ints -/
def t2I (ta tb : TE) (k : Int → Int → Hp → Prop) : St → Hp → Prop := fun σ H => ta σ H fun x H1 => tb σ H1 fun y H2 => ∃ i j, x = .int i ∧ y = .int j ∧ k i j H2
def tAdd (ta tb : TE) : TE := fun σ H Q => t2I ta tb (fun i j H2 => Q (.int (i + j)) H2) σ H
def tSub (ta tb : TE) : TE := fun σ H Q => t2I ta tb (fun i j H2 => Q (.int (i - j)) H2) σ H
/-- the left factor below 2^64 -/
def tMul (ta tb : TE) : TE := fun σ H Q => t2I ta tb (fun i j H2 => (-(2 ^ 64) < i ∧ i < 2 ^ 64) ∧ Q (.int (i * j)) H2) σ H
variable {a b : Expr} {ta tb : TE} {pos : Pos}
theorem pe_add (ha : PE X a ta) (hb : PE X b tb) : PE X (.BinOp a .Add b pos) (tAdd ta tb) := by
  intro pins s σ H Q I h
  refine wpAny_BinOp (bin ha hb I h fun v u s2 x y H2 I2 rx ry q => ?_)
  obtain ⟨i, j, rfl, rfl, q⟩ := q
  obtain ⟨t, rfl⟩ := rx
  obtain ⟨t', rfl⟩ := ry
  exact add_int ⟨.int _, H2, I2.tok _, ⟨_, rfl⟩, q⟩
theorem pe_sub (ha : PE X a ta) (hb : PE X b tb) : PE X (.BinOp a .Sub b pos) (tSub ta tb) := by
  intro pins s σ H Q I h
  refine wpAny_BinOp (bin ha hb I h fun v u s2 x y H2 I2 rx ry q => ?_)
  obtain ⟨i, j, rfl, rfl, q⟩ := q
  obtain ⟨t, rfl⟩ := rx
  obtain ⟨t', rfl⟩ := ry
  exact sub_int ⟨.int _, H2, I2.tok _, ⟨_, rfl⟩, q⟩
theorem pe_mul (ha : PE X a ta) (hb : PE X b tb) : PE X (.BinOp a .Mult b pos) (tMul ta tb) := by
  intro pins s σ H Q I h
  refine wpAny_BinOp (bin ha hb I h fun v u s2 x y H2 I2 rx ry q => ?_)
  obtain ⟨i, j, rfl, rfl, ⟨q1, q2⟩, q⟩ := q
  obtain ⟨t, rfl⟩ := rx
  obtain ⟨t', rfl⟩ := ry
  exact mul_int ⟨.int _, H2, I2.tok _, ⟨_, rfl⟩, q⟩ (.of_left (intBits_le_64 q1 q2))

/-! ### comparisons -/
def PC (X : Cx) (op : CmpOp) (a b : Expr) (t : TE) : Prop :=
  ∀ (pins : List (Addr × Obj)) (s : Shared) (σ : St) (H : Hp) (Q : VK), Inv X pins σ H s → t σ H Q →
    wpAny (model X.prog X.w) X.A (eval a X.env) (fun v s₁ => wpAny (model X.prog X.w) X.A (eval b X.env) (fun u s₂ => wpAny (model X.prog X.w) X.A (compareOp op v u) (EP X pins σ Q) X.xe s₂) X.xe s₁) X.xe s
theorem nobehind (b : Expr) {op : CmpOp} (h : op ≠ .In) (h2 : op ≠ .NotIn) : behindInMarks op b = false := by
  have e1 : (op == CmpOp.In) = false := by cases op <;> first | rfl | exact absurd rfl h
  have e2 : (op == CmpOp.NotIn) = false := by cases op <;> first | rfl | exact absurd rfl h2
  cases b <;> simp [behindInMarks, e1, e2]
def tCmp (p : Int → Int → Bool) (ta tb : TE) : TE := fun σ H Q => t2I ta tb (fun i j H2 => Q (.bl (p i j)) H2) σ H
abbrev tLt : TE → TE → TE := tCmp fun i j => decide (i < j)
abbrev tLe : TE → TE → TE := tCmp fun i j => decide (i ≤ j)
abbrev tGt : TE → TE → TE := tCmp fun i j => decide (j < i)
abbrev tGe : TE → TE → TE := tCmp fun i j => decide (j ≤ i)
abbrev tEqI : TE → TE → TE := tCmp fun i j => decide (i = j)
abbrev tNeI : TE → TE → TE := tCmp fun i j => !decide (i = j)
/-- a comparison of two ints, by its rule -/
theorem pc_int {op : CmpOp} {p : Int → Int → Bool} (ha : PE X a ta) (hb : PE X b tb)
    (rule : ∀ (i j : Int) (t u : Tok) (Q : Value → Shared → Prop) (s : Shared), Q (.bool (p i j)) s → wpAny (model X.prog X.w) X.A (compareOp op (.int i t) (.int j u)) Q X.xe s) : PC X op a b (tCmp p ta tb) := by
  intro pins s σ H Q I h
  refine bin ha hb I h fun v u s2 x y H2 I2 rx ry q => ?_
  obtain ⟨i, j, rfl, rfl, q⟩ := q
  obtain ⟨t, rfl⟩ := rx
  obtain ⟨t', rfl⟩ := ry
  exact rule i j t t' _ s2 ⟨.bl _, H2, I2, rfl, q⟩
theorem pc_lt (ha : PE X a ta) (hb : PE X b tb) : PC X .Lt a b (tLt ta tb) := pc_int ha hb fun _ _ _ _ _ _ h => lt_int h
theorem pc_le (ha : PE X a ta) (hb : PE X b tb) : PC X .LtE a b (tLe ta tb) := pc_int ha hb fun _ _ _ _ _ _ h => le_int h
theorem pc_gt (ha : PE X a ta) (hb : PE X b tb) : PC X .Gt a b (tGt ta tb) := pc_int ha hb fun _ _ _ _ _ _ h => gt_int h
theorem pc_ge (ha : PE X a ta) (hb : PE X b tb) : PC X .GtE a b (tGe ta tb) := pc_int ha hb fun _ _ _ _ _ _ h => ge_int h
theorem pc_eqI (ha : PE X a ta) (hb : PE X b tb) : PC X .Eq a b (tEqI ta tb) := pc_int ha hb fun _ _ _ _ _ _ h => eq_int (by rw [Bool.beq_eq_decide_eq]; exact h)
theorem pc_neI (ha : PE X a ta) (hb : PE X b tb) : PC X .NotEq a b (tNeI ta tb) := pc_int ha hb fun _ _ _ _ _ _ h => ne_int (by rw [bne, Bool.beq_eq_decide_eq]; exact h)
/-- is None -/
def tIsN (ta : TE) : TE := fun σ H Q => ta σ H fun x H1 => Q (.bl (decide (x = .non))) H1
def tNotN (ta : TE) : TE := fun σ H Q => ta σ H fun x H1 => Q (.bl (!decide (x = .non))) H1
theorem RelV.none_iff {x : V} {v : Value} (r : RelV x v) : (v == Value.none) = decide (x = .non) := by
  cases x with
  | non => cases r; rfl
  | bl _ => cases r; rfl
  | int _ => obtain ⟨t, rfl⟩ := r; rfl
  | str _ => obtain ⟨t, rfl⟩ := r; rfl
  | byt _ => obtain ⟨t, rfl⟩ := r; rfl
  | flt _ => obtain ⟨t, rfl⟩ := r; rfl
  | ref _ => cases r; rfl
  | ty _ => cases r; rfl
theorem pc_isN {j pos'} (ha : PE X a ta) : PC X .Is a (.Constant .none j pos') (tIsN ta) := by
  intro pins s σ H Q I h
  refine thn (ha pins s σ H _ I h) fun v s1 ⟨x, H1, I1, r1, q1⟩ => ?_
  exact Constant_none (is_none_gen ⟨.bl _, H1, I1, by rw [r1.none_iff]; rfl, q1⟩)
theorem pc_notN {j pos'} (ha : PE X a ta) : PC X .IsNot a (.Constant .none j pos') (tNotN ta) := by
  intro pins s σ H Q I h
  refine thn (ha pins s σ H _ I h) fun v s1 ⟨x, H1, I1, r1, q1⟩ => ?_
  exact Constant_none (isnot_none_gen ⟨.bl _, H1, I1, by rw [r1.none_iff]; rfl, q1⟩)
/-- a comparison as a value, as a test -/
def tB (t : TE) : TT := fun σ H Q => t σ H fun x H1 => ∃ c, x = .bl c ∧ Q c H1
theorem pe_cmp {op : CmpOp} {t : TE} (h : PC X op a b t) (h1 : behindInMarks op b = false := by first | exact nobehind _ (by decide) (by decide) | rfl) : PE X (.Compare a [op] [b] pos) t := fun pins s σ H Q I hw => wpAny_Compare1 (h pins s σ H Q I hw) h1
theorem pt_cmp {op : CmpOp} {t : TE} (h : PC X op a b t) (h1 : behindInMarks op b = false := by first | exact nobehind _ (by decide) (by decide) | rfl) : PT X (.Compare a [op] [b] pos) (tB t) := by
  intro pins s σ H Q I hw
  refine wpAny_isTrue_Compare1 (thn (h pins s σ H _ I hw) fun v s1 h1 => thn h1 fun u s2 h2 => thn h2 fun c s3 ⟨x, H1, I1, r1, q1⟩ => ?_) h1
  obtain ⟨d, rfl, q⟩ := q1
  cases r1
  exact wpAny_truthy_bool ⟨H1, I1, q⟩
/-- an expression whose value is a bool, as a test -/
theorem pt_val {e : Expr} {t : TE} (h : PE X e t) (he : ∀ whole, isTrue e X.env whole = (do let v ← whole; standAt e.pos; holding [v] (truthy v)) := by intro _; rfl) : PT X e (tB t) := by
  intro pins s σ H Q I hw
  refine isTrue_plain (thn (h pins s σ H _ I hw) fun v s1 ⟨x, H1, I1, r1, q1⟩ => ?_) (he _)
  obtain ⟨d, rfl, q⟩ := q1
  cases r1
  exact wpAny_truthy_bool ⟨H1, I1, q⟩

/-! ### and, or, not -/
variable {tA tB' : TT} {rest : List Expr}
def tAnd (t u : TT) : TT := fun σ H Q => t σ H fun c H1 => if c = true then u σ H1 Q else Q false H1
def tOr (t u : TT) : TT := fun σ H Q => t σ H fun c H1 => if c = true then Q true H1 else u σ H1 Q
def tNot (t : TT) : TT := fun σ H Q => t σ H fun c H1 => Q (!c) H1
theorem pw_and1 (ha : PT X a tA) : PW X (.BoolOp .And [a] pos) tA := by
  intro wh pins s σ H Q I h
  refine isTrue_and (thn (ha pins s σ H Q I h) fun c s1 e => ?_)
  cases c with
  | true => exact isTrue_and_nil e
  | false => exact e
theorem pw_or1 (ha : PT X a tA) : PW X (.BoolOp .Or [a] pos) tA := by
  intro wh pins s σ H Q I h
  refine isTrue_or (thn (ha pins s σ H Q I h) fun c s1 e => ?_)
  cases c with
  | false => exact isTrue_or_nil e
  | true => exact e
theorem pw_and (ha : PT X a tA) (hb : PW X (.BoolOp .And (b :: rest) pos) tB') : PW X (.BoolOp .And (a :: b :: rest) pos) (tAnd tA tB') := by
  intro wh pins s σ H Q I h
  refine isTrue_and (thn (ha pins s σ H _ I h) fun c s1 ⟨H1, I1, q1⟩ => ?_)
  cases c with
  | true => exact hb wh pins s1 σ H1 Q I1 q1
  | false => exact ⟨H1, I1, q1⟩
theorem pw_or (ha : PT X a tA) (hb : PW X (.BoolOp .Or (b :: rest) pos) tB') : PW X (.BoolOp .Or (a :: b :: rest) pos) (tOr tA tB') := by
  intro wh pins s σ H Q I h
  refine isTrue_or (thn (ha pins s σ H _ I h) fun c s1 ⟨H1, I1, q1⟩ => ?_)
  cases c with
  | true => exact ⟨H1, I1, q1⟩
  | false => exact hb wh pins s1 σ H1 Q I1 q1
theorem pt_not (ha : PT X a tA) : PT X (.UnaryOp .Not a pos) (tNot tA) := by
  intro pins s σ H Q I h
  exact isTrue_not (ha pins s σ H (fun c H1 => Q (!c) H1) I h)
/-- .. as values (bools) -/
def tAndV (ta tb : TE) : TE := fun σ H Q => ta σ H fun x H1 => ∃ c, x = .bl c ∧ if c = true then tb σ H1 Q else Q (.bl false) H1
def tOrV (ta tb : TE) : TE := fun σ H Q => ta σ H fun x H1 => ∃ c, x = .bl c ∧ if c = true then Q (.bl true) H1 else tb σ H1 Q
def tNotV (ta : TE) : TE := fun σ H Q => ta σ H fun x H1 => ∃ c, x = .bl c ∧ Q (.bl (!c)) H1
theorem pe_one {op} {t : TE} (h : PE X a t) : PE X (.BoolOp op [a] pos) t := fun pins s σ H Q I hw => BoolOp_one (h pins s σ H Q I hw)
theorem pe_and (ha : PE X a ta) (hb : PE X (.BoolOp .And (b :: rest) pos) tb) : PE X (.BoolOp .And (a :: b :: rest) pos) (tAndV ta tb) := by
  intro pins s σ H Q I h
  refine BoolOp_and (thn (ha pins s σ H _ I h) fun v s1 ⟨x, H1, I1, r1, q1⟩ => ?_)
  obtain ⟨c, rfl, q1⟩ := q1
  cases r1
  refine wpAny_truthy_bool ?_
  cases c with
  | true => exact hb pins s1 σ H1 Q I1 q1
  | false => exact ⟨.bl false, H1, I1, rfl, q1⟩
theorem pe_or (ha : PE X a ta) (hb : PE X (.BoolOp .Or (b :: rest) pos) tb) : PE X (.BoolOp .Or (a :: b :: rest) pos) (tOrV ta tb) := by
  intro pins s σ H Q I h
  refine BoolOp_or (thn (ha pins s σ H _ I h) fun v s1 ⟨x, H1, I1, r1, q1⟩ => ?_)
  obtain ⟨c, rfl, q1⟩ := q1
  cases r1
  refine wpAny_truthy_bool ?_
  cases c with
  | false => exact hb pins s1 σ H1 Q I1 q1
  | true => exact ⟨.bl true, H1, I1, rfl, q1⟩
theorem pe_not (ha : PE X a ta) : PE X (.UnaryOp .Not a pos) (tNotV ta) := by
  intro pins s σ H Q I h
  refine UnaryOp_ (thn (ha pins s σ H _ I h) fun v s1 ⟨x, H1, I1, r1, q1⟩ => ?_)
  obtain ⟨c, rfl, q1⟩ := q1
  cases r1
  exact not_of (wpAny_truthy_bool ⟨.bl (!c), H1, I1, rfl, q1⟩)
/-- a if t else b -/
def tIf (t : TT) (ta tb : TE) : TE := fun σ H Q => t σ H fun c H1 => if c = true then ta σ H1 Q else tb σ H1 Q
theorem pe_ifExp {c : Expr} (hc : PT X c tA) (ha : PE X a ta) (hb : PE X b tb) : PE X (.IfExp c a b pos) (tIf tA ta tb) := by
  intro pins s σ H Q I h
  refine wpAny_IfExp (thn (hc pins s σ H _ I h) fun d s1 ⟨H1, I1, q1⟩ => ?_)
  cases d with
  | true => exact ha pins s1 σ H1 Q I1 q1
  | false => exact hb pins s1 σ H1 Q I1 q1
end
end L2

namespace L2
open PySem PySem.Spec PyProof.Rows

/-! ### a list, a tuple that is read: tracked, frozen, or an object of the module -/
def SqL (K : PySem.W.Frag) (H : Hp) (a : Addr) (xs : List V) : Prop :=
  Rd H a (.lst xs) ∨
    ∃ (o : Obj) (its : Array Value) (n : Nat), K.lookup a = some o ∧ o.cls = .type "list" ∧ o.dict = none ∧ o.data = .seq its n ∧ its.size ≤ sizeLine ∧ Vals xs its.toList
def SqT (K : PySem.W.Frag) (H : Hp) (a : Addr) (xs : List V) : Prop :=
  Rd H a (.tup xs) ∨
    ∃ (o : Obj) (its : Array Value) (n : Nat), K.lookup a = some o ∧ o.cls = .type "tuple" ∧ o.data = .seq its n ∧ its.size ≤ sizeLine ∧ Vals xs its.toList
def absV : Value → Option V
  | .none => some .non
  | .bool b => some (.bl b)
  | .int i _ => some (.int i)
  | .str x _ => some (.str x)
  | .bytes b _ => some (.byt b)
  | .float b _ => some (.flt b)
  | .ref a => some (.ref a)
  | .type n => some (.ty n)
  | _ => none
theorem RelV.abs {x : V} {u : Value} (r : RelV x u) : absV u = some x := by
  cases x with
  | non => cases r; rfl
  | bl _ => cases r; rfl
  | int _ => obtain ⟨t, rfl⟩ := r; rfl
  | str _ => obtain ⟨t, rfl⟩ := r; rfl
  | byt _ => obtain ⟨t, rfl⟩ := r; rfl
  | flt _ => obtain ⟨t, rfl⟩ := r; rfl
  | ref _ => cases r; rfl
  | ty _ => cases r; rfl
theorem RelV.inj {x y : V} {u : Value} (r : RelV x u) (q : RelV y u) : x = y := Option.some.inj (r.abs.symm.trans q.abs)
theorem Vals.inj : ∀ {xs ys : List V} {us : List Value}, Vals xs us → Vals ys us → xs = ys
  | _, _, _, .nil, .nil => rfl
  | _, _, _, .cons r t, .cons r' t' => by rw [r.inj r', Vals.inj t t']
section
variable {X : Cx} {pins : List (Addr × Obj)} {σ : St} {H : Hp} {s : Shared} {a : Addr} {xs ys : List V}
theorem SqL.of {K : PySem.W.Frag} (h : H a = some (.lst xs)) : SqL K H a xs := .inl (.inl h)
theorem SqT.of {K : PySem.W.Frag} (h : H a = some (.tup xs)) : SqT K H a xs := .inl (.inl h)
theorem Inv.list (I : Inv X pins σ H s) (h : SqL X.K H a xs) : ∃ its : List Value, Vals xs its ∧ PlainL s.heap a its.toArray ∧ xs.length ≤ sizeLine := by
  rcases h with h | ⟨o, its, n, hk, hc, hd, hs, hz, r⟩
  · obtain ⟨z, its, n, r, e⟩ := h.ok I.hok
    exact ⟨its, r, ⟨_, n, e, rfl, rfl, rfl⟩, z⟩
  · refine ⟨its.toList, r, ⟨o, n, I.kIn a o hk, hc, hd, by simpa using hs⟩, ?_⟩
    have e := r.length
    simp only [Array.length_toList] at e
    omega
theorem Inv.tuple (I : Inv X pins σ H s) (h : SqT X.K H a xs) : ∃ its : List Value, Vals xs its ∧ IsTup s.heap a its.toArray ∧ xs.length ≤ sizeLine := by
  rcases h with h | ⟨o, its, n, hk, hc, hs, hz, r⟩
  · obtain ⟨z, its, r, p⟩ := h.ok I.hok
    exact ⟨its, r, p, z⟩
  · refine ⟨its.toList, r, ⟨o, I.kIn a o hk, hc, n, by simpa using hs⟩, ?_⟩
    have e := r.length
    simp only [Array.length_toList] at e
    omega
theorem Inv.list_inj (I : Inv X pins σ H s) (h : SqL X.K H a xs) (h' : SqL X.K H a ys) : xs = ys := by
  obtain ⟨its, r, ⟨o, n, e, _, _, d⟩, _⟩ := I.list h
  obtain ⟨its', r', ⟨o', n', e', _, _, d'⟩, _⟩ := I.list h'
  rw [e] at e'; cases e'
  rw [d] at d'
  injection d' with d1 _
  have : its = its' := by simpa using congrArg Array.toList d1
  subst this
  exact r.inj r'
theorem Inv.tuple_inj (I : Inv X pins σ H s) (h : SqT X.K H a xs) (h' : SqT X.K H a ys) : xs = ys := by
  obtain ⟨its, r, ⟨o, e, _, n, d⟩, _⟩ := I.tuple h
  obtain ⟨its', r', ⟨o', e', _, n', d'⟩, _⟩ := I.tuple h'
  rw [e] at e'; cases e'
  rw [d] at d'
  injection d' with d1 _
  have : its = its' := by simpa using congrArg Array.toList d1
  subst this
  exact r.inj r'
end

/-! ### another wish about exceptions -/
abbrev Cx.wish (X : Cx) (E : Value → Shared → Prop) : Cx := { X with xe := E }
/-- no exception leaves -/
abbrev Cx.nox (X : Cx) : Cx := X.wish fun _ _ => False
theorem Cx.Ok.wish {X : Cx} (ok : X.Ok) (E : Value → Shared → Prop) : (X.wish E).Ok :=
  ⟨ok.mod, ok.kind, ok.glob, ok.blt, ok.above, ok.inj, ok.has, ok.cab, ok.hd, ok.frames, ok.stk, ok.exf, ok.bs, ok.bsz, ok.noex, ok.exfs, ok.funs, ok.frf⟩
theorem Cx.Ok.unwish {X : Cx} {E : Value → Shared → Prop} (ok : (X.wish E).Ok) : X.Ok :=
  ⟨ok.mod, ok.kind, ok.glob, ok.blt, ok.above, ok.inj, ok.has, ok.cab, ok.hd, ok.frames, ok.stk, ok.exf, ok.bs, ok.bsz, ok.noex, ok.exfs, ok.funs, ok.frf⟩
section
variable {X : Cx} {pins : List (Addr × Obj)} {σ : St} {H : Hp} {s : Shared} {E : Value → Shared → Prop}
theorem Inv.wish (I : Inv X pins σ H s) (E : Value → Shared → Prop) : Inv (X.wish E) pins σ H s := ⟨I.ok.wish E, I.os, I.bare, I.base, I.loc, I.cell, I.free, I.freeC, I.pin, I.hok, I.len⟩
theorem Inv.unwish (I : Inv (X.wish E) pins σ H s) : Inv X pins σ H s := ⟨I.ok.unwish, I.os, I.bare, I.base, I.loc, I.cell, I.free, I.freeC, I.pin, I.hok, I.len⟩
theorem SP.unwish {D : Ends} {f : Flow} {s' : Shared} (h : SP (X.wish E) pins D f s') : SP X pins D f s' := by
  cases f with
  | next => obtain ⟨σ', H', I, q⟩ := h; exact ⟨σ', H', I.unwish, q⟩
  | brk => obtain ⟨σ', H', I, q⟩ := h; exact ⟨σ', H', I.unwish, q⟩
  | cont => obtain ⟨σ', H', I, q⟩ := h; exact ⟨σ', H', I.unwish, q⟩
  | ret u => obtain ⟨v, σ', H', I, r, q⟩ := h; exact ⟨v, σ', H', I.unwish, r, q⟩
theorem PE.nox {e : Expr} {t : TE} (h : PE X.nox e t) : PE X e t := fun pins s σ H Q I hw =>
  wpAny_mono (h pins s σ H Q (I.wish _) hw) (fun _ _ ⟨v, H', I', r, q⟩ => ⟨v, H', I'.unwish, r, q⟩) fun _ _ z => False.elim z
theorem PT.nox {e : Expr} {t : TT} (h : PT X.nox e t) : PT X e t := fun pins s σ H Q I hw =>
  wpAny_mono (h pins s σ H Q (I.wish _) hw) (fun _ _ ⟨H', I', q⟩ => ⟨H', I'.unwish, q⟩) fun _ _ z => False.elim z
theorem PSs.nox {st : List Stmt} {t : TS} (h : PSs X.nox st t) : PSs X st t := fun pins s σ H D I hw =>
  wpAny_mono (h pins s σ H D (I.wish _) hw) (fun _ _ q => q.unwish) fun _ _ z => False.elim z
end

/-! ### blocks and small statements -/
section
variable {X : Cx} {st : Stmt} {rest : List Stmt} {t u : TS} {e : Expr} {te : TE} {pos : Pos}
def tNext : TS := fun D σ H => D.nx σ H
def tSeq (t u : TS) : TS := fun D σ H => t { D with nx := u D } σ H
theorem pss_nil : PSs X [] tNext := fun _ _ σ H _ I h => wpAny_execs_nil ⟨σ, H, I, h⟩
theorem pss_cons (h1 : PS X st t) (h2 : PSs X rest u) : PSs X (st :: rest) (tSeq t u) := by
  intro pins s σ H D I h
  refine wpAny_execs_cons (thn (h1 pins s σ H { D with nx := u D } I h) fun f s1 q => ?_)
  cases f with
  | next =>
    obtain ⟨σ', H', I', q⟩ := q
    exact h2 pins s1 σ' H' D I' q
  | ret v => exact q
  | brk => exact q
  | cont => exact q
theorem pss_one (h1 : PS X st t) : PSs X [st] t := by
  intro pins s σ H D I h
  refine wpAny_execs_cons (thn (h1 pins s σ H D I h) fun f s1 q => ?_)
  cases f with
  | next => exact wpAny_execs_nil q
  | ret v => exact q
  | brk => exact q
  | cont => exact q
def tBreak : TS := fun D σ H => D.bk σ H
def tCont : TS := fun D σ H => D.ct σ H
theorem ps_pass : PS X (.Pass pos) tNext := fun _ _ σ H _ I h => wpAny_Pass ⟨σ, H, I, h⟩
theorem ps_break : PS X (.Break pos) tBreak := fun _ _ σ H _ I h => wpAny_Break ⟨σ, H, I, h⟩
theorem ps_continue : PS X (.Continue pos) tCont := fun _ _ σ H _ I h => wpAny_Continue ⟨σ, H, I, h⟩
/-- in a def's body nothing is shown -/
theorem Inv.quiet {pins : List (Addr × Obj)} {σ : St} {H : Hp} {s : Shared} (I : Inv X pins σ H s) : interactive X.env = false := by simp [interactive, I.ok.kind]
/-- a docstring -/
theorem ps_doc {x j pos pos'} : PS X (.Expr (.Constant (.str x) j pos) pos') tNext := fun _ s σ H _ I h => wpAny_Expr (Calls.Constant_str (show SP X _ _ .next { s with toks := s.toks + 1 } from ⟨σ, H, I.tok _, h⟩)) I.quiet
/-- an expression whose value is dropped -/
def tDrop (te : TE) : TS := fun D σ H => te σ H fun _ H1 => D.nx σ H1
theorem ps_expr (he : PE X e te) (hs : swapsWith e none pos.line X.env = pure false := by rfl) : PS X (.Expr e pos) (tDrop te) := by
  intro pins s σ H D I h
  exact wpAny_Expr_any (thn (he pins s σ H _ I h) fun v s1 ⟨x, H1, I1, r1, q1⟩ => ⟨σ, H1, I1, q1⟩) I.quiet hs
def tRet (te : TE) : TS := fun D σ H => te σ H D.rt
theorem ps_ret (he : PE X e te) : PS X (.Return (some e) pos) (tRet te) := by
  intro pins s σ H D I h
  exact wpAny_Return_some (thn (he pins s σ H _ I h) fun v s1 ⟨x, H1, I1, r1, q1⟩ => ⟨x, σ, H1, I1, r1, q1⟩)
def tRetN : TS := fun D _ H => D.rt .non H
theorem ps_retN : PS X (.Return none pos) tRetN := fun _ _ σ H _ I h => wpAny_Return_none ⟨.non, σ, H, I, rfl, h⟩
def tIfS (c : TT) (t u : TS) : TS := fun D σ H => c σ H fun b H1 => if b = true then t D σ H1 else u D σ H1
theorem ps_if {c : Expr} {a b : List Stmt} {tc : TT} (hc : PT X c tc) (ha : PSs X a t) (hb : PSs X b u) : PS X (.If c a b pos) (tIfS tc t u) := by
  intro pins s σ H D I h
  refine wpAny_If (thn (hc pins s σ H _ I h) fun d s1 ⟨H1, I1, q1⟩ => ?_)
  cases d with
  | true => exact ha pins s1 σ H1 D I1 q1
  | false => exact hb pins s1 σ H1 D I1 q1
/-- code that the proof never comes to -/
def tNever : TS := fun _ _ _ => False
theorem ps_never : PS X st tNever := fun _ _ _ _ _ _ h => h.elim
theorem pss_never {sts : List Stmt} : PSs X sts tNever := fun _ _ _ _ _ _ h => h.elim
end

/-! ### targets -/
abbrev TG := V → St → Hp → (St → Hp → Prop) → Prop
abbrev TGs := List V → St → Hp → (St → Hp → Prop) → Prop
def PG (X : Cx) (target : Expr) (t : TG) : Prop :=
  ∀ (pins : List (Addr × Obj)) (s : Shared) (σ : St) (H : Hp) (v : V) (u : Value) (Q : St → Hp → Prop), Inv X pins σ H s → RelV v u → t v σ H Q →
    wpAny (model X.prog X.w) X.A (assign target X.env u) (fun _ s' => ∃ σ' H', Inv X pins σ' H' s' ∧ Q σ' H') X.xe s
/-- several targets, one after another -/
def PGs (X : Cx) (ts : List Expr) (t : TGs) : Prop :=
  ∀ (pins : List (Addr × Obj)) (s : Shared) (σ : St) (H : Hp) (vs : List V) (us : List Value) (Q : St → Hp → Prop), Inv X pins σ H s → Vals vs us → t vs σ H Q →
    wpAny (model X.prog X.w) X.A (assignInOrder ((assignEach ts X.env).map (·.2)) us) (fun _ s' => ∃ σ' H', Inv X pins σ' H' s' ∧ Q σ' H') X.xe s
/-- o[i] = v, by values -/
abbrev TSet := V → V → V → Hp → (Hp → Prop) → Prop
def PSet (X : Cx) (t : TSet) : Prop :=
  ∀ (pins : List (Addr × Obj)) (s : Shared) (σ : St) (H : Hp) (o i v : V) (ov iv u : Value) (Q : Hp → Prop), Inv X pins σ H s → RelV o ov → RelV i iv → RelV v u → t o i v H Q →
    wpAny (model X.prog X.w) X.A (setItem ov iv u) (fun _ s' => ∃ H', Inv X pins σ H' s' ∧ Q H') X.xe s
/-- a op= b, by values -/
abbrev TIp := V → V → Hp → VK → Prop
def PIp (X : Cx) (op : Operator) (t : TIp) : Prop :=
  ∀ (pins : List (Addr × Obj)) (s : Shared) (σ : St) (H : Hp) (x y : V) (v u : Value) (Q : VK), Inv X pins σ H s → RelV x v → RelV y u → t x y H Q →
    wpAny (model X.prog X.w) X.A (inplaceOp op v u) (EP X pins σ Q) X.xe s
section
variable {X : Cx} {pos : Pos}
def gName (i : Nat) : TG := fun v σ H Q => Q (σ.set i (some v)) H
theorem pg_name {i : Nat} {x : Str} (hN : X.N.Nodup) (hi : X.N[i]? = some x) (hx : Loc X.env.scope x) (hf : X.fn x = true ∨ X.env.scope.names.lookup x = some .local := by first | exact .inl rfl | exact .inr rfl | assumption) : PG X (.Name x pos) (gName i) := by
  intro pins s σ H v u Q I r h
  exact wpAny_assign_Name (store_ok I hN hi hx r (fun s' I' => ⟨_, H, I', h⟩) hf)
def gNil : TGs := fun vs σ H Q => vs = [] ∧ Q σ H
def gCons (t : TG) (u : TGs) : TGs := fun vs σ H Q => ∃ v r, vs = v :: r ∧ t v σ H fun σ' H' => u r σ' H' Q
theorem pgs_nil : PGs X [] gNil := by
  intro pins s σ H vs us Q I r h
  obtain ⟨e, h⟩ := h
  subst e
  cases r
  exact assignInOrder_nil ⟨σ, H, I, h⟩
theorem pgs_cons {e : Expr} {es : List Expr} {t : TG} {u : TGs} (h1 : PG X e t) (h2 : PGs X es u)
    (hs : (assignEach (e :: es) X.env).map (·.2) = assign e X.env :: (assignEach es X.env).map (·.2) := by rfl) : PGs X (e :: es) (gCons t u) := by
  intro pins s σ H vs us Q I r h
  obtain ⟨v, vr, e1, h⟩ := h
  subst e1
  cases r with
  | cons r rr =>
    rw [hs]
    refine assignInOrder_cons (thn (h1 pins s σ H _ _ _ I r h) fun _ s1 ⟨σ1, H1, I1, q1⟩ => ?_)
    exact h2 pins s1 σ1 H1 _ _ Q I1 rr q1
/-- (a, b, ..) = a tuple of that length -/
def gTup (K : PySem.W.Frag) (n : Nat) (t : TGs) : TG := fun v σ H Q => ∃ a xs, v = .ref a ∧ SqT K H a xs ∧ xs.length = n ∧ t xs σ H Q
theorem pg_tup {es : List Expr} {k : Nat} {t : TGs} {n : Nat} (hc : X.calm = true) (h : PGs X es t)
    (hn : (assignEach es X.env).length = n := by rfl) (hst : (assignEach es X.env).findIdx? (·.1) = none := by rfl) : PG X (.Tuple es k pos) (gTup X.K n t) := by
  intro pins s σ H v u Q I r hw
  obtain ⟨a, xs, e1, hq, hl, hw⟩ := hw
  subst e1
  cases r
  obtain ⟨its, rv, ht, hz⟩ := I.tuple hq
  refine assign_Tuple_tuple (I.ok.hd hc) ht (by simp [hn, ← hl, rv.length]) hst fun h' hx => ?_
  have I1 : Inv X pins σ H { s with heap := h' } := I.kept (t' := s.toks) fun b o e => hx b o (Nat.ne_of_lt (Heap.lt_size e)) e
  exact h pins _ σ H xs _ Q I1 (by simpa using rv) hw
/-- o[i] = .. -/
def gSub (to ti : TE) (t : TSet) : TG := fun v σ H Q => to σ H fun o H1 => ti σ H1 fun i H2 => t o i v H2 fun H3 => Q σ H3
theorem pg_sub {o i : Expr} {to ti : TE} {t : TSet} (ho : PE X o to) (hi : PE X i ti) (hs : PSet X t)
    (ha : ∀ v, assign (.Subscript o i pos) X.env v = (do
      let ov ← holding [v] (eval o X.env)
      let iv ← holding [v, ov] (eval i X.env)
      standAt pos
      holding [v, ov, iv] (setItem ov iv v)
      release [v, ov, iv] []) := by intro _; rfl) : PG X (.Subscript o i pos) (gSub to ti t) := by
  intro pins s σ H v u Q I r h
  rw [ha]
  refine wpAny_bind (wpAny_holding (thn (ho pins s σ H _ I h) fun ov s1 ⟨x, H1, I1, r1, q1⟩ => ?_))
  refine wpAny_bind (wpAny_holding (thn (hi pins s1 σ H1 _ I1 q1) fun iv s2 ⟨y, H2, I2, r2, q2⟩ => ?_))
  refine wpAny_bind (wpAny_standAt (wpAny_bind (wpAny_holding (thn (hs pins s2 σ H2 x y v ov iv u _ I2 r1 r2 r q2) fun _ s3 ⟨H3, I3, q3⟩ => ?_))))
  exact wpAny_release ⟨σ, H3, I3, q3⟩
/-- target = value -/
def tAsg (te : TE) (g : TG) : TS := fun D σ H => te σ H fun x H1 => g x σ H1 D.nx
theorem ps_asg {tg e : Expr} {te : TE} {g : TG} (he : PE X e te) (hg : PG X tg g) (hs : swapsWithSole [tg] e pos.line X.env = pure false := by rfl) (hw : swappedStores [tg] e X.env = pure none := by rfl)
    (h1 : (assignEach [tg] X.env).map (·.2) = [assign tg X.env] := by rfl) : PS X (.Assign [tg] e pos) (tAsg te g) := by
  intro pins s σ H D I h
  refine wpAny_Assign_stores (thn (he pins s σ H _ I h) fun v s1 ⟨x, H1, I1, r1, q1⟩ => ?_) hs hw
  rw [h1]
  exact thn (hg pins s1 σ H1 x v _ I1 r1 q1) fun _ s2 q => q
/-- name = value -/
theorem ps_set {i : Nat} {x : Str} {e : Expr} {te : TE} {pos' : Pos} (hN : X.N.Nodup) (hi : X.N[i]? = some x) (hx : Loc X.env.scope x) (he : PE X e te) (hs : swapsWith e (some (.Name x pos')) pos.line X.env = pure false := by rfl) (hf : X.fn x = true ∨ X.env.scope.names.lookup x = some .local := by first | exact .inl rfl | exact .inr rfl | assumption) :
    PS X (.Assign [.Name x pos'] e pos) (tAsg te (gName i)) := by
  intro pins s σ H D I h
  refine wpAny_Assign_Name (thn (he pins s σ H _ I h) fun v s1 ⟨y, H1, I1, r1, q1⟩ => ?_) hs
  exact store_ok I1 hN hi hx r1 (fun s2 I2 => ⟨_, H1, I2, q1⟩) hf
/-- a, b = x, y with plain local names: stored from the right; the pair itself is not tracked (the opening rows as in PyProof/Rows/TupAssign.lean:23) -/
def tPar (i j : Nat) (ta : TA) : TS := fun D σ H => ta σ H fun vs H1 => ∃ v w, vs = [v, w] ∧ D.nx ((σ.set i (some v)).set j (some w)) H1
theorem ps_par {i j : Nat} {x y : Str} {a b : Expr} {ta : TA} {px py pt : Pos} {kt k2 pt2} (hc : X.calm = true) (hN : X.N.Nodup) (hi : X.N[i]? = some x) (hj : X.N[j]? = some y) (hij : i ≠ j)
    (hx : X.env.scope.names.lookup x = some .local) (hy : X.env.scope.names.lookup y = some .local) (ha : PA X [a, b] ta)
    (hw : swappedStores [.Tuple [.Name x px, .Name y py] kt pt] (.Tuple [a, b] k2 pt2) X.env = pure (some [x, y]))
    (hs : swapsWithSole [.Tuple [.Name x px, .Name y py] kt pt] (.Tuple [a, b] k2 pt2) pos.line X.env = pure false := by rfl) :
    PS X (.Assign [.Tuple [.Name x px, .Name y py] kt pt] (.Tuple [a, b] k2 pt2) pos) (tPar i j ta) := by
  intro pins s σ H D I h
  rw [exec_Assign_arm]
  refine wpAny_bind (wpAny_standAt ?_)
  rw [hs]
  refine wpAny_bind (wpAny_pure ?_)
  rw [if_neg (by decide)]
  refine wpAny_bind (Tuple_ (thn (ha _ pins s σ H _ I h) fun us s1 ⟨vs, H1, I1, r1, q1⟩ => ?_))
  obtain ⟨v, w, e1, q1⟩ := q1
  subst e1
  obtain ⟨u1, u2, rfl, rv, rw'⟩ : ∃ u1 u2, us = [u1, u2] ∧ RelV v u1 ∧ RelV w u2 := by
    cases r1 with
    | cons p q =>
      cases q with
      | cons p' q' =>
        cases q'
        exact ⟨_, _, rfl, p, p'⟩
  refine wpAny_newObj_type ?_ (by show 2 ≤ sizeLine; decide)
  have I2 : Inv X pins σ H1 { s1 with heap := s1.heap.push { cls := .type "tuple", data := .seq [u1, u2].toArray } } := I1.kept (t' := s1.toks) fun b o e => Heap.get?_push_of_some _ e
  rw [hw]
  refine wpAny_bind (wpAny_pure ?_)
  show wpAny (model X.prog X.w) X.A (do rule "assign.swapped-stores"; let items ← unpackItems (.ref s1.heap.objs.size) 2 none; assignInOrder [fun v => bindName X.env y v, fun v => bindName X.env x v] items.reverse; pure Flow.next) _ _ _
  refine wpAny_bind (wpAny_rule (wpAny_bind (unpackItems_tuple (items := #[u1, u2]) (I.ok.hd hc) (IsTup.new s1.heap _) fun h' hx' => ?_)))
  have I3 := I2.kept (h' := h') (t' := s1.toks) fun b o e => hx' b o (Nat.ne_of_lt (Heap.lt_size e)) e
  show wpAny _ _ (assignInOrder [fun v => bindName X.env y v, fun v => bindName X.env x v] [u2, u1] >>= fun _ => pure Flow.next) _ _ _
  refine wpAny_bind (assignInOrder_cons (wpAny_bindName (store_ok I3 hN hj (.inl hy) rw' (fun s2 I4 => ?_) (.inr hy))))
  refine assignInOrder_cons (wpAny_bindName (store_ok I4 hN hi (.inl hx) rv (fun s3 I5 => assignInOrder_nil (wpAny_pure ?_)) (.inr hx)))
  rw [List.set_comm _ _ (Ne.symm hij)] at I5
  exact ⟨_, H1, I5, q1⟩
/-- name op= e -/
def tAug (i : Nat) (te : TE) (ti : TIp) : TS := fun D σ H => ∃ x, σ[i]? = some (some x) ∧ te σ H fun y H1 => ti x y H1 fun z H2 => D.nx (σ.set i (some z)) H2
theorem ps_aug {i : Nat} {x : Str} {e : Expr} {te : TE} {op : Operator} {ti : TIp} {pos' : Pos} (hN : X.N.Nodup) (hi : X.N[i]? = some x) (hx : Loc X.env.scope x) (he : PE X e te) (ho : PIp X op ti) (hf : X.fn x = true ∨ X.env.scope.names.lookup x = some .local := by first | exact .inl rfl | exact .inr rfl | assumption) :
    PS X (.AugAssign (.Name x pos') op e pos) (tAug i te ti) := by
  intro pins s σ H D I h
  obtain ⟨v, e1, h⟩ := h
  obtain ⟨m, hn, hl⟩ := I.loc
  have vis : Vis X.env.scope x := by rcases hx with k | k; exact .inl k; exact .inr (.inl k)
  obtain ⟨u, r, l⟩ := hl i x v hi e1 vis
  refine wpAny_AugAssign_Name ?_
  have go : wpAny (model X.prog X.w) X.A (eval e X.env) (fun w s₂ => wpAny (model X.prog X.w) X.A (inplaceOp op u w) (fun r s₃ => wpAny (model X.prog X.w) X.A (storeName X.env x r) (fun _ => SP X pins D .next) X.xe s₃) X.xe s₂) X.xe s := by
    refine thn (he pins s σ H _ I h) fun w s1 ⟨y, H1, I1, r1, q1⟩ => ?_
    refine thn (ho pins s1 σ H1 v y u w _ I1 r r1 q1) fun z s2 ⟨zv, H2, I2, r2, q2⟩ => ?_
    exact store_ok I2 hN hi hx r2 (fun s3 I3 => ⟨_, H2, I3, q2⟩) hf
  rcases l with ⟨hk, hm⟩ | ⟨hk, c, hc, hcell⟩
  · exact wpAny_loadName_local I.ok.kind hk hn hm go
  · rcases hk with hk | hk
    · exact wpAny_loadName_cell I.ok.kind hk hc hcell go
    · rcases hx with k | k
      · have : X.env.scope.names.lookup x = some .free := hk
        rw [k] at this; cases this
      · have : X.env.scope.names.lookup x = some .free := hk
        rw [k] at this; cases this
/-- o[i] op= e -/
def tAugS (to ti te : TE) (tget : V → V → Hp → VK → Prop) (tip : TIp) (tset : TSet) : TS := fun D σ H => to σ H fun o H1 => ti σ H1 fun i H2 => tget o i H2 fun x H3 => te σ H3 fun y H4 => tip x y H4 fun z H5 => tset o i z H5 fun H6 => D.nx σ H6
/-- o[i], by values -/
def PGet (X : Cx) (t : V → V → Hp → VK → Prop) : Prop :=
  ∀ (pins : List (Addr × Obj)) (s : Shared) (σ : St) (H : Hp) (o i : V) (ov iv : Value) (Q : VK), Inv X pins σ H s → RelV o ov → RelV i iv → t o i H Q →
    wpAny (model X.prog X.w) X.A (getItem ov iv) (EP X pins σ Q) X.xe s
theorem ps_augS {o i e : Expr} {to ti te : TE} {tget : V → V → Hp → VK → Prop} {tip : TIp} {tset : TSet} {op : Operator} {tpos : Pos} (ho : PE X o to) (hi : PE X i ti) (hg : PGet X tget) (he : PE X e te) (hp : PIp X op tip) (hs : PSet X tset)
    (ha : ∀ ov iv new, augStore i ov iv new = (do holding [new, ov, iv] (setItem ov iv new); release [new, ov, iv] []; pure .next) := by intros; rfl) : PS X (.AugAssign (.Subscript o i tpos) op e pos) (tAugS to ti te tget tip tset) := by
  intro pins s σ H D I h
  refine wpAny_AugAssign_SubscriptAny (thn (ho pins s σ H _ I h) fun ov s1 ⟨x1, H1, I1, r1, q1⟩ => ?_) ha
  refine thn (hi pins s1 σ H1 _ I1 q1) fun iv s2 ⟨x2, H2, I2, r2, q2⟩ => ?_
  refine thn (hg pins s2 σ H2 x1 x2 ov iv _ I2 r1 r2 q2) fun old s3 ⟨x3, H3, I3, r3, q3⟩ => ?_
  refine thn (he pins s3 σ H3 _ I3 q3) fun v s4 ⟨x4, H4, I4, r4, q4⟩ => ?_
  refine thn (hp pins s4 σ H4 x3 x4 old v _ I4 r3 r4 q4) fun new s5 ⟨x5, H5, I5, r5, q5⟩ => ?_
  exact thn (hs pins s5 σ H5 x1 x2 x5 ov iv new _ I5 r1 r2 r5 q5) fun _ s6 ⟨H6, I6, q6⟩ => ⟨σ, H6, I6, q6⟩
/-- ints -/
def ipI (f : Int → Int → Int) : TIp := fun x y H Q => ∃ i j, x = .int i ∧ y = .int j ∧ Q (.int (f i j)) H
theorem ip_add : PIp X .Add (ipI fun i j => i + j) := by
  intro pins s σ H x y v u Q I r1 r2 h
  obtain ⟨i, j, e1, e2, q⟩ := h
  subst e1; subst e2
  obtain ⟨t, rfl⟩ := r1
  obtain ⟨t', rfl⟩ := r2
  exact iadd_int ⟨.int _, H, I.tok _, ⟨_, rfl⟩, q⟩
theorem ip_sub : PIp X .Sub (ipI fun i j => i - j) := by
  intro pins s σ H x y v u Q I r1 r2 h
  obtain ⟨i, j, e1, e2, q⟩ := h
  subst e1; subst e2
  obtain ⟨t, rfl⟩ := r1
  obtain ⟨t', rfl⟩ := r2
  exact isub_int ⟨.int _, H, I.tok _, ⟨_, rfl⟩, q⟩
end

/-! ### while -/
section
variable {X : Cx} {pos : Pos}
/-- the invariant W with its measure -/
def tWhile (c : TT) (tb : TS) : TS := fun D σ H => ∃ W : Nat → St → Hp → Prop, (∃ m, W m σ H) ∧ ∀ m σ H, W m σ H →
  c σ H fun b H1 => if b = true then ∃ N : St → Hp → Prop, (∀ σ' H', N σ' H' → ∃ m', m' < m ∧ W m' σ' H') ∧ tb { D with nx := N, ct := N, bk := D.nx } σ H1 else D.nx σ H1
theorem ps_while {c : Expr} {body : List Stmt} {tc : TT} {tb : TS} (hp : PassesOwn (model X.prog X.w) X.A X.env X.xe) (hc : PT X c tc) (hb : PSs X body tb) : PS X (.While c body [] pos) (tWhile tc tb) := by
  intro pins s σ H D I h
  obtain ⟨W, ⟨m0, w0⟩, turn⟩ := h
  refine wpAny_While (codeAny_whileLoop (fun n s' => ∃ σ' H', Inv X pins σ' H' s' ∧ W n σ' H') ?_ m0 ⟨σ, H, I, w0⟩)
  rintro n s1 ⟨σ1, H1, I1, w1⟩
  refine wpAny_passesOwn hp (thn (hc pins s1 σ1 H1 _ I1 (turn n σ1 H1 w1)) fun b s2 ⟨H2, I2, q2⟩ => ?_)
  cases b with
  | true =>
    obtain ⟨N, hN, q2⟩ := q2
    rw [if_pos rfl]
    refine wpAny_passesOwn hp (thn (hb pins s2 σ1 H2 _ I2 q2) fun f s3 q3 => ?_)
    cases f with
    | next =>
      obtain ⟨σ3, H3, I3, n3⟩ := q3
      obtain ⟨m', hm, w3⟩ := hN σ3 H3 n3
      exact ⟨m', hm, σ3, H3, I3, w3⟩
    | cont =>
      obtain ⟨σ3, H3, I3, n3⟩ := q3
      obtain ⟨m', hm, w3⟩ := hN σ3 H3 n3
      exact ⟨m', hm, σ3, H3, I3, w3⟩
    | brk => exact q3
    | ret v => exact q3
  | false =>
    rw [if_neg Bool.false_ne_true]
    exact wpAny_execs_nil ⟨σ1, H2, I2, q2⟩
end

/-! ### what a loop or a comprehension walks -/
/-- at turn i: it yields x (the heap may grow), or it stops -/
structure It where
  go : Nat → Hp → Prop
  yld : Nat → Hp → V → Hp → Prop
  stop : Nat → Hp → Prop
/-- the iterator's own objects may turn: they are not the frame's, not pinned, younger than the entry (or a comprehension's own) -/
def FpOk (X : Cx) (pins : List (Addr × Obj)) (H : Hp) (b : Addr) : Prop :=
  H b = none ∧ b ≠ X.env.locals ∧ b ∉ X.fs ∧ (b ∈ X.ex ∨ X.s₀.heap.objs.size ≤ b) ∧ (∀ x c, X.env.cells.lookup x = some c → c ≠ b) ∧ ∀ p ∈ X.pn ++ pins, p.1 ≠ b
theorem Inv.fpOk {X : Cx} {pins : List (Addr × Obj)} {σ : St} {H H' : Hp} {s : Shared} {b : Addr} (I : Inv X pins σ H s) (hb : s.heap.objs.size ≤ b) (hn : H' b = none) : FpOk X pins H' b := by
  refine ⟨hn, Nat.ne_of_gt (Nat.lt_of_lt_of_le I.lt hb), I.nofs hb, .inr (Nat.le_trans I.sz hb), fun x c e z => ?_, fun p hp z => ?_⟩
  · obtain ⟨v, q⟩ := I.cell x c e
    exact absurd (Nat.lt_of_lt_of_le q.lt (by rw [z]; exact hb)) (Nat.lt_irrefl _)
  · exact absurd (Nat.lt_of_lt_of_le (Heap.lt_size (I.pin p hp).1) (by rw [z]; exact hb)) (Nat.lt_irrefl _)
structure Turn (P : Program) (w : World) (K : PySem.W.Frag) (tg : Expr) (J : It) (fp : List Addr) (it : Addr) (tn : Nat → Heap → Prop) : Prop where
  mem : it ∈ fp
  obj : ∀ i h, tn i h → ∀ b ∈ fp, ∃ o, h.get? b = some o ∧ ∀ v, o.data ≠ .cell v
  keep : ∀ i h h', tn i h → (∀ b ∈ fp, ∀ o, h.get? b = some o → h'.get? b = some o) → tn i h'
  item : ∀ (X : Cx), X.prog = P → X.w = w → X.K = K → X.calm = true → ∀ (i : Nat) (pins : List (Addr × Obj)) (s : Shared) (σ : St) (H : Hp) (E : Value → Shared → Prop), Inv X pins σ H s → (∀ b ∈ fp, FpOk X pins H b) → tn i s.heap → J.go i H →
    wpAny (model P w) X.A (pyNext (.ref it)) (fun r s1 => ∃ u, r = some u ∧
      wpAny (model P w) X.A (letOwnedTupleGo tg (.ref it) u) (fun _ s2 => ∃ x H', Inv X pins σ H' s2 ∧ RelV x u ∧ J.yld i H x H' ∧ tn (i + 1) s2.heap ∧ ∀ b ∈ fp, H' b = none) E s1) E s
  done : ∀ (X : Cx), X.prog = P → X.w = w → X.K = K → X.calm = true → ∀ (i : Nat) (pins : List (Addr × Obj)) (s : Shared) (σ : St) (H : Hp) (E : Value → Shared → Prop), Inv X pins σ H s → (∀ b ∈ fp, FpOk X pins H b) → tn i s.heap → J.stop i H →
    wpAny (model P w) X.A (pyNext (.ref it)) (fun r s1 => r = none ∧ Inv X pins σ H s1) E s
  self : ∀ (A : Around) (i : Nat) (s : Shared) (Q : Value → Shared → Prop) (E : Value → Shared → Prop), tn i s.heap → Q (.ref it) s → wpAny (model P w) A (pyIter (.ref it)) Q E s
abbrev TI := St → Hp → (It → Hp → Prop) → Prop
/-- an iterator has come -/
def PIE (X : Cx) (pins : List (Addr × Obj)) (σ : St) (tg : Expr) (R : It → Hp → Prop) (itv : Value) (s2 : Shared) : Prop :=
  ∃ (it : Addr) (fp : List Addr) (tn : Nat → Heap → Prop) (J : It) (H' : Hp), itv = .ref it ∧ Inv X pins σ H' s2 ∧ Turn X.prog X.w X.K tg J fp it tn ∧ tn 0 s2.heap ∧ (∀ b ∈ fp, FpOk X pins H' b) ∧ R J H'
def PI (X : Cx) (tg iter : Expr) (wi : TI) : Prop :=
  ∀ (pins : List (Addr × Obj)) (s : Shared) (σ : St) (H : Hp) (R : It → Hp → Prop), Inv X pins σ H s → wi σ H R →
    wpAny (model X.prog X.w) X.A (eval iter X.env) (fun v s1 => wpAny (model X.prog X.w) X.A (pyIter v) (PIE X pins σ tg R) X.xe s1) X.xe s

/-- the step ahead of the store is nothing for an iterator that keeps no tuple -/
theorem go_of {M : Model} {A : Around} {E : Value → Shared → Prop} {s : Shared} {tg : Expr} {it : Addr} {u : Value} {o : Obj} {n : String} {vs : Array Value} {Q : Unit → Shared → Prop} (ho : s.heap.get? it = some o) (hc : o.cls = .type n) (hd : o.data = .fields vs)
    (hn : ["enumerate", "zip", "dict_itemiterator", "dict_reverseitemiterator", "odict_iterator", "itertools.zip_longest", "itertools.pairwise"].contains n = false) (hQ : Q () s) : wpAny M A (letOwnedTupleGo tg (.ref it) u) Q E s := by
  unfold letOwnedTupleGo
  cases tg <;> first
    | exact wpAny_pure hQ
    | (cases u <;> first
        | exact wpAny_pure hQ
        | (refine wpAny_bind (wpAny_load ho ?_)
           rw [hc, hd]
           show wpAny M A (if (["enumerate", "zip", "dict_itemiterator", "dict_reverseitemiterator", "odict_iterator", "itertools.zip_longest", "itertools.pairwise"].contains n && vs[0]? == some (rawInt _)) = true then _ else _) Q E s
           rw [if_neg (by intro h; rw [hn, Bool.false_and] at h; cases h)]
           exact wpAny_pure hQ))

/-- the list at a, as it stands at each turn (a loop may append to it) -/
def Itl (K : PySem.W.Frag) (a : Addr) : It :=
  ⟨fun i H => ∃ xs x, SqL K H a xs ∧ xs[i]? = some x, fun i H x H' => H' = H ∧ ∀ xs, SqL K H a xs → xs[i]? = some x, fun i H => ∃ xs, SqL K H a xs ∧ xs.length ≤ i⟩
def Itt (K : PySem.W.Frag) (a : Addr) : It :=
  ⟨fun i H => ∃ xs x, SqT K H a xs ∧ xs[i]? = some x, fun i H x H' => H' = H ∧ ∀ xs, SqT K H a xs → xs[i]? = some x, fun i H => ∃ xs, SqT K H a xs ∧ xs.length ≤ i⟩
/-- lo, lo + 1, .. (n of them) -/
def Itr (lo : Int) (n : Nat) : It := ⟨fun i _ => i < n, fun i H x H' => H' = H ∧ x = .int (lo + i), fun i _ => n ≤ i⟩
theorem turn_list {P : Program} {w : World} {K : PySem.W.Frag} {tg : Expr} (a it : Addr) : Turn P w K tg (Itl K a) [it] it (fun i h => h.IsListIter it a i) where
  mem := by simp
  obj := fun i h st b hb => by
    have e : b = it := by simpa using hb
    subst e
    obtain ⟨o, e, c, d⟩ := st
    exact ⟨o, e, fun v z => by rw [d] at z; cases z⟩
  keep := fun i h h' st k => st.at fun o e => k it (by simp) o e
  item := by
    intro X hP hw hK hc i pins s σ H E I hf st hg
    subst hP hw hK
    obtain ⟨xs, x, hq, hx⟩ := hg
    obtain ⟨its, rv, p, hz⟩ := I.list hq
    obtain ⟨u, hu, ru⟩ := rv.get hx
    obtain ⟨f0, f1, f2, f3, f4, f5⟩ := hf it (by simp)
    refine wpAny_pyNext_list_item st p.isList (x := u) (by simpa using hu) fun h' st' sb => ?_
    have I1 : Inv X pins σ H { s with heap := h' } := I.turned (t' := s.toks) (fun b o hb e => (sb.2 b hb).trans e) f0 f1 f3 f4 f5
    obtain ⟨o, e, c, d⟩ := id st'
    exact ⟨u, rfl, go_of (s := { s with heap := h' }) e c d (by decide) ⟨x, H, I1, ru, ⟨rfl, fun ys hy => by rw [I.list_inj hy hq]; exact hx⟩, st', fun b hb => (hf b hb).1⟩⟩
  done := by
    intro X hP hw hK hc i pins s σ H E I hf st hg
    subst hP hw hK
    obtain ⟨xs, hq, hx⟩ := hg
    obtain ⟨its, rv, p, hz⟩ := I.list hq
    obtain ⟨f0, f1, f2, f3, f4, f5⟩ := hf it (by simp)
    have hl := rv.length
    exact wpAny_pyNext_list_end (I.ok.hd hc) st p.isList (by simp; omega) fun h' eb => ⟨rfl, I.turned (t' := s.toks) (fun b o hb e => eb b o hb e) f0 f1 f3 f4 f5⟩
  self := fun _ _ _ _ _ st h => wpAny_pyIter_listiter st h
theorem turn_tuple {P : Program} {w : World} {K : PySem.W.Frag} {tg : Expr} (a it : Addr) : Turn P w K tg (Itt K a) [it] it (fun i h => h.IsTupleIter it a i) where
  mem := by simp
  obj := fun i h st b hb => by
    have e : b = it := by simpa using hb
    subst e
    obtain ⟨o, e, c, d⟩ := st
    exact ⟨o, e, fun v z => by rw [d] at z; cases z⟩
  keep := fun i h h' st k => st.at fun o e => k it (by simp) o e
  item := by
    intro X hP hw hK hc i pins s σ H E I hf st hg
    subst hP hw hK
    obtain ⟨xs, x, hq, hx⟩ := hg
    obtain ⟨its, rv, p, hz⟩ := I.tuple hq
    obtain ⟨u, hu, ru⟩ := rv.get hx
    obtain ⟨f0, f1, f2, f3, f4, f5⟩ := hf it (by simp)
    refine wpAny_pyNext_tuple_item st (show s.heap.IsTuple a its.toArray from p) (x := u) (by simpa using hu) fun h' st' sb => ?_
    have I1 : Inv X pins σ H { s with heap := h' } := I.turned (t' := s.toks) (fun b o hb e => (sb.2 b hb).trans e) f0 f1 f3 f4 f5
    obtain ⟨o, e, c, d⟩ := id st'
    exact ⟨u, rfl, go_of (s := { s with heap := h' }) e c d (by decide) ⟨x, H, I1, ru, ⟨rfl, fun ys hy => by rw [I.tuple_inj hy hq]; exact hx⟩, st', fun b hb => (hf b hb).1⟩⟩
  done := by
    intro X hP hw hK hc i pins s σ H E I hf st hg
    subst hP hw hK
    obtain ⟨xs, hq, hx⟩ := hg
    obtain ⟨its, rv, p, hz⟩ := I.tuple hq
    obtain ⟨f0, f1, f2, f3, f4, f5⟩ := hf it (by simp)
    have hl := rv.length
    exact wpAny_pyNext_tuple_end (I.ok.hd hc) st (show s.heap.IsTuple a its.toArray from p) (by simp; omega) fun h' eb => ⟨rfl, I.turned (t' := s.toks) (fun b o hb e => eb b o hb e) f0 f1 f3 f4 f5⟩
  self := fun _ _ _ _ _ st h => wpAny_pyIter_tupleiter st h
theorem turn_range {P : Program} {w : World} {K : PySem.W.Frag} {tg : Expr} (it : Addr) (lo : Int) (n : Nat) : Turn P w K tg (Itr lo n) [it] it (fun i h => IsRangeIter h it (lo + (i : Nat) * 1) ((n : Int) - (i : Nat)) 1) where
  mem := by simp
  obj := fun i h st b hb => by
    have e : b = it := by simpa using hb
    subst e
    exact ⟨_, st, fun v z => by
      have z' : Data.fields _ = Data.cell v := z
      cases z'⟩
  keep := fun i h h' st k => k it (by simp) _ st
  item := by
    intro X hP hw hK hc i pins s σ H E I hf st hg
    subst hP hw hK
    obtain ⟨f0, f1, f2, f3, f4, f5⟩ := hf it (by simp)
    have W := Walks.range (prog := X.prog) (w := X.w) (I.ok.hd hc) it lo 1 n
    refine W.item i s _ _ hg st fun v h' tk hv st' kk => ?_
    obtain ⟨t, rfl⟩ := hv
    have I1 : Inv X pins σ H { s with heap := h', toks := tk } := I.turned (fun b o hb e => kk b o (by simpa using hb) e) f0 f1 f3 f4 f5
    refine ⟨_, rfl, go_of (s := { s with heap := h', toks := tk }) (n := "range_iterator") st' rfl rfl (by decide) ⟨.int (lo + i), H, I1, ⟨t, ?_⟩, ⟨rfl, rfl⟩, st', fun b hb => (hf b hb).1⟩⟩
    rw [Int.mul_one]
  done := by
    intro X hP hw hK hc i pins s σ H E I hf st hg
    subst hP hw hK
    obtain ⟨f0, f1, f2, f3, f4, f5⟩ := hf it (by simp)
    exact wpAny_pyNext_range_end (I.ok.hd hc) st (by have : n ≤ i := hg; omega) fun h' eb => ⟨rfl, I.turned (t' := s.toks) (fun b o hb e => eb b o hb e) f0 f1 f3 f4 f5⟩
  self := fun _ _ _ _ _ st h => wpAny_pyIter_rangeiter st h
end L2

namespace L2
open PySem PySem.Spec PyProof.Rows
section
variable {X : Cx} {tg : Expr}
def iList (K : PySem.W.Frag) (tl : TE) : TI := fun σ H R => tl σ H fun x H1 => ∃ a, x = .ref a ∧ (∃ xs, SqL K H1 a xs) ∧ R (Itl K a) H1
def iTup (K : PySem.W.Frag) (tl : TE) : TI := fun σ H R => tl σ H fun x H1 => ∃ a, x = .ref a ∧ (∃ xs, SqT K H1 a xs) ∧ R (Itt K a) H1
theorem pi_list {l : Expr} {tl : TE} (hl : PE X l tl) : PI X tg l (iList X.K tl) := by
  intro pins s σ H R I h
  refine thn (hl pins s σ H _ I h) fun v s1 ⟨x, H1, I1, r1, q1⟩ => ?_
  obtain ⟨a, e, ⟨xs, hq⟩, q⟩ := q1
  subst e
  cases r1
  obtain ⟨its, rv, p, hz⟩ := I1.list hq
  refine wpAny_pyIter_list p.isList ?_
  refine ⟨s1.heap.objs.size, [s1.heap.objs.size], _, _, H1, rfl, I1.kept (t' := s1.toks) fun b o e => Heap.get?_push_of_some _ e, turn_list a _, ⟨_, Heap.get?_push_size _ rfl, rfl, rfl⟩, fun b hb => ?_, q⟩
  have e : b = s1.heap.objs.size := by simpa using hb
  subst e
  exact I1.fpOk (Nat.le_refl _) (I1.hok.fresh (Nat.le_refl _))
theorem pi_tup {l : Expr} {tl : TE} (hl : PE X l tl) : PI X tg l (iTup X.K tl) := by
  intro pins s σ H R I h
  refine thn (hl pins s σ H _ I h) fun v s1 ⟨x, H1, I1, r1, q1⟩ => ?_
  obtain ⟨a, e, ⟨xs, hq⟩, q⟩ := q1
  subst e
  cases r1
  obtain ⟨its, rv, p, hz⟩ := I1.tuple hq
  refine wpAny_pyIter_tuple (show s1.heap.IsTuple a its.toArray from p) ?_
  refine ⟨s1.heap.objs.size, [s1.heap.objs.size], _, _, H1, rfl, I1.kept (t' := s1.toks) fun b o e => Heap.get?_push_of_some _ e, turn_tuple a _, ⟨_, Heap.get?_push_size _ rfl, rfl, rfl⟩, fun b hb => ?_, q⟩
  have e : b = s1.heap.objs.size := by simpa using hb
  subst e
  exact I1.fpOk (Nat.le_refl _) (I1.hok.fresh (Nat.le_refl _))
/-- a range object just made, walked -/
theorem range_it {pins : List (Addr × Obj)} {σ : St} {H : Hp} {s : Shared} {R : It → Hp → Prop} {E : Value → Shared → Prop} {lo hi : Int} {t u v : Tok} {tk : Nat} (I : Inv X pins σ H s) (h1 : -(2 ^ 62) ≤ lo) (h2 : lo < 2 ^ 62) (h3 : -(2 ^ 62) ≤ hi) (h4 : hi < 2 ^ 62)
    (q : R (Itr lo (hi - lo).toNat) H) : wpAny (model X.prog X.w) X.A (pyIter (.ref s.heap.objs.size)) (PIE X pins σ tg R) E { s with heap := s.heap.push { cls := .type "range", data := .fields #[.int lo t, .int hi u, .int 1 v] }, toks := tk } := by
  refine wpAny_pyIter_range (IsRange.new ..) (small_one h1 h2 h3 h4) ?_
  have I1 : Inv X pins σ H { s with heap := s.heap.push { cls := .type "range", data := .fields #[.int lo t, .int hi u, .int 1 v] }, toks := tk } := I.kept fun b o e => Heap.get?_push_of_some _ e
  refine ⟨(s.heap.push { cls := .type "range", data := .fields #[.int lo t, .int hi u, .int 1 v] }).objs.size, [(s.heap.push { cls := .type "range", data := .fields #[.int lo t, .int hi u, .int 1 v] }).objs.size], _, _, H, rfl,
    I1.kept (t' := tk) fun b o e => Heap.get?_push_of_some _ e, turn_range _ lo (hi - lo).toNat, ?_, fun b hb => ?_, q⟩
  · have e1 : lo + ((0 : Nat) : Int) * 1 = lo := by simp
    have e2 : (((hi - lo).toNat : Nat) : Int) - ((0 : Nat) : Int) = Builtin.Range.rangeSize lo hi 1 := by rw [rangeSize_one]; split <;> omega
    show IsRangeIter _ _ (lo + ((0 : Nat) : Int) * 1) ((((hi - lo).toNat : Nat) : Int) - ((0 : Nat) : Int)) 1
    rw [e1, e2]
    exact Heap.get?_push_size _ rfl
  · have e : b = (s.heap.push { cls := .type "range", data := .fields #[.int lo t, .int hi u, .int 1 v] }).objs.size := by simpa using hb
    subst e
    exact I1.fpOk (Nat.le_refl _) (I1.hok.fresh (Nat.le_refl _))
def iRng1 (ta : TA) : TI := fun σ H R => ta σ H fun vs H1 => ∃ j : Int, vs = [.int j] ∧ -(2 ^ 62) ≤ j ∧ j < 2 ^ 62 ∧ R (Itr 0 j.toNat) H1
def iRng2 (ta : TA) : TI := fun σ H R => ta σ H fun vs H1 => ∃ i j : Int, vs = [.int i, .int j] ∧ (-(2 ^ 62) ≤ i ∧ i < 2 ^ 62 ∧ -(2 ^ 62) ≤ j ∧ j < 2 ^ 62) ∧ R (Itr i (j - i).toNat) H1
theorem pi_range1 {a : Expr} {ta : TA} {p pos : Pos} (hg : Gl X "range") (hm : X.mg "range" = none) (ha : PA X [a] ta) (hs : starEach [a] X.env = [(false, eval a X.env)] := by rfl) : PI X tg (.Call (.Name "range" p) [a] [] pos) (iRng1 ta) := by
  intro pins s σ H R I h
  refine Call_ (ld_blt I hg hm boot_range (PyProof.Rows.callWith_type1 (thn (ha pos pins s σ H _ I h) fun us s1 ⟨vs, H1, I1, r1, q1⟩ => ?_) hs rfl))
  obtain ⟨j, e, q1, q2, q⟩ := q1
  subst e
  cases r1 with
  | cons r rr =>
    cases rr
    obtain ⟨t, rfl⟩ := r
    exact call_range_1 (range_it I1 (by omega) (by omega) q1 q2 (by simpa using q))
theorem pi_range2 {a b : Expr} {ta : TA} {p pos : Pos} (hg : Gl X "range") (hm : X.mg "range" = none) (ha : PA X [a, b] ta) (hs : starEach [a, b] X.env = [(false, eval a X.env), (false, eval b X.env)] := by rfl) (hs2 : starEach [b] X.env = [(false, eval b X.env)] := by rfl) :
    PI X tg (.Call (.Name "range" p) [a, b] [] pos) (iRng2 ta) := by
  intro pins s σ H R I h
  refine Call_ (ld_blt I hg hm boot_range (PyProof.Rows.callWith_type1 (thn (ha pos pins s σ H _ I h) fun us s1 ⟨vs, H1, I1, r1, q1⟩ => ?_) (by rw [hs, hs2]) (by rw [hs2]; rfl)))
  obtain ⟨i, j, e, ⟨q1, q2, q3, q4⟩, q⟩ := q1
  subst e
  cases r1 with
  | cons r rr =>
    cases rr with
    | cons r' rr =>
      cases rr
      obtain ⟨t, rfl⟩ := r
      obtain ⟨t', rfl⟩ := r'
      exact call_range_2 (range_it I1 q1 q2 q3 q4 q)

/-! ### for -/
/-- W: the invariant by the turn and a measure; N: what the body is to reach -/
def tFor (wi : TI) (g : TG) (tb : TS) : TS := fun D σ H => wi σ H fun J H1 => ∃ W : Nat → Nat → St → Hp → Prop, (∃ m, W 0 m σ H1) ∧ ∀ i m σ H, W i m σ H →
  (J.stop i H ∧ D.nx σ H) ∨ (J.go i H ∧ ∃ N : St → Hp → Prop, (∀ σ' H', N σ' H' → ∃ m', m' < m ∧ W (i + 1) m' σ' H') ∧ ∀ x H', J.yld i H x H' → g x σ H' fun σ2 H2 => tb { D with nx := N, ct := N, bk := D.nx } σ2 H2)
/-- the records at fp as they stand -/
def pinsAt (fp : List Addr) (h : Heap) : List (Addr × Obj) := fp.filterMap fun b => (h.get? b).map fun o => (b, o)
theorem mem_pinsAt {fp : List Addr} {h : Heap} {b : Addr} {o : Obj} (hb : b ∈ fp) (e : h.get? b = some o) : (b, o) ∈ pinsAt fp h := List.mem_filterMap.mpr ⟨b, hb, by rw [e]; rfl⟩
theorem of_pinsAt {fp : List Addr} {h : Heap} {p : Addr × Obj} (hp : p ∈ pinsAt fp h) : p.1 ∈ fp ∧ h.get? p.1 = some p.2 := by
  obtain ⟨b, hb, e⟩ := List.mem_filterMap.mp hp
  cases q : h.get? b with
  | none => rw [q] at e; cases e
  | some o =>
    rw [q] at e
    have e' : (b, o) = p := Option.some.inj e
    subst e'
    exact ⟨hb, q⟩
theorem Inv.pinned {pins : List (Addr × Obj)} {σ : St} {H : Hp} {s : Shared} {fp : List Addr} (I : Inv X pins σ H s) (hf : ∀ b ∈ fp, FpOk X pins H b) (ho : ∀ b ∈ fp, ∃ o, s.heap.get? b = some o ∧ ∀ v, o.data ≠ .cell v) : Inv X (pins ++ pinsAt fp s.heap) σ H s :=
  I.pins_of fun p hp => (List.mem_append.mp hp).elim (fun z => I.pin p (List.mem_append_right _ z)) fun z => by
    obtain ⟨hb, e⟩ := of_pinsAt z
    obtain ⟨f0, f1, f2, _⟩ := hf p.1 hb
    obtain ⟨o, e', d⟩ := ho p.1 hb
    rw [e] at e'; cases e'
    exact ⟨e, f0, f1, f2, d⟩
theorem Inv.unpinned {pins pl : List (Addr × Obj)} {σ : St} {H : Hp} {s : Shared} (I : Inv X (pins ++ pl) σ H s) : Inv X pins σ H s := I.pins_of fun p hp => I.pin p (List.mem_append_right _ (List.mem_append_left _ hp))
theorem ps_for {iter : Expr} {body : List Stmt} {wi : TI} {g : TG} {tb : TS} {pos : Pos} (hp : PassesOwn (model X.prog X.w) X.A X.env X.xe) (hc : X.calm = true) (hi : PI X tg iter wi) (hg : PG X tg g) (hb : PSs X body tb)
    (hs : ∀ x, foldedSetIterable iter X.env x = pure x := by intro _; rfl) : PS X (.For tg iter body [] pos) (tFor wi g tb) := by
  intro pins s σ H D I h
  refine wpAny_For (thn (hi pins s σ H _ I h) fun v s1 h1 => thn h1 fun itv s2 h2 => ?_) hs
  obtain ⟨it, fp, tn, J, H2, e, I2, T, st2, f2, W, ⟨m0, w0⟩, turn⟩ := h2
  subst e
  -- what stays true of the iterator's objects through the loop
  have stat : ∀ {H' : Hp}, (∀ b ∈ fp, H' b = none) → ∀ b ∈ fp, FpOk X pins H' b := fun hn b hb => ⟨hn b hb, (f2 b hb).2⟩
  refine codeAny_forLoop_any (fun n s' => ∃ i σ' H', Inv X pins σ' H' s' ∧ tn i s'.heap ∧ (∀ b ∈ fp, H' b = none) ∧ W i n σ' H') ?_ m0 ⟨0, σ, H2, I2, st2, fun b hb => (f2 b hb).1, w0⟩
  rintro n s3 ⟨i, σ3, H3, I3, st3, fr3, w3⟩
  rcases turn i n σ3 H3 w3 with ⟨stop, qn⟩ | ⟨go, N, hN, step⟩
  · refine wpAny_passesOwn hp (thn (T.done X rfl rfl rfl hc i pins s3 σ3 H3 X.xe I3 (stat fr3) st3 stop) fun r s4 ⟨hr, I4⟩ => ?_)
    subst hr
    exact wpAny_execs_nil ⟨σ3, H3, I4, qn⟩
  · refine wpAny_passesOwn hp (thn (T.item X rfl rfl rfl hc i pins s3 σ3 H3 X.xe I3 (stat fr3) st3 go) fun r s4 ⟨u, hr, h4⟩ => ?_)
    subst hr
    refine wpAny_passesOwn hp (thn h4 fun _ s5 ⟨x, H5, I5, r5, y5, st5, fr5⟩ => ?_)
    have I5' := I5.pinned (stat fr5) (T.obj _ _ st5)
    refine wpAny_passesOwn hp (thn (hg _ s5 σ3 H5 x u _ I5' r5 (step x H5 y5)) fun _ s6 ⟨σ6, H6, I6, q6⟩ => ?_)
    refine wpAny_passesOwn hp (thn (hb _ s6 σ6 H6 _ I6 q6) fun f s7 q7 => ?_)
    have again : ∀ {σ7 : St} {H7 : Hp}, Inv X (pins ++ pinsAt fp s5.heap) σ7 H7 s7 → N σ7 H7 → ∃ m, m < n ∧ ∃ i σ' H', Inv X pins σ' H' s7 ∧ tn i s7.heap ∧ (∀ b ∈ fp, H' b = none) ∧ W i m σ' H' := fun {σ7 H7} I7 n7 => by
      obtain ⟨m', hm, w7⟩ := hN σ7 H7 n7
      refine ⟨m', hm, i + 1, σ7, H7, I7.unpinned, T.keep _ _ _ st5 fun b hb o e => (I7.pin (b, o) (List.mem_append_right _ (List.mem_append_right _ (mem_pinsAt hb e)))).1, fun b hb => ?_, w7⟩
      obtain ⟨o, e, d⟩ := T.obj _ _ st5 b hb
      exact (I7.pin (b, o) (List.mem_append_right _ (List.mem_append_right _ (mem_pinsAt hb e)))).2.1
    cases f with
    | next => obtain ⟨σ7, H7, I7, n7⟩ := q7; exact again I7 n7
    | cont => obtain ⟨σ7, H7, I7, n7⟩ := q7; exact again I7 n7
    | brk => obtain ⟨σ7, H7, I7, q7⟩ := q7; exact ⟨σ7, H7, I7.unpinned, q7⟩
    | ret v => obtain ⟨x7, σ7, H7, I7, r7, q7⟩ := q7; exact ⟨x7, σ7, H7, I7.unpinned, r7, q7⟩
end

/-! ### the forms one uses -/
/-- over a list that the body leaves as it is -/
theorem for_list {K : PySem.W.Frag} {a : Addr} {xs : List V} {g : TG} {tb : TS} {D : Ends} {σ : St} {H : Hp} (Pv : Nat → St → Hp → Prop) (h0 : Pv 0 σ H) (hl : ∀ i σ H, i ≤ xs.length → Pv i σ H → SqL K H a xs)
    (hs : ∀ i x σ H, xs[i]? = some x → Pv i σ H → g x σ H fun σ2 H2 => tb { D with nx := Pv (i + 1), ct := Pv (i + 1), bk := D.nx } σ2 H2) (hd : ∀ σ H, Pv xs.length σ H → D.nx σ H) :
    ∃ W : Nat → Nat → St → Hp → Prop, (∃ m, W 0 m σ H) ∧ ∀ i m σ H, W i m σ H →
      ((Itl K a).stop i H ∧ D.nx σ H) ∨ ((Itl K a).go i H ∧ ∃ N : St → Hp → Prop, (∀ σ' H', N σ' H' → ∃ m', m' < m ∧ W (i + 1) m' σ' H') ∧ ∀ x H', (Itl K a).yld i H x H' → g x σ H' fun σ2 H2 => tb { D with nx := N, ct := N, bk := D.nx } σ2 H2) := by
  refine ⟨fun i m σ H => m = xs.length - i ∧ i ≤ xs.length ∧ Pv i σ H, ⟨xs.length, by simp, Nat.zero_le _, h0⟩, ?_⟩
  rintro i m σ H ⟨rfl, hi, p⟩
  have q := hl i σ H hi p
  by_cases hlt : i < xs.length
  · refine .inr ⟨⟨xs, xs[i], q, by simp [hlt]⟩, Pv (i + 1), fun σ' H' p' => ⟨xs.length - (i + 1), by omega, rfl, hlt, p'⟩, fun x H' y => ?_⟩
    obtain ⟨e, y⟩ := y
    subst e
    exact hs i x σ _ (y xs q) p
  · have e : i = xs.length := by omega
    subst e
    exact .inl ⟨⟨xs, q, Nat.le_refl _⟩, hd σ H p⟩
theorem for_tup {K : PySem.W.Frag} {a : Addr} {xs : List V} {g : TG} {tb : TS} {D : Ends} {σ : St} {H : Hp} (Pv : Nat → St → Hp → Prop) (h0 : Pv 0 σ H) (hl : ∀ i σ H, i ≤ xs.length → Pv i σ H → SqT K H a xs)
    (hs : ∀ i x σ H, xs[i]? = some x → Pv i σ H → g x σ H fun σ2 H2 => tb { D with nx := Pv (i + 1), ct := Pv (i + 1), bk := D.nx } σ2 H2) (hd : ∀ σ H, Pv xs.length σ H → D.nx σ H) :
    ∃ W : Nat → Nat → St → Hp → Prop, (∃ m, W 0 m σ H) ∧ ∀ i m σ H, W i m σ H →
      ((Itt K a).stop i H ∧ D.nx σ H) ∨ ((Itt K a).go i H ∧ ∃ N : St → Hp → Prop, (∀ σ' H', N σ' H' → ∃ m', m' < m ∧ W (i + 1) m' σ' H') ∧ ∀ x H', (Itt K a).yld i H x H' → g x σ H' fun σ2 H2 => tb { D with nx := N, ct := N, bk := D.nx } σ2 H2) := by
  refine ⟨fun i m σ H => m = xs.length - i ∧ i ≤ xs.length ∧ Pv i σ H, ⟨xs.length, by simp, Nat.zero_le _, h0⟩, ?_⟩
  rintro i m σ H ⟨rfl, hi, p⟩
  have q := hl i σ H hi p
  by_cases hlt : i < xs.length
  · refine .inr ⟨⟨xs, xs[i], q, by simp [hlt]⟩, Pv (i + 1), fun σ' H' p' => ⟨xs.length - (i + 1), by omega, rfl, hlt, p'⟩, fun x H' y => ?_⟩
    obtain ⟨e, y⟩ := y
    subst e
    exact hs i x σ _ (y xs q) p
  · have e : i = xs.length := by omega
    subst e
    exact .inl ⟨⟨xs, q, Nat.le_refl _⟩, hd σ H p⟩
theorem for_range {lo : Int} {n : Nat} {g : TG} {tb : TS} {D : Ends} {σ : St} {H : Hp} (Pv : Nat → St → Hp → Prop) (h0 : Pv 0 σ H)
    (hs : ∀ i σ H, i < n → Pv i σ H → g (.int (lo + i)) σ H fun σ2 H2 => tb { D with nx := Pv (i + 1), ct := Pv (i + 1), bk := D.nx } σ2 H2) (hd : ∀ σ H, Pv n σ H → D.nx σ H) :
    ∃ W : Nat → Nat → St → Hp → Prop, (∃ m, W 0 m σ H) ∧ ∀ i m σ H, W i m σ H →
      ((Itr lo n).stop i H ∧ D.nx σ H) ∨ ((Itr lo n).go i H ∧ ∃ N : St → Hp → Prop, (∀ σ' H', N σ' H' → ∃ m', m' < m ∧ W (i + 1) m' σ' H') ∧ ∀ x H', (Itr lo n).yld i H x H' → g x σ H' fun σ2 H2 => tb { D with nx := N, ct := N, bk := D.nx } σ2 H2) := by
  refine ⟨fun i m σ H => m = n - i ∧ i ≤ n ∧ Pv i σ H, ⟨n, by simp, Nat.zero_le _, h0⟩, ?_⟩
  rintro i m σ H ⟨rfl, hi, p⟩
  by_cases hlt : i < n
  · refine .inr ⟨hlt, Pv (i + 1), fun σ' H' p' => ⟨n - (i + 1), by omega, rfl, hlt, p'⟩, fun x H' y => ?_⟩
    obtain ⟨e, y⟩ := y
    subst e y
    exact hs i σ _ hlt p
  · have e : i = n := by omega
    subst e
    exact .inl ⟨Nat.le_refl _, hd σ H p⟩
/-- while, by a word and a measure of the state -/
theorem while_by {c : TT} {tb : TS} {D : Ends} {σ : St} {H : Hp} (Pv : St → Hp → Prop) (μ : St → Hp → Nat) (h0 : Pv σ H)
    (hs : ∀ σ H, Pv σ H → c σ H fun b H1 => if b = true then tb { D with nx := fun σ' H' => Pv σ' H' ∧ μ σ' H' < μ σ H, ct := fun σ' H' => Pv σ' H' ∧ μ σ' H' < μ σ H, bk := D.nx } σ H1 else D.nx σ H1)
    (mono : ∀ σ H Q Q', (∀ b H1, Q b H1 → Q' b H1) → c σ H Q → c σ H Q') : tWhile c tb D σ H := by
  refine ⟨fun m σ H => m = μ σ H ∧ Pv σ H, ⟨_, rfl, h0⟩, ?_⟩
  rintro m σ H ⟨rfl, p⟩
  refine mono σ H _ _ (fun b H1 q => ?_) (hs σ H p)
  cases b with
  | true => exact ⟨_, fun σ' H' ⟨p', l⟩ => ⟨_, l, rfl, p'⟩, q⟩
  | false => exact q
end L2

namespace L2
open PySem PySem.Spec PyProof.Rows

abbrev R2 := V → V → Hp → VK → Prop
/-- a two-place operation on values: f is binaryOp op, inplaceOp op or compareOp op -/
def OpR (X : Cx) (f : Value → Value → Sem Value) (r : R2) : Prop :=
  ∀ (pins : List (Addr × Obj)) (s : Shared) (σ : St) (H : Hp) (x y : V) (v u : Value) (Q : VK), Inv X pins σ H s → RelV x v → RelV y u → r x y H Q →
    wpAny (model X.prog X.w) X.A (f v u) (EP X pins σ Q) X.xe s
/-- a one-place operation -/
def UnR (X : Cx) (f : Value → Sem Value) (r : V → Hp → VK → Prop) : Prop :=
  ∀ (pins : List (Addr × Obj)) (s : Shared) (σ : St) (H : Hp) (x : V) (v : Value) (Q : VK), Inv X pins σ H s → RelV x v → r x H Q →
    wpAny (model X.prog X.w) X.A (f v) (EP X pins σ Q) X.xe s
/-- a call of a value that is known (a builtin, a type) with values -/
def CallR (X : Cx) (f : Value) (r : List V → Hp → VK → Prop) : Prop :=
  ∀ (pins : List (Addr × Obj)) (s : Shared) (σ : St) (H : Hp) (xs : List V) (us : List Value) (Q : VK), Inv X pins σ H s → Vals xs us → r xs H Q →
    wpAny (model X.prog X.w) X.A (call f us) (EP X pins σ Q) X.xe s
/-- a value's truth -/
def TruR (X : Cx) (r : V → Hp → (Bool → Hp → Prop) → Prop) : Prop :=
  ∀ (pins : List (Addr × Obj)) (s : Shared) (σ : St) (H : Hp) (x : V) (v : Value) (Q : Bool → Hp → Prop), Inv X pins σ H s → RelV x v → r x H Q →
    wpAny (model X.prog X.w) X.A (truthy v) (TP X pins σ Q) X.xe s

def tOp (r : R2) (ta tb : TE) : TE := fun σ H Q => ta σ H fun x H1 => tb σ H1 fun y H2 => r x y H2 Q
def tUn (r : V → Hp → VK → Prop) (ta : TE) : TE := fun σ H Q => ta σ H fun x H1 => r x H1 Q
/-- ints in, under C, and a value out -/
def rI (C : Int → Int → Prop) (g : Int → Int → V) : R2 := fun x y H Q => ∃ i j, x = .int i ∧ y = .int j ∧ C i j ∧ Q (g i j) H
def rI0 (g : Int → Int → V) : R2 := fun x y H Q => ∃ i j, x = .int i ∧ y = .int j ∧ Q (g i j) H
def rU (g : Int → V) : V → Hp → VK → Prop := fun x H Q => ∃ i, x = .int i ∧ Q (g i) H

section
variable {X : Cx} {a b c : Expr} {ta tb tc : TE} {pos : Pos}

theorem binT (ha : PE X a ta) (hb : PE X b tb) {pins : List (Addr × Obj)} {s : Shared} {σ : St} {H : Hp} {R : V → V → Hp → Prop} (I : Inv X pins σ H s)
    (h : ta σ H fun x H1 => tb σ H1 fun y H2 => R x y H2) {Q : Value → Shared → Prop} {f : Value → Value → Sem Value}
    (hf : ∀ v u s2 x y H2, Inv X pins σ H2 s2 → RelV x v → RelV y u → R x y H2 → wpAny (model X.prog X.w) X.A (f v u) Q X.xe s2) :
    wpAny (model X.prog X.w) X.A (eval a X.env) (fun v s₁ => wpAny (model X.prog X.w) X.A (eval b X.env) (fun u s₂ => wpAny (model X.prog X.w) X.A (f v u) Q X.xe s₂) X.xe s₁) X.xe s := by
  refine thn (ha pins s σ H _ I h) fun v s1 ⟨x, H1, I1, r1, q1⟩ => ?_
  refine thn (hb pins s1 σ H1 _ I1 q1) fun u s2 ⟨y, H2, I2, r2, q2⟩ => ?_
  exact hf v u s2 x y H2 I2 r1 r2 q2

theorem pe_op {op : Operator} {r : R2} (ho : OpR X (binaryOp op) r) (ha : PE X a ta) (hb : PE X b tb) : PE X (.BinOp a op b pos) (tOp r ta tb) := by
  intro pins s σ H Q I h
  exact wpAny_BinOp (binT ha hb I h fun v u s2 x y H2 I2 rx ry q => ho pins s2 σ H2 x y v u Q I2 rx ry q)
theorem pe_un {op : UnaryOp} {r : V → Hp → VK → Prop} (ho : UnR X (unaryOp op) r) (ha : PE X a ta) : PE X (.UnaryOp op a pos) (tUn r ta) := by
  intro pins s σ H Q I h
  exact UnaryOp_ (thn (ha pins s σ H _ I h) fun v s1 ⟨x, H1, I1, r1, q1⟩ => ho pins s1 σ H1 x v Q I1 r1 q1)
/-- a op= e at a name: the name's slot i -/
theorem augR {op : Operator} {r : R2} (ho : OpR X (inplaceOp op) r) {pins : List (Addr × Obj)} {s : Shared} {σ : St} {H : Hp} {x y : V} {v u : Value} {Q : VK} (I : Inv X pins σ H s)
    (rx : RelV x v) (ry : RelV y u) (q : r x y H Q) : wpAny (model X.prog X.w) X.A (inplaceOp op v u) (EP X pins σ Q) X.xe s := ho pins s σ H x y v u Q I rx ry q

/-! ### ints -/
theorem opI {f : Value → Value → Sem Value} {C : Int → Int → Prop} {g : Int → Int → Int}
    (rule : ∀ (i j : Int) (t u : Tok) (s : Shared) (Q : Value → Shared → Prop) (E : Value → Shared → Prop), C i j → Q (.int (g i j) s.toks) { s with toks := s.toks + 1 } → wpAny (model X.prog X.w) X.A (f (.int i t) (.int j u)) Q E s) :
    OpR X f (rI C fun i j => .int (g i j)) := by
  intro pins s σ H x y v u Q I rx ry h
  obtain ⟨i, j, rfl, rfl, hc, q⟩ := h
  obtain ⟨t, rfl⟩ := rx
  obtain ⟨t', rfl⟩ := ry
  exact rule i j t t' s _ _ hc ⟨.int (g i j), H, I.tok _, ⟨_, rfl⟩, q⟩
theorem opI0 {f : Value → Value → Sem Value} {g : Int → Int → Int}
    (rule : ∀ (i j : Int) (t u : Tok) (s : Shared) (Q : Value → Shared → Prop) (E : Value → Shared → Prop), Q (.int (g i j) s.toks) { s with toks := s.toks + 1 } → wpAny (model X.prog X.w) X.A (f (.int i t) (.int j u)) Q E s) :
    OpR X f (rI0 fun i j => .int (g i j)) := by
  intro pins s σ H x y v u Q I rx ry h
  obtain ⟨i, j, rfl, rfl, q⟩ := h
  obtain ⟨t, rfl⟩ := rx
  obtain ⟨t', rfl⟩ := ry
  exact rule i j t t' s _ _ ⟨.int (g i j), H, I.tok _, ⟨_, rfl⟩, q⟩
theorem opB0 {f : Value → Value → Sem Value} {g : Int → Int → Bool}
    (rule : ∀ (i j : Int) (t u : Tok) (s : Shared) (Q : Value → Shared → Prop) (E : Value → Shared → Prop), Q (.bool (g i j)) s → wpAny (model X.prog X.w) X.A (f (.int i t) (.int j u)) Q E s) :
    OpR X f (rI0 fun i j => .bl (g i j)) := by
  intro pins s σ H x y v u Q I rx ry h
  obtain ⟨i, j, rfl, rfl, q⟩ := h
  obtain ⟨t, rfl⟩ := rx
  obtain ⟨t', rfl⟩ := ry
  exact rule i j t t' s _ _ ⟨.bl (g i j), H, I, rfl, q⟩

def CDiv (i j : Int) : Prop := 0 < j ∧ j < 1073741824
def CDivN (i j : Int) : Prop := j ≠ 0 ∧ j.natAbs < 1073741824
def CPow (i j : Int) : Prop := 0 ≤ j ∧ j ≤ 1000000 ∧ i.natAbs < 2 ^ 64
def CMul (i j : Int) : Prop := (-(2 ^ 64) < i ∧ i < 2 ^ 64) ∨ (-(2 ^ 64) < j ∧ j < 2 ^ 64)
theorem CMul.ok {i j : Int} (h : CMul i j) : IntMulOk i j := by
  rcases h with ⟨h1, h2⟩ | ⟨h1, h2⟩
  · exact .of_left (intBits_le_64 h1 h2)
  · exact .of_right (intBits_le_64 h1 h2)
theorem two_pow_nn (k : Nat) : (0 : Int) ≤ 2 ^ k := by
  rw [two_pow_cast]
  exact Int.natCast_nonneg _

theorem op_add : OpR X (binaryOp .Add) (rI0 fun i j => .int (i + j)) := opI0 fun _ _ _ _ _ _ _ q => add_int q
theorem op_sub : OpR X (binaryOp .Sub) (rI0 fun i j => .int (i - j)) := opI0 fun _ _ _ _ _ _ _ q => sub_int q
theorem op_mul : OpR X (binaryOp .Mult) (rI CMul fun i j => .int (i * j)) := opI fun _ _ _ _ _ _ _ hc q => mul_int q hc.ok
/-- // by a positive divisor -/
theorem op_fdiv : OpR X (binaryOp .FloorDiv) (rI CDiv fun i j => .int (i / j)) := opI fun i j _ _ _ _ _ hc q => by
  have h1 : (0 : Int) < j := hc.1
  have h2 : j < 1073741824 := hc.2
  exact floordiv_int (by omega) (by rw [Int.fdiv_eq_ediv_of_nonneg i (by omega)]; exact q) (.inl (PyProof.noPylong_small (by omega)))
theorem op_fdivN : OpR X (binaryOp .FloorDiv) (rI CDivN fun i j => .int (i.fdiv j)) := opI fun _ _ _ _ _ _ _ hc q => floordiv_int hc.1 q (.inl (PyProof.noPylong_small hc.2))
/-- % by a positive divisor of any size -/
theorem op_mod : OpR X (binaryOp .Mod) (rI (fun _ j => 0 < j) fun i j => .int (i % j)) := opI fun i j _ _ _ _ _ hc q => by
  have h1 : (0 : Int) < j := hc
  exact mod_int' (by omega) (by rw [Int.fmod_eq_emod_of_nonneg i (by omega)]; exact q)
theorem op_modN : OpR X (binaryOp .Mod) (rI (fun _ j => j ≠ 0) fun i j => .int (i.fmod j)) := opI fun _ _ _ _ _ _ _ hc q => mod_int' hc q
theorem op_pow : OpR X (binaryOp .Pow) (rI CPow fun i j => .int (i ^ j.toNat)) := opI fun _ _ _ _ _ _ _ hc q => pow_int_small hc.1 hc.2.1 hc.2.2 q
theorem op_shl : OpR X (binaryOp .LShift) (rI CPow fun i j => .int (i * 2 ^ j.toNat)) := opI fun _ _ _ _ _ _ _ hc q => lshift_int_small hc.1 hc.2.1 hc.2.2 q
theorem op_shr : OpR X (binaryOp .RShift) (rI (fun _ j => 0 ≤ j) fun i j => .int (i / 2 ^ j.toNat)) := opI fun i j _ _ _ _ _ hc q =>
  rshift_int hc (by rw [Int.fdiv_eq_ediv_of_nonneg i (two_pow_nn _)]; exact q)
theorem op_and : OpR X (binaryOp .BitAnd) (rI0 fun i j => .int (Builtin.bitAnd i j)) := opI0 fun _ _ _ _ _ _ _ q => and_int q
theorem op_or : OpR X (binaryOp .BitOr) (rI0 fun i j => .int (Builtin.bitOr i j)) := opI0 fun _ _ _ _ _ _ _ q => or_int q
theorem op_xor : OpR X (binaryOp .BitXor) (rI0 fun i j => .int (Builtin.bitXor i j)) := opI0 fun _ _ _ _ _ _ _ q => xor_int q

theorem iop_add : OpR X (inplaceOp .Add) (rI0 fun i j => .int (i + j)) := opI0 fun _ _ _ _ _ _ _ q => iadd_int q
theorem iop_sub : OpR X (inplaceOp .Sub) (rI0 fun i j => .int (i - j)) := opI0 fun _ _ _ _ _ _ _ q => isub_int q
theorem iop_mul : OpR X (inplaceOp .Mult) (rI CMul fun i j => .int (i * j)) := opI fun _ _ _ _ _ _ _ hc q => imul_int q hc.ok
theorem iop_fdiv : OpR X (inplaceOp .FloorDiv) (rI CDiv fun i j => .int (i / j)) := opI fun i j _ _ _ _ _ hc q => by
  have h1 : (0 : Int) < j := hc.1
  have h2 : j < 1073741824 := hc.2
  exact ifloordiv_int (by omega) (by rw [Int.fdiv_eq_ediv_of_nonneg i (by omega)]; exact q) (.inl (PyProof.noPylong_small (by omega)))
theorem iop_mod : OpR X (inplaceOp .Mod) (rI (fun _ j => 0 < j) fun i j => .int (i % j)) := opI fun i j _ _ _ _ _ hc q => by
  have h1 : (0 : Int) < j := hc
  exact imod_int (by omega) (by rw [Int.fmod_eq_emod_of_nonneg i (by omega)]; exact q)
theorem iop_shl : OpR X (inplaceOp .LShift) (rI CPow fun i j => .int (i * 2 ^ j.toNat)) := opI fun _ _ _ _ _ _ _ hc q => ilshift_int_small hc.1 hc.2.1 hc.2.2 q
theorem iop_shr : OpR X (inplaceOp .RShift) (rI (fun _ j => 0 ≤ j) fun i j => .int (i / 2 ^ j.toNat)) := opI fun i j _ _ _ _ _ hc q =>
  irshift_int hc (by rw [Int.fdiv_eq_ediv_of_nonneg i (two_pow_nn _)]; exact q)
theorem iop_and : OpR X (inplaceOp .BitAnd) (rI0 fun i j => .int (Builtin.bitAnd i j)) := opI0 fun _ _ _ _ _ _ _ q => iand_int q
theorem iop_or : OpR X (inplaceOp .BitOr) (rI0 fun i j => .int (Builtin.bitOr i j)) := opI0 fun _ _ _ _ _ _ _ q => ior_int q
theorem iop_xor : OpR X (inplaceOp .BitXor) (rI0 fun i j => .int (Builtin.bitXor i j)) := opI0 fun _ _ _ _ _ _ _ q => ixor_int q

theorem unI {f : Value → Sem Value} {g : Int → Int}
    (rule : ∀ (i : Int) (t : Tok) (s : Shared) (Q : Value → Shared → Prop) (E : Value → Shared → Prop), Q (.int (g i) s.toks) { s with toks := s.toks + 1 } → wpAny (model X.prog X.w) X.A (f (.int i t)) Q E s) :
    UnR X f (rU fun i => .int (g i)) := by
  intro pins s σ H x v Q I rx h
  obtain ⟨i, rfl, q⟩ := h
  obtain ⟨t, rfl⟩ := rx
  exact rule i t s _ _ ⟨.int (g i), H, I.tok _, ⟨_, rfl⟩, q⟩
theorem un_neg : UnR X (unaryOp .USub) (rU fun i => .int (-i)) := unI fun _ _ _ _ _ q => neg_int q
theorem un_inv : UnR X (unaryOp .Invert) (rU fun i => .int (Builtin.bitNot i)) := unI fun _ _ _ _ _ q => invert_int q

/-! ### bools among ints: n += (a < b) -/
theorem op_add_ib : OpR X (binaryOp .Add) (fun x y H Q => ∃ i k, x = .int i ∧ y = .bl k ∧ Q (.int (i + b2i k)) H) := by
  intro pins s σ H x y v u Q I rx ry h
  obtain ⟨i, k, rfl, rfl, q⟩ := h
  obtain ⟨t, rfl⟩ := rx
  cases ry
  exact add_int_bool ⟨.int (i + b2i k), H, I.tok _, ⟨_, rfl⟩, q⟩
end

/-! ### comparisons -/
/-- the scalars that == tells apart as data does -/
def scal : V → V → Bool
  | .non, .non => true | .non, .int _ => true | .int _, .non => true | .non, .bl _ => true | .bl _, .non => true | .non, .str _ => true | .str _, .non => true
  | .int _, .int _ => true | .bl _, .bl _ => true | .str _, .str _ => true | .byt _, .byt _ => true
  | .int _, .str _ => true | .str _, .int _ => true | .bl _, .str _ => true | .str _, .bl _ => true
  | _, _ => false
def rEq : R2 := fun x y H Q => scal x y = true ∧ Q (.bl (decide (x = y))) H
def rNe : R2 := fun x y H Q => scal x y = true ∧ Q (.bl (!decide (x = y))) H

theorem dec_int {i j : Int} : decide (V.int i = V.int j) = (i == j) := by
  rw [Bool.eq_iff_iff]
  simp
theorem dec_bl {i j : Bool} : decide (V.bl i = V.bl j) = (i == j) := by
  rw [Bool.eq_iff_iff]
  simp
theorem dec_str {i j : Str} : decide (V.str i = V.str j) = (i == j) := by
  rw [Bool.eq_iff_iff]
  simp
theorem dec_byt {i j : Array UInt8} : decide (V.byt i = V.byt j) = (i.toList == j.toList) := by
  rw [Bool.eq_iff_iff]
  cases i
  cases j
  simp

section
variable {X : Cx} {a b c : Expr} {ta tb tc : TE} {pos : Pos}
theorem fin_bl {pins : List (Addr × Obj)} {σ : St} {H : Hp} {s : Shared} {Q : VK} {k k' : Bool} (I : Inv X pins σ H s) (q : Q (.bl k) H) (e : k = k') : EP X pins σ Q (.bool k') s := by
  subst e
  exact ⟨.bl k, H, I, rfl, q⟩
theorem op_eq : OpR X (compareOp .Eq) rEq := by
  intro pins s σ H x y v u Q I rx ry h
  obtain ⟨hs, q⟩ := h
  cases x with
  | non =>
    cases rx
    cases y with
    | non => cases ry; exact PySem.EqNone.eq_none_none (fin_bl I q (by simp))
    | bl j => cases ry; exact PySem.EqNone.eq_none_bool (fin_bl I q (by simp))
    | int j => obtain ⟨t', rfl⟩ := ry; exact PySem.EqNone.eq_none_int (fin_bl I q (by simp))
    | str j => obtain ⟨t', rfl⟩ := ry; exact PySem.EqNone.eq_none_str (fin_bl I q (by simp))
    | _ => exact absurd (show false = true from hs) Bool.false_ne_true
  | bl i =>
    cases rx
    cases y with
    | non => cases ry; exact PySem.EqNone.eq_bool_none (fin_bl I q (by simp))
    | bl j => cases ry; exact eq_bool (fin_bl I q dec_bl)
    | str j => obtain ⟨t', rfl⟩ := ry; exact PySem.EqMixed.eq_bool_str (fin_bl I q (by simp))
    | _ => exact absurd (show false = true from hs) Bool.false_ne_true
  | int i =>
    obtain ⟨t, rfl⟩ := rx
    cases y with
    | non => cases ry; exact PySem.EqNone.eq_int_none (fin_bl I q (by simp))
    | int j => obtain ⟨t', rfl⟩ := ry; exact eq_int (fin_bl I q dec_int)
    | str j => obtain ⟨t', rfl⟩ := ry; exact PySem.EqMixed.eq_int_str (fin_bl I q (by simp))
    | _ => exact absurd (show false = true from hs) Bool.false_ne_true
  | str i =>
    obtain ⟨t, rfl⟩ := rx
    cases y with
    | non => cases ry; exact PySem.EqNone.eq_str_none (fin_bl I q (by simp))
    | bl j => cases ry; exact PySem.EqMixed.eq_str_bool (fin_bl I q (by simp))
    | int j => obtain ⟨t', rfl⟩ := ry; exact PySem.EqMixed.eq_str_int (fin_bl I q (by simp))
    | str j => obtain ⟨t', rfl⟩ := ry; exact eq_str (fin_bl I q dec_str)
    | _ => exact absurd (show false = true from hs) Bool.false_ne_true
  | byt i =>
    obtain ⟨t, rfl⟩ := rx
    cases y with
    | byt j => obtain ⟨t', rfl⟩ := ry; exact PySem.W.eq_bytes (fin_bl I q dec_byt)
    | _ => exact absurd (show false = true from hs) Bool.false_ne_true
  | _ => cases y <;> exact absurd (show false = true from hs) Bool.false_ne_true
theorem op_ne : OpR X (compareOp .NotEq) rNe := by
  intro pins s σ H x y v u Q I rx ry h
  obtain ⟨hs, q⟩ := h
  cases x with
  | non =>
    cases rx
    cases y with
    | non => cases ry; exact PySem.EqNone.ne_none_none (fin_bl I q (by simp))
    | bl j => cases ry; exact PySem.EqNone.ne_none_bool (fin_bl I q (by simp))
    | int j => obtain ⟨t', rfl⟩ := ry; exact PySem.EqNone.ne_none_int (fin_bl I q (by simp))
    | str j => obtain ⟨t', rfl⟩ := ry; exact PySem.EqNone.ne_none_str (fin_bl I q (by simp))
    | _ => exact absurd (show false = true from hs) Bool.false_ne_true
  | bl i =>
    cases rx
    cases y with
    | non => cases ry; exact PySem.EqNone.ne_bool_none (fin_bl I q (by simp))
    | bl j => cases ry; exact ne_bool (fin_bl I q (congrArg not dec_bl))
    | str j => obtain ⟨t', rfl⟩ := ry; exact PySem.EqMixed.ne_bool_str (fin_bl I q (by simp))
    | _ => exact absurd (show false = true from hs) Bool.false_ne_true
  | int i =>
    obtain ⟨t, rfl⟩ := rx
    cases y with
    | non => cases ry; exact PySem.EqNone.ne_int_none (fin_bl I q (by simp))
    | int j => obtain ⟨t', rfl⟩ := ry; exact ne_int (fin_bl I q (congrArg not dec_int))
    | str j => obtain ⟨t', rfl⟩ := ry; exact PySem.EqMixed.ne_int_str (fin_bl I q (by simp))
    | _ => exact absurd (show false = true from hs) Bool.false_ne_true
  | str i =>
    obtain ⟨t, rfl⟩ := rx
    cases y with
    | non => cases ry; exact PySem.EqNone.ne_str_none (fin_bl I q (by simp))
    | bl j => cases ry; exact PySem.EqMixed.ne_str_bool (fin_bl I q (by simp))
    | int j => obtain ⟨t', rfl⟩ := ry; exact PySem.EqMixed.ne_str_int (fin_bl I q (by simp))
    | str j => obtain ⟨t', rfl⟩ := ry; exact ne_str (fin_bl I q (congrArg not dec_str))
    | _ => exact absurd (show false = true from hs) Bool.false_ne_true
  | byt i =>
    obtain ⟨t, rfl⟩ := rx
    cases y with
    | byt j => obtain ⟨t', rfl⟩ := ry; exact PySem.W.ne_bytes (fin_bl I q (congrArg not dec_byt))
    | _ => exact absurd (show false = true from hs) Bool.false_ne_true
  | _ => cases y <;> exact absurd (show false = true from hs) Bool.false_ne_true

theorem op_lt : OpR X (compareOp .Lt) (rI0 fun i j => .bl (decide (i < j))) := opB0 fun _ _ _ _ _ _ _ q => lt_int q
theorem op_le : OpR X (compareOp .LtE) (rI0 fun i j => .bl (decide (i ≤ j))) := opB0 fun _ _ _ _ _ _ _ q => le_int q
theorem op_gt : OpR X (compareOp .Gt) (rI0 fun i j => .bl (decide (j < i))) := opB0 fun _ _ _ _ _ _ _ q => gt_int q
theorem op_ge : OpR X (compareOp .GtE) (rI0 fun i j => .bl (decide (j ≤ i))) := opB0 fun _ _ _ _ _ _ _ q => ge_int q
theorem op_lt_str : OpR X (compareOp .Lt) (fun x y H Q => ∃ i j, x = .str i ∧ y = .str j ∧ Q (.bl (decide (i.cps.toList < j.cps.toList))) H) := by
  intro pins s σ H x y v u Q I rx ry h
  obtain ⟨i, j, rfl, rfl, q⟩ := h
  obtain ⟨t, rfl⟩ := rx
  obtain ⟨t', rfl⟩ := ry
  exact lt_str (fin_bl I q rfl)
/-- the one string within the other -/
theorem op_in_str : OpR X (compareOp .In) (fun x y H Q => ∃ i j, x = .str i ∧ y = .str j ∧ Q (.bl (!(Builtin.Str.occurrences j i 0 j.length 1).isEmpty)) H) := by
  intro pins s σ H x y v u Q I rx ry h
  obtain ⟨i, j, rfl, rfl, q⟩ := h
  obtain ⟨t, rfl⟩ := rx
  obtain ⟨t', rfl⟩ := ry
  exact in_str (fin_bl I q rfl)

/-- is None, is not None: the right side a value none -/
theorem op_isN : OpR X (compareOp .Is) (fun x y H Q => y = .non ∧ Q (.bl (decide (x = .non))) H) := by
  intro pins s σ H x y v u Q I rx ry h
  obtain ⟨rfl, q⟩ := h
  cases ry
  refine is_none_gen (fin_bl I q ?_)
  cases x <;> first
    | (cases rx; rfl)
    | (obtain ⟨t, rfl⟩ := rx; rfl)
theorem op_notN : OpR X (compareOp .IsNot) (fun x y H Q => y = .non ∧ Q (.bl (!decide (x = .non))) H) := by
  intro pins s σ H x y v u Q I rx ry h
  obtain ⟨rfl, q⟩ := h
  cases ry
  refine isnot_none_gen (fin_bl I q ?_)
  cases x <;> first
    | (cases rx; rfl)
    | (obtain ⟨t, rfl⟩ := rx; rfl)

theorem op_notin_str : OpR X (compareOp .NotIn) (fun x y H Q => ∃ i j, x = .str i ∧ y = .str j ∧ Q (.bl (!(!(Builtin.Str.occurrences j i 0 j.length 1).isEmpty))) H) := by
  intro pins s σ H x y v u Q I rx ry h
  obtain ⟨i, j, rfl, rfl, q⟩ := h
  obtain ⟨t, rfl⟩ := rx
  obtain ⟨t', rfl⟩ := ry
  exact notIn_str (fin_bl I q rfl)
/-- is, is not of two objects that are tracked lists or instances -/
def isObj : HO → Bool
  | .lst _ => true
  | .ins _ _ _ => true
  | _ => false
theorem obj_there {pins : List (Addr × Obj)} {s : Shared} {σ : St} {H : Hp} {a : Addr} {o : HO} (I : Inv X pins σ H s) (h : H a = some o) (p : isObj o = true) : ∃ ob, s.heap.get? a = some ob ∧ ob.cls ≠ .type "tuple" := by
  cases o with
  | lst xs =>
    obtain ⟨_, its, n, _, e⟩ : xs.length ≤ sizeLine ∧ ∃ (its : List Value) (n : Nat), Vals xs its ∧ s.heap.get? a = some { cls := .type "list", data := .seq its.toArray n } := I.hok a _ h
    exact ⟨_, e, (by show Value.type "list" ≠ .type "tuple"; decide +kernel)⟩
  | ins C dx fs =>
    have x := I.hok a _ h
    obtain ⟨_, _, _, e, _⟩ := x
    exact ⟨_, e, (by show Value.ref C ≠ .type "tuple"; exact fun z => by cases z)⟩
  | _ => exact absurd (show false = true from p) Bool.false_ne_true
theorem op_is_ref : OpR X (compareOp .Is) (fun x y H Q => ∃ a b oa ob, x = .ref a ∧ y = .ref b ∧ H a = some oa ∧ isObj oa = true ∧ H b = some ob ∧ isObj ob = true ∧ Q (.bl (decide (a = b))) H) := by
  intro pins s σ H x y v u Q I rx ry h
  obtain ⟨a, b, oa, ob, rfl, rfl, ha, pa, hb, pb, q⟩ := h
  cases rx
  cases ry
  obtain ⟨o1, e1, n1⟩ := obj_there I ha pa
  obtain ⟨o2, e2, _⟩ := obj_there I hb pb
  by_cases z : a = b
  · subst z
    exact wpAny_is_ref_self (fin_bl I q (by simp))
  · exact wpAny_is_ref_other z e1 e2 n1 (fin_bl I q (by simp [z]))
theorem op_isnot_ref : OpR X (compareOp .IsNot) (fun x y H Q => ∃ a b oa ob, x = .ref a ∧ y = .ref b ∧ H a = some oa ∧ isObj oa = true ∧ H b = some ob ∧ isObj ob = true ∧ Q (.bl (!decide (a = b))) H) := by
  intro pins s σ H x y v u Q I rx ry h
  obtain ⟨a, b, oa, ob, rfl, rfl, ha, pa, hb, pb, q⟩ := h
  cases rx
  cases ry
  obtain ⟨o1, e1, n1⟩ := obj_there I ha pa
  obtain ⟨o2, e2, _⟩ := obj_there I hb pb
  by_cases z : a = b
  · subst z
    exact wpAny_isNot_ref_self (fin_bl I q (by simp))
  · exact wpAny_isNot_ref_other z e1 e2 n1 (fin_bl I q (by simp [z]))

/-- two rules for one operation: by cases -/
theorem OpR.or {f : Value → Value → Sem Value} {r r' : R2} (h : OpR X f r) (h' : OpR X f r') : OpR X f (fun x y H Q => r x y H Q ∨ r' x y H Q) := by
  intro pins s σ H x y v u Q I rx ry q
  rcases q with q | q
  · exact h pins s σ H x y v u Q I rx ry q
  · exact h' pins s σ H x y v u Q I rx ry q

theorem nomark (b : Expr) {op : CmpOp} (h : op ≠ .In := by decide) (h2 : op ≠ .NotIn := by decide) : behindInMarks op b = false := by
  have e1 : (op == CmpOp.In) = false := by cases op <;> first | rfl | exact absurd rfl h
  have e2 : (op == CmpOp.NotIn) = false := by cases op <;> first | rfl | exact absurd rfl h2
  cases b <;> simp [behindInMarks, e1, e2]
/-- a comparison as a value; hm: nomark b, or (for in, not in) by with_unfolding_all rfl -/
theorem pe_cmpR {op : CmpOp} {r : R2} (ho : OpR X (compareOp op) r) (ha : PE X a ta) (hb : PE X b tb) (hm : behindInMarks op b = false) : PE X (.Compare a [op] [b] pos) (tOp r ta tb) := by
  intro pins s σ H Q I h
  exact wpAny_Compare1 (binT ha hb I h fun v u s2 x y H2 I2 rx ry q => ho pins s2 σ H2 x y v u Q I2 rx ry q) hm
/-- a reading of a value as a test -/
def tTest (t : TE) : TT := fun σ H Q => t σ H fun x H' => ∃ k, x = .bl k ∧ Q k H'
theorem pt_cmpR {op : CmpOp} {r : R2} (ho : OpR X (compareOp op) r) (ha : PE X a ta) (hb : PE X b tb) (hm : behindInMarks op b = false) : PT X (.Compare a [op] [b] pos) (tTest (tOp r ta tb)) := by
  intro pins s σ H Q I h
  refine wpAny_isTrue_Compare1 (thn (ha pins s σ H _ I h) fun v s1 ⟨x, H1, I1, r1, q1⟩ => thn (hb pins s1 σ H1 _ I1 q1) fun u s2 ⟨y, H2, I2, r2, q2⟩ =>
    thn (ho pins s2 σ H2 x y v u _ I2 r1 r2 q2) fun c s3 ⟨z, H3, I3, r3, k, e, q3⟩ => ?_) hm
  subst e
  cases r3
  exact wpAny_truthy_bool ⟨H3, I3, q3⟩
/-- a op1 b op2 c -/
def tChain (r r' : R2) (ta tb tc : TE) : TE := fun σ H Q => ta σ H fun x H1 => tb σ H1 fun y H2 => r x y H2 fun z H3 => ∃ k, z = .bl k ∧
  (if k = true then tc σ H3 fun w' H4 => r' y w' H4 Q else Q (.bl false) H3)
theorem pe_chain {op op' : CmpOp} {r r' : R2} (ho : OpR X (compareOp op) r) (ho' : OpR X (compareOp op') r') (ha : PE X a ta) (hb : PE X b tb) (hc : PE X c tc)
    (hm : lastMarks [op, op'] [b, c] = false := by with_unfolding_all rfl) : PE X (.Compare a [op, op'] [b, c] pos) (tChain r r' ta tb tc) := by
  intro pins s σ H Q I h
  refine Compare_chain (thn (ha pins s σ H _ I h) fun v s1 ⟨x, H1, I1, r1, q1⟩ => chain_link (thn (hb pins s1 σ H1 _ I1 q1) fun u s2 ⟨y, H2, I2, r2, q2⟩ =>
    thn (ho pins s2 σ H2 x y v u _ I2 r1 r2 q2) fun d s3 ⟨z, H3, I3, r3, k, e, q3⟩ => ?_)) hm
  subst e
  cases r3
  refine wpAny_truthy_bool ?_
  cases k with
  | false => exact ite_ff ⟨.bl false, H3, I3, rfl, q3⟩
  | true => exact ite_tt (chain_last (thn (hc pins s3 σ H3 _ I3 q3) fun w' s4 ⟨z', H4, I4, r4, q4⟩ => ho' pins s4 σ H4 y z' u w' Q I4 r2 r4 q4))
theorem pt_chain {op op' : CmpOp} {r r' : R2} (ho : OpR X (compareOp op) r) (ho' : OpR X (compareOp op') r') (ha : PE X a ta) (hb : PE X b tb) (hc : PE X c tc)
    (hm : lastMarks [op, op'] [b, c] = false := by with_unfolding_all rfl) : PT X (.Compare a [op, op'] [b, c] pos) (tTest (tChain r r' ta tb tc)) := by
  intro pins s σ H Q I h
  refine isTrue_chain (thn (ha pins s σ H _ I h) fun v s1 ⟨x, H1, I1, r1, q1⟩ => test_link (thn (hb pins s1 σ H1 _ I1 q1) fun u s2 ⟨y, H2, I2, r2, q2⟩ =>
    thn (ho pins s2 σ H2 x y v u _ I2 r1 r2 q2) fun d s3 ⟨z, H3, I3, r3, k, e, q3⟩ => ?_)) hm
  subst e
  cases r3
  refine wpAny_truthy_bool ?_
  cases k with
  | false =>
    obtain ⟨k', e', q'⟩ := q3
    cases e'
    exact ite_ff ⟨H3, I3, q'⟩
  | true =>
    refine ite_tt (test_last (thn (hc pins s3 σ H3 _ I3 q3) fun w' s4 ⟨z', H4, I4, r4, q4⟩ => thn (ho' pins s4 σ H4 y z' u w' _ I4 r2 r4 q4) fun d' s5 ⟨z2, H5, I5, r5, k2, e2, q5⟩ => ?_))
    subst e2
    cases r5
    exact wpAny_truthy_bool ⟨H5, I5, q5⟩

/-! ### truth -/
/-- a value's truth by the abstract heap -/
def TruV (K : PySem.W.Frag) (x : V) (H : Hp) (k : Bool) : Prop :=
  match x with
  | .non => k = false
  | .bl b => k = b
  | .int i => k = (i != 0)
  | .str y => y.length ≤ sizeLine ∧ k = ((y.length : Int) != 0)
  | .byt y => y.size ≤ sizeLine ∧ k = ((y.size : Int) != 0)
  | .ref p => (∃ xs, SqL K H p xs ∧ k = !xs.isEmpty) ∨ (∃ xs, SqT K H p xs ∧ k = !xs.isEmpty) ∨ ∃ kvs, H p = some (.dK kvs) ∧ k = !kvs.isEmpty
  | _ => False
theorem isEmpty_kv {κ : Type} {kvs : List (κ × V)} {vs : List (κ × Value)} (r : KV kvs vs) : (!vs.isEmpty) = !kvs.isEmpty := by
  cases r <;> rfl
theorem isEmpty_of {xs : List V} {its : List Value} (r : Vals xs its) : (!its.toArray.isEmpty) = !xs.isEmpty := by
  cases r <;> simp
theorem line63 : (sizeLine : Nat) < 2 ^ 63 := by rw [sizeLine_eq]; decide
theorem tru_ok : TruR X (fun x H Q => ∃ k, TruV X.K x H k ∧ Q k H) := by
  intro pins s σ H x v Q I rx h
  obtain ⟨k, e, q⟩ := h
  have hl := line63
  have hs : sizeLine = 16777216 := sizeLine_eq
  cases x with
  | non =>
    cases rx
    have e' : k = false := e
    subst e'
    exact truthy_none ⟨H, I, q⟩
  | bl b =>
    cases rx
    have e' : k = b := e
    subst e'
    exact wpAny_truthy_bool ⟨H, I, q⟩
  | int i =>
    obtain ⟨t, rfl⟩ := rx
    have e' : k = (i != 0) := e
    subst e'
    exact PySem.P.truthy_int ⟨H, I, q⟩
  | str y =>
    obtain ⟨t, rfl⟩ := rx
    obtain ⟨hy, e'⟩ : y.length ≤ sizeLine ∧ k = ((y.length : Int) != 0) := e
    subst e'
    exact PySem.P.truthy_str (by omega) ⟨H, I.tok _, q⟩
  | byt y =>
    obtain ⟨t, rfl⟩ := rx
    obtain ⟨hy, e'⟩ : y.size ≤ sizeLine ∧ k = ((y.size : Int) != 0) := e
    subst e'
    exact PySem.W.truthy_bytes (by omega) ⟨H, I.tok _, q⟩
  | ref p =>
    cases rx
    have e' : (∃ xs, SqL X.K H p xs ∧ k = !xs.isEmpty) ∨ (∃ xs, SqT X.K H p xs ∧ k = !xs.isEmpty) ∨ ∃ kvs, H p = some (.dK kvs) ∧ k = !kvs.isEmpty := e
    rcases e' with ⟨xs, hx, e'⟩ | ⟨xs, hx, e'⟩ | ⟨kvs, hx, e'⟩
    · subst e'
      obtain ⟨its, r, pl, hz⟩ := I.list hx
      have hlen := r.length
      exact wpAny_truthy_list pl.isList (by simp only [List.size_toArray]; omega) ⟨H, I.tok _, by rw [isEmpty_of r]; exact q⟩
    · subst e'
      obtain ⟨its, r, pl, hz⟩ := I.tuple hx
      have hlen := r.length
      exact truthy_tuple pl (by simp only [List.size_toArray]; omega) ⟨H, I.tok _, by rw [isEmpty_of r]; exact q⟩
    · subst e'
      obtain ⟨hz, hS, vs, r, m⟩ : kvs.length ≤ sizeLine ∧ (p == sysModules) = false ∧ ∃ vs, KV kvs vs ∧ s.heap.DictOf (mixKind X.prog X.w) p vs := I.hok p _ hx
      have hlen : kvs.length = vs.length := Paired.length r
      exact wpAny_truthy_dict hS m (by omega) ⟨H, I.tok _, by rw [isEmpty_kv r]; exact q⟩
  | _ => exact (show False from e).elim
/-- any expression whose test is its value's truth (a name, a call, a subscript, a field ..: he by fun _ => rfl) -/
theorem pt_truth (ha : PE X a ta) (he : ∀ whole, isTrue a X.env whole = (do let v ← whole; standAt a.pos; holding [v] (truthy v))) :
    PT X a (fun σ H Q => ta σ H fun x H' => ∃ k, TruV X.K x H' k ∧ Q k H') := by
  intro pins s σ H Q I h
  exact isTrue_plain (thn (ha pins s σ H _ I h) fun v s1 ⟨x, H1, I1, r1, q1⟩ => tru_ok pins s1 σ H1 x v Q I1 r1 q1) (he _)

/-! ### strs and bytes -/
theorem pe_byt {x : List UInt8} {k : Nat} : PE X (.Constant (.bytes x) k pos) (fun _ H Q => Q (.byt x.toArray) H) := fun _ _ _ H _ I h => PySem.W.Constant_bytes ⟨.byt x.toArray, H, I.tok _, ⟨_, rfl⟩, h⟩
theorem op_add_str : OpR X (binaryOp .Add) (fun x y H Q => ∃ i j, x = .str i ∧ y = .str j ∧ i.length + j.length ≤ sizeLine ∧ Q (.str (i ++ j)) H) := by
  intro pins s σ H x y v u Q I rx ry h
  obtain ⟨i, j, rfl, rfl, hz, q⟩ := h
  obtain ⟨t, rfl⟩ := rx
  obtain ⟨t', rfl⟩ := ry
  exact add_str (fun t' tk => ⟨.str (i ++ j), H, I.tok _, ⟨_, rfl⟩, q⟩) hz
theorem iop_add_str : OpR X (inplaceOp .Add) (fun x y H Q => ∃ i j, x = .str i ∧ y = .str j ∧ i.length + j.length ≤ sizeLine ∧ Q (.str (i ++ j)) H) := by
  intro pins s σ H x y v u Q I rx ry h
  obtain ⟨i, j, rfl, rfl, hz, q⟩ := h
  obtain ⟨t, rfl⟩ := rx
  obtain ⟨t', rfl⟩ := ry
  exact iadd_str (fun t' tk => ⟨.str (i ++ j), H, I.tok _, ⟨_, rfl⟩, q⟩) hz
theorem op_add_byt : OpR X (binaryOp .Add) (fun x y H Q => ∃ i j, x = .byt i ∧ y = .byt j ∧ i.size + j.size ≤ 16777216 ∧ Q (.byt (i ++ j)) H) := by
  intro pins s σ H x y v u Q I rx ry h
  obtain ⟨i, j, rfl, rfl, hz, q⟩ := h
  obtain ⟨t, rfl⟩ := rx
  obtain ⟨t', rfl⟩ := ry
  exact PySem.W.KBy.add_bytes hz (fun t' tk => ⟨.byt (i ++ j), H, I.tok _, ⟨_, rfl⟩, q⟩)

def PlainIxT (b : Expr) : Prop := ∀ o i, subscripted b false o i = operate [o, i] (getItem o i)
/-- s[i], 0 ≤ i < len -/
theorem pe_item_str (ha : PE X a ta) (hb : PE X b tb) (hs : PlainIxT b) :
    PE X (.Subscript a b pos) (tOp (fun x y H Q => ∃ z i c, x = .str z ∧ y = .int i ∧ 0 ≤ i ∧ i < 2 ^ 63 ∧ i < z.length ∧ z.cps[i.toNat]? = some c ∧ Q (.str ⟨#[c]⟩) H) ta tb) := by
  intro pins s σ H Q I h
  refine Subscript_ (binT ha hb I h fun v u s2 x y H2 I2 rx ry q => ?_)
  obtain ⟨z, i, c, rfl, rfl, h0, h63, h1, hc, q⟩ := q
  obtain ⟨t, rfl⟩ := rx
  obtain ⟨t', rfl⟩ := ry
  have e : seqIndex? i z.length = some i.toNat := PySem.StrLaws.seqIndex_nonneg h0 h1
  exact tail_any (typeIs_str s2 z t) slot_str_getitem.lookup (getItem_str (c := c) (by
    have e1 : decide (i < -(2 ^ 63 : Int)) = false := decide_eq_false (by omega)
    have e2 : decide (i ≥ 2 ^ 63) = false := decide_eq_false (by omega)
    rw [e1, e2] <;> rfl) (by rw [e]; exact hc) ⟨.str ⟨#[c]⟩, H2, I2.tok _, ⟨_, rfl⟩, q⟩) (hs _ _)
/-- b[i], 0 ≤ i < len -/
theorem pe_item_byt (ha : PE X a ta) (hb : PE X b tb) (hs : PlainIxT b) :
    PE X (.Subscript a b pos) (tOp (fun x y H Q => ∃ (z : List UInt8) (i : Int), x = .byt z.toArray ∧ y = .int i ∧ z.length ≤ sizeLine ∧ 0 ≤ i ∧ i < z.length ∧ Q (.int ((z.getD i.toNat 0).toNat : Nat)) H) ta tb) := by
  intro pins s σ H Q I h
  refine Subscript_ (binT ha hb I h fun v u s2 x y H2 I2 rx ry q => ?_)
  obtain ⟨z, i, rfl, rfl, hz, h0, h1, q⟩ := q
  obtain ⟨t, rfl⟩ := rx
  obtain ⟨t', rfl⟩ := ry
  have hl : sizeLine = 16777216 := sizeLine_eq
  exact tail_any (PySem.W.typeIs_bytes s2 z.toArray t) PySem.W.FB.slot_bytes_getitem.lookup (PySem.W.getItem_bytes (by omega) h0 h1 ⟨.int ((z.getD i.toNat 0).toNat : Nat), H2, I2.tok _, ⟨_, rfl⟩, q⟩) (hs _ _)

/-! ### scalar builtins, by CallR -/
theorem vals1 {x : V} {us : List Value} (r : Vals [x] us) : ∃ u, us = [u] ∧ RelV x u := by
  cases r with
  | cons r1 r2 => cases r2; exact ⟨_, rfl, r1⟩
theorem vals2 {x y : V} {us : List Value} (r : Vals [x, y] us) : ∃ u w', us = [u, w'] ∧ RelV x u ∧ RelV y w' := by
  cases r with
  | cons r1 r2 =>
    cases r2 with
    | cons r3 r4 => cases r4; exact ⟨_, _, rfl, r1, r3⟩
theorem call_abs : CallR X (.builtin "abs") (fun xs H Q => ∃ i, xs = [.int i] ∧ Q (.int (if i < 0 then -i else i)) H) := by
  intro pins s σ H xs us Q I r h
  obtain ⟨i, rfl, q⟩ := h
  obtain ⟨u, rfl, t, rfl⟩ := vals1 r
  exact call_abs_int fun u tk => ⟨.int (if i < 0 then -i else i), H, I.tok _, ⟨_, rfl⟩, q⟩
theorem call_max2 (hc : X.calm = true) : CallR X (.builtin "max") (fun xs H Q => ∃ i j, xs = [.int i, .int j] ∧ Q (.int (if j > i then j else i)) H) := by
  intro pins s σ H xs us Q I r h
  obtain ⟨i, j, rfl, q⟩ := h
  obtain ⟨u, w', rfl, ⟨t, rfl⟩, ⟨t', rfl⟩⟩ := vals2 r
  refine max_two_ints (I.ok.hd hc) fun h' tk k => ⟨_, H, I.kept k, ?_, q⟩
  by_cases hj : j > i
  · rw [if_pos hj, if_pos hj]; exact ⟨_, rfl⟩
  · rw [if_neg hj, if_neg hj]; exact ⟨_, rfl⟩
theorem call_min2 (hc : X.calm = true) : CallR X (.builtin "min") (fun xs H Q => ∃ i j, xs = [.int i, .int j] ∧ Q (.int (if j < i then j else i)) H) := by
  intro pins s σ H xs us Q I r h
  obtain ⟨i, j, rfl, q⟩ := h
  obtain ⟨u, w', rfl, ⟨t, rfl⟩, ⟨t', rfl⟩⟩ := vals2 r
  refine min_two_ints (I.ok.hd hc) fun h' tk k => ⟨_, H, I.kept k, ?_, q⟩
  by_cases hj : j < i
  · rw [if_pos hj, if_pos hj]; exact ⟨_, rfl⟩
  · rw [if_neg hj, if_neg hj]; exact ⟨_, rfl⟩
theorem call_int1 : CallR X (.type "int") (fun xs H Q => (∃ i, xs = [.int i] ∧ Q (.int i) H) ∨ ∃ k, xs = [.bl k] ∧ Q (.int (if k then 1 else 0)) H) := by
  intro pins s σ H xs us Q I r h
  rcases h with ⟨i, rfl, q⟩ | ⟨k, rfl, q⟩
  · obtain ⟨u, rfl, t, rfl⟩ := vals1 r
    exact call_int_int ⟨.int i, H, I, ⟨_, rfl⟩, q⟩
  · obtain ⟨u, rfl, r1⟩ := vals1 r
    cases r1
    exact call_int_bool ⟨.int (if k then 1 else 0), H, I.tok _, ⟨_, rfl⟩, q⟩
theorem call_bool1 : CallR X (.type "bool") (fun xs H Q => (∃ i, xs = [.int i] ∧ Q (.bl (i != 0)) H) ∨ ∃ k, xs = [.bl k] ∧ Q (.bl k) H) := by
  intro pins s σ H xs us Q I r h
  rcases h with ⟨i, rfl, q⟩ | ⟨k, rfl, q⟩
  · obtain ⟨u, rfl, t, rfl⟩ := vals1 r
    exact call_bool_int ⟨.bl (i != 0), H, I, rfl, q⟩
  · obtain ⟨u, rfl, r1⟩ := vals1 r
    cases r1
    exact call_bool_bool ⟨.bl k, H, I, rfl, q⟩
theorem call_str_int : CallR X (.type "str") (fun xs H Q => ∃ i, xs = [.int i] ∧ i.natAbs.log2 < 1920 ∧ Q (.str (toString i)) H) := by
  intro pins s σ H xs us Q I r h
  obtain ⟨i, rfl, hz, q⟩ := h
  obtain ⟨u, rfl, t, rfl⟩ := vals1 r
  exact PySem.P.str_of_int hz ⟨.str _, H, I.tok _, ⟨_, rfl⟩, q⟩
theorem call_ord : CallR X (.builtin "ord") (fun xs H Q => ∃ x, xs = [.str x] ∧ x.length = 1 ∧ Q (.int (x.cps.getD 0 0 : Nat)) H) := by
  intro pins s σ H xs us Q I r h
  obtain ⟨x, rfl, hz, q⟩ := h
  obtain ⟨u, rfl, t, rfl⟩ := vals1 r
  exact ord_of_one hz ⟨.int _, H, I.tok _, ⟨_, rfl⟩, q⟩
theorem call_chr : CallR X (.builtin "chr") (fun xs H Q => ∃ i, xs = [.int i] ∧ 0 ≤ i ∧ i ≤ 1114111 ∧ Q (.str ⟨#[i.toNat]⟩) H) := by
  intro pins s σ H xs us Q I r h
  obtain ⟨i, rfl, h0, h1, q⟩ := h
  obtain ⟨u, rfl, t, rfl⟩ := vals1 r
  exact chr_of_range h0 h1 ⟨.str _, H, I.tok _, ⟨_, rfl⟩, q⟩
/-- len of a str, a bytes, a list, a tuple -/
def LenV (K : PySem.W.Frag) (x : V) (H : Hp) (n : Nat) : Prop :=
  match x with
  | .str y => y.length ≤ sizeLine ∧ n = y.length
  | .byt y => y.size ≤ sizeLine ∧ n = y.size
  | .ref p => (∃ xs, SqL K H p xs ∧ n = xs.length) ∨ ∃ xs, SqT K H p xs ∧ n = xs.length
  | _ => False
theorem call_len : CallR X (.builtin "len") (fun xs H Q => ∃ x n, xs = [x] ∧ LenV X.K x H n ∧ Q (.int n) H) := by
  intro pins s σ H xs us Q I r h
  obtain ⟨x, n, rfl, e, q⟩ := h
  obtain ⟨u, rfl, rx⟩ := vals1 r
  have hl := line63
  have hs : sizeLine = 16777216 := sizeLine_eq
  cases x with
  | str y =>
    obtain ⟨t, rfl⟩ := rx
    obtain ⟨hy, e'⟩ : y.length ≤ sizeLine ∧ n = y.length := e
    subst e'
    exact len_str (by omega) ⟨.int _, H, I.tok _, ⟨_, rfl⟩, q⟩
  | byt y =>
    obtain ⟨t, rfl⟩ := rx
    obtain ⟨hy, e'⟩ : y.size ≤ sizeLine ∧ n = y.size := e
    subst e'
    exact PySem.W.len_bytes (by omega) ⟨.int _, H, I.tok _, ⟨_, rfl⟩, q⟩
  | ref p =>
    cases rx
    have e' : (∃ xs, SqL X.K H p xs ∧ n = xs.length) ∨ ∃ xs, SqT X.K H p xs ∧ n = xs.length := e
    rcases e' with ⟨xs, hx, e'⟩ | ⟨xs, hx, e'⟩
    · subst e'
      obtain ⟨its, r', pl, hz⟩ := I.list hx
      have hlen := r'.length
      exact Calls.call_len_list pl.isList (by simp only [List.size_toArray]; omega) ⟨.int xs.length, H, I.tok _, ⟨_, by simp only [List.size_toArray]; rw [hlen]⟩, q⟩
    · subst e'
      obtain ⟨its, r', pl, hz⟩ := I.tuple hx
      have hlen := r'.length
      exact len_tuple pl (by simp only [List.size_toArray]; omega) ⟨.int xs.length, H, I.tok _, ⟨_, by simp only [List.size_toArray]; rw [hlen]⟩, q⟩
  | _ => exact (show False from e).elim
/-- divmod: a new tuple -/
theorem call_divmod : CallR X (.builtin "divmod") (fun xs H Q => ∃ i j, xs = [.int i, .int j] ∧ CDiv i j ∧ ∀ p, H p = none → Q (.ref p) (upd H p (.tup [.int (i / j), .int (i % j)]))) := by
  intro pins s σ H xs us Q I r h
  obtain ⟨i, j, rfl, ⟨h1, h2⟩, q⟩ := h
  obtain ⟨u, w', rfl, ⟨t, rfl⟩, ⟨t', rfl⟩⟩ := vals2 r
  refine divmod_int (by omega) ?_ (.inl (PyProof.noPylong_small (by omega)))
  rw [Int.fdiv_eq_ediv_of_nonneg i (by omega), Int.fmod_eq_emod_of_nonneg i (by omega)]
  have hn : H s.heap.objs.size = none := I.hok.fresh (Nat.le_refl _)
  refine ⟨.ref s.heap.objs.size, _, ?_, rfl, q _ hn⟩
  refine I.laid (fun b o e => Heap.get?_push_of_some _ e) (Nat.le_refl _) ⟨by simp only [List.length_cons, List.length_nil]; rw [sizeLine_eq]; decide, [.int (i / j) s.toks, .int (i % j) (s.toks + 1)], .cons ⟨_, rfl⟩ (.cons ⟨_, rfl⟩ .nil), ?_⟩
  exact ⟨_, Heap.get?_push_size s.heap rfl, rfl, 0, rfl⟩
end
end L2

namespace L2
open PySem PySem.Spec PyProof.Rows

/-! ### an instance, its attributes a map -/
structure ObjM (h : Heap) (x dx C : Addr) (mA : Str → Option Value) : Prop where
  obj : h.get? x = some (PySem.W.instObj C dx)
  ns : h.Ns1 dx mA
  ne : dx ≠ x

theorem lookIn_ns {h : Heap} {dx : Addr} {mA : Str → Option Value} (n : h.Ns1 dx mA) : ∃ od, h.get? dx = some od ∧ ∀ name, PySem.W.lookIn name od = some (mA name) := by
  obtain ⟨o, es, ep, ho, hd, hk, _, hm⟩ := n
  refine ⟨o, ho, fun name => ?_⟩
  have e := hm name
  unfold nsFind findBy at e
  rw [← Array.find?_toList] at e
  unfold PySem.W.lookIn
  rw [hd]
  dsimp only
  split
  · rename_i y q
    rw [q] at e
    exact congrArg some e
  · rename_i q
    rw [q] at e
    have a : es.toList.any (·.refKey) = false := by
      rw [List.any_eq_false]
      intro y hy
      obtain ⟨z, t, hkey⟩ := hk y (Array.mem_toList_iff.mp hy)
      simp [DictEntry.refKey, hkey]
    have a' : ¬ es.toList.any (·.refKey) = true := by rw [a]; exact Bool.false_ne_true
    rw [if_neg a']
    exact congrArg some e

theorem ObjM.look {h : Heap} {x dx C : Addr} {mA : Str → Option Value} (I : ObjM h x dx C mA) : ∃ od, PySem.W.InstAt h x (PySem.W.instObj C dx) C (some od) ∧ ∀ name, PySem.W.lookIn name od = some (mA name) :=
  let ⟨od, ho, hl⟩ := lookIn_ns I.ns
  ⟨od, ⟨I.obj, rfl, rfl, ho⟩, hl⟩

section
variable {prog : Program} {w : World} {A : Around} {E : Value → Shared → Prop} {s : Shared} {K : PySem.W.Frag} {x dx C f : Addr} {mA : Str → Option Value} {name : Str} {v : Value}

theorem get_map {expr : Bool} {Q : Value → Shared → Prop} (X : K.In s.heap) (I : ObjM s.heap x dx C mA) (hg : PySem.W.plainGet K C name = true) (hh : PySem.W.hasDictIn K C = true)
    (ha : PySem.W.findIn K (.ref C) name = some none) (hv : mA name = some v) (hv' : PySem.W.handedIn v = true) (h : Q v { s with toks := s.toks + 1 }) :
    wpAny (model prog w) A (getAttr (.ref x) name expr) Q E s := by
  obtain ⟨od, J, hl⟩ := I.look
  exact PySem.W.get_value X J (PySem.W.plainGet_of hg).1 (PySem.W.findObj_own hh ha rfl (by rw [hl, hv])) hv' h

theorem get_const {expr : Bool} {a : Value} {Q : Value → Shared → Prop} (X : K.In s.heap) (I : ObjM s.heap x dx C mA) (hg : PySem.W.plainGet K C name = true) (hh : PySem.W.hasDictIn K C = true)
    (ha : PySem.W.findIn K (.ref C) name = some (some a)) (hn : PySem.W.specialIn K a "__get__" = some none) (hc : PySem.W.copiedNames.contains name = false) (hv : mA name = none) (hv' : PySem.W.handedIn a = true)
    (h : Q a { s with toks := s.toks + 1 }) : wpAny (model prog w) A (getAttr (.ref x) name expr) Q E s := by
  obtain ⟨od, J, hl⟩ := I.look
  exact PySem.W.get_value X J (PySem.W.plainGet_of hg).1 (PySem.W.findObj_cls hh ha hn hv' hc (by rw [hl, hv])) hv' h

theorem get_meth {pl : Sem Bool} {Q : Value × List Value → Shared → Prop} (X : K.In s.heap) (I : ObjM s.heap x dx C mA) (hg : PySem.W.plainGet K C name = true)
    (hf : PySem.W.findIn K (.ref C) name = some (some (.ref f))) (ht : PySem.W.isFn K (.ref f) = true) (hv : mA name = none) (h : Q (.ref f, [.ref x]) s) :
    wpAny (model prog w) A (getMethod (.ref x) name pl) Q E s := by
  obtain ⟨od, J, hl⟩ := I.look
  exact PySem.W.method_fn X J (PySem.W.plainGet_of hg).1 (PySem.W.plainGet_of hg).2 hf (beq_iff_eq.mp ht) (by show (PySem.W.lookIn name od).map (·.isSome) = some false; rw [hl, hv]; rfl) h

theorem set_map {ns : List Str} {Q : Unit → Shared → Prop} (X : K.In s.heap) (I : ObjM s.heap x dx C mA)
    (hs : PySem.W.findIn K (.ref C) "__setattr__" = some (some (.builtin "object.__setattr__"))) (hp : PySem.W.plainOver K C = true) (ht : PySem.W.takerIn K C name = some none) (hh : PySem.W.hasDictIn K C = true)
    (hw : PySem.Within mA ns) (hsz : ns.length ≤ sizeLine)
    (h : ∀ h', ObjM h' x dx C (fun y => if y = name then some v else mA y) → Heap.SameBut dx s.heap h' → Q () { s with heap := h', toks := s.toks + 2 }) :
    wpAny (model prog w) A (setAttr (.ref x) name v) Q E s := by
  obtain ⟨od, J, hl⟩ := I.look
  refine PySem.W.set_plain X J hs (PySem.W.osa_open (s := { s with toks := s.toks + 1 }) (r := none) X J hp ht fun b => ?_)
  obtain ⟨cd, hc, hd'⟩ := PySem.W.any_some hh
  have hx : s.heap.get? x = some ⟨.ref C, some dx, .plain, #[]⟩ := I.obj
  refine wpAny_bind (wpAny_pure (wpAny_bind (wpAny_bind (wpAny_loadPart hx (wpAny_bind (PySem.W.Looks.here (s := { s with toks := s.toks + 1 }) (PySem.W.looks_clsIn X hc) ?_))))))
  rw [hd']
  refine wpAny_pure (a := some dx) (wpAny_bind (wpAny_pure (wpAny_bind ?_)))
  refine wpAny_nsSet1 (s := { s with toks := s.toks + 1 }) I.ns fun h' hn2 hs2 => ?_
  obtain ⟨oD, esD, epD, hoD, hdD, hcD⟩ := hn2.count (PySem.Within.cons name v hw)
  refine wpAny_bind (wpAny_lookBehind hoD (by rw [hdD]; exact pastItsLine_dict (Nat.le_trans hcD (by rw [List.length_cons]; omega))) ?_)
  exact wpAny_pure (h _ ⟨(hs2.2 _ (Ne.symm I.ne)).trans I.obj, hn2, I.ne⟩ hs2)

/-- C(..): the dict at the heap's end, the instance behind it; then its __init__ -/
theorem make_map {R : Result → Shared → Prop} {vs : List Value} {kw : List (Str × Value)} (X : K.In s.heap) (hm : PySem.W.makesIn K C = true)
    (hi : PySem.W.findIn K (.ref C) "__init__" = some (some (.ref f))) (hf : PySem.W.typeIn K (.ref f) = some (.type "function"))
    (h : codeAny (model prog w) (A.under (.builtin "type.__call__" ⟨.ref C :: vs, kw⟩)) (.call (.ref f) ⟨.ref (s.heap.objs.size + 1) :: vs, kw⟩) (PySem.W.InitBack (s.heap.objs.size + 1) R)
      { s with heap := (s.heap.push PySem.W.emptyDict).push (PySem.W.instObj C s.heap.objs.size) }) :
    codeAny (model prog w) A (.call (.ref C) ⟨vs, kw⟩) R s := by
  obtain ⟨hh, g, d, t, os⟩ := s
  exact PySem.W.make_core (PySem.W.makes_of X hm) (PySem.W.looks_findIn X hi) (fun self => PySem.W.bind_fn X self hf) (.inl rfl) h
/-- C() where there is no __init__ but object's -/
theorem make_map0 {R : Result → Shared → Prop} (X : K.In s.heap) (hm : PySem.W.makesIn K C = true)
    (hi : PySem.W.findIn K (.ref C) "__init__" = some (some (.builtin "object.__init__")))
    (hb : ∀ self, PySem.W.Looks (model prog w) s.heap (bindSpecial (.builtin "object.__init__") self) (.builtin "object.__init__", [self]))
    (h : codeAny (model prog w) (A.under (.builtin "type.__call__" ⟨[.ref C], []⟩)) (.call (.builtin "object.__init__") ⟨[.ref (s.heap.objs.size + 1)], []⟩) (PySem.W.InitBack (s.heap.objs.size + 1) R)
      { s with heap := (s.heap.push PySem.W.emptyDict).push (PySem.W.instObj C s.heap.objs.size) }) :
    codeAny (model prog w) A (.call (.ref C) ⟨[], []⟩) R s := by
  obtain ⟨hh, g, d, t, os⟩ := s
  exact PySem.W.make_core (PySem.W.makes_of X hm) (PySem.W.looks_findIn X hi) hb (.inr ⟨rfl, rfl⟩) h
end

/-! ### the attributes as a list of pairs -/
def putF (f : Str) (v : V) : List (Str × V) → List (Str × V)
  | [] => [(f, v)]
  | (g, x) :: r => if g = f then (g, v) :: r else (g, x) :: putF f v r
theorem lookup_putF (f g : Str) (v : V) : ∀ fs : List (Str × V), (putF f v fs).lookup g = if g = f then some v else fs.lookup g
  | [] => by
    show List.lookup g [(f, v)] = _
    by_cases h : g = f
    · have hb : (g == f) = true := beq_iff_eq.mpr h
      simp only [List.lookup, hb, if_pos h]
    · have hb : (g == f) = false := beq_eq_false_iff_ne.mpr h
      simp only [List.lookup, hb, if_neg h]
  | (k, x) :: r => by
    have ih := lookup_putF f g v r
    rw [show putF f v ((k, x) :: r) = (if k = f then (k, v) :: r else (k, x) :: putF f v r) from rfl]
    by_cases hk : k = f
    · rw [if_pos hk]
      by_cases h : g = k
      · have hb : (g == k) = true := beq_iff_eq.mpr h
        simp only [List.lookup, hb, if_pos (h.trans hk)]
      · have hb : (g == k) = false := beq_eq_false_iff_ne.mpr h
        simp only [List.lookup, hb, if_neg (fun e : g = f => h (e.trans hk.symm))]
    · rw [if_neg hk]
      by_cases h : g = k
      · have hb : (g == k) = true := beq_iff_eq.mpr h
        simp only [List.lookup, hb, if_neg (fun e : g = f => hk (h.symm.trans e))]
      · have hb : (g == k) = false := beq_eq_false_iff_ne.mpr h
        simp only [List.lookup, hb]
        exact ih
theorem keys_putF (f : Str) (v : V) : ∀ fs : List (Str × V), f ∈ (putF f v fs).map (·.1) ∧ ∀ g, g ∈ fs.map (·.1) → g ∈ (putF f v fs).map (·.1)
  | [] => ⟨by simp [putF], fun g h => by simp at h⟩
  | (k, x) :: r => by
    obtain ⟨i1, i2⟩ := keys_putF f v r
    rw [show putF f v ((k, x) :: r) = (if k = f then (k, v) :: r else (k, x) :: putF f v r) from rfl]
    by_cases hk : k = f
    · rw [if_pos hk]
      subst hk
      exact ⟨by simp, fun g h => by simpa using h⟩
    · rw [if_neg hk]
      refine ⟨?_, fun g h => ?_⟩
      · rw [List.map_cons]
        exact List.mem_cons_of_mem _ i1
      · rw [List.map_cons] at h ⊢
        rcases List.mem_cons.mp h with e | e
        · exact List.mem_cons.mpr (.inl e)
        · exact List.mem_cons_of_mem _ (i2 g e)
theorem length_putF (f : Str) (v : V) : ∀ fs : List (Str × V), (putF f v fs).length ≤ fs.length + 1
  | [] => by simp [putF]
  | (k, x) :: r => by
    have ih := length_putF f v r
    rw [show putF f v ((k, x) :: r) = (if k = f then (k, v) :: r else (k, x) :: putF f v r) from rfl]
    by_cases hk : k = f
    · rw [if_pos hk, List.length_cons, List.length_cons]; omega
    · rw [if_neg hk, List.length_cons, List.length_cons]; omega

theorem RelO.some_of {v : V} {o : Option Value} (r : RelO (some v) o) : ∃ u, o = some u ∧ RelV v u := by
  cases o with
  | none => exact (show False from r).elim
  | some u => exact ⟨u, rfl, r⟩
theorem RelO.none_of {o : Option Value} (r : RelO none o) : o = none := by
  cases o with
  | none => rfl
  | some u => exact (show False from r).elim
theorem handed_of {v : V} {u : Value} (r : RelV v u) : PySem.W.handedIn u = true := by
  cases v with
  | non => cases (show u = Value.none from r); rfl
  | bl b => cases (show u = Value.bool b from r); rfl
  | int i => obtain ⟨t, e⟩ := (show ∃ t, u = Value.int i t from r); cases e; rfl
  | str x => obtain ⟨t, e⟩ := (show ∃ t, u = Value.str x t from r); cases e; rfl
  | byt b => obtain ⟨t, e⟩ := (show ∃ t, u = Value.bytes b t from r); cases e; rfl
  | flt b => obtain ⟨t, e⟩ := (show ∃ t, u = Value.float b t from r); cases e; rfl
  | ref a => cases (show u = Value.ref a from r); rfl
  | ty n => cases (show u = Value.type n from r); rfl

section
variable {P : Program} {w : World} {H H' : Hp} {h h' : Heap} {a C dx : Addr} {fs fs' : List (Str × V)}
theorem ins_get (hok : HOk P w H h) (e : H a = some (.ins C dx fs)) : ∃ mA, ObjM h a dx C mA ∧ (∀ f, RelO (fs.lookup f) (mA f)) ∧ PySem.Within mA (fs.map (·.1)) ∧ fs.length ≤ 1000 ∧ H dx = some (.own a) := by
  obtain ⟨d, z, ne, ob, mA, n, r, q⟩ := (show ObjOk P w H h a (.ins C dx fs) from hok a _ e)
  exact ⟨mA, ⟨ob, n, ne⟩, r, q, z, d⟩
end

/-! ### what of the text a class must have -/
structure Cls (K : PySem.W.Frag) (C : Addr) : Prop where
  pg : PySem.W.plainGet K C Str.empty = true
  hd : PySem.W.hasDictIn K C = true
  po : PySem.W.plainOver K C = true
  sa : PySem.W.findIn K (.ref C) "__setattr__" = some (some (.builtin "object.__setattr__"))
theorem Cls.get {K : PySem.W.Frag} {C : Addr} (c : Cls K C) (f : Str) : PySem.W.plainGet K C f = true := c.pg
/-- no class of it has the name -/
def NoAttr (K : PySem.W.Frag) (C : Addr) (f : Str) : Prop := PySem.W.findIn K (.ref C) f = some none
theorem NoAttr.taker {K : PySem.W.Frag} {C : Addr} {f : Str} (n : NoAttr K C f) : PySem.W.takerIn K C f = some none := by
  unfold PySem.W.takerIn
  rw [show PySem.W.findIn K (.ref C) f = some none from n]
  rfl
/-- a constant of the class -/
structure Con (K : PySem.W.Frag) (C : Addr) (f : Str) (v : V) (u : Value) : Prop where
  at_ : PySem.W.findIn K (.ref C) f = some (some u)
  rel : RelV v u
  get : PySem.W.specialIn K u "__get__" = some none
  cp : PySem.W.copiedNames.contains f = false
/-- a method: a plain def of the class or of one above it -/
structure Meth (K : PySem.W.Frag) (C : Addr) (m : Str) (f : Addr) : Prop where
  at_ : PySem.W.findIn K (.ref C) m = some (some (.ref f))
  fn : PySem.W.isFn K (.ref f) = true
  kp : PySem.W.keepIn K (.ref f) = true

section
variable {X : Cx} {pins : List (Addr × Obj)} {σ : St} {H : Hp} {s : Shared} {a C dx : Addr} {fs : List (Str × V)} {f : Str} {v : V} {A : Around} {E : Value → Shared → Prop}

theorem getattr_ok {b : Bool} {Q : Value → Shared → Prop} (I : Inv X pins σ H s) (e : H a = some (.ins C dx fs)) (c : Cls X.K C) (n : NoAttr X.K C f) (l : fs.lookup f = some v)
    (h : ∀ u s', Inv X pins σ H s' → RelV v u → Q u s') : wpAny (model X.prog X.w) A (getAttr (.ref a) f b) Q E s := by
  obtain ⟨mA, O, r, _, _, _⟩ := ins_get I.hok e
  obtain ⟨u, hu, ru⟩ := RelO.some_of (v := v) (o := mA f) (by rw [← l]; exact r f)
  exact get_map I.kIn O (c.get f) c.hd n hu (handed_of ru) (h u _ (I.tok _) ru)

theorem getcon_ok {b : Bool} {u : Value} {Q : Value → Shared → Prop} (I : Inv X pins σ H s) (e : H a = some (.ins C dx fs)) (c : Cls X.K C) (k : Con X.K C f v u) (l : fs.lookup f = none)
    (h : ∀ s', Inv X pins σ H s' → Q u s') : wpAny (model X.prog X.w) A (getAttr (.ref a) f b) Q E s := by
  obtain ⟨mA, O, r, _, _, _⟩ := ins_get I.hok e
  have hn : mA f = none := RelO.none_of (by rw [← l]; exact r f)
  exact get_const I.kIn O (c.get f) c.hd k.at_ k.get k.cp hn (handed_of k.rel) (h _ (I.tok _))

theorem getmeth_ok {m : Str} {g : Addr} {pl : Sem Bool} {Q : Value × List Value → Shared → Prop} (I : Inv X pins σ H s) (e : H a = some (.ins C dx fs)) (c : Cls X.K C) (k : Meth X.K C m g) (l : fs.lookup m = none)
    (h : Q (.ref g, [.ref a]) s) : wpAny (model X.prog X.w) A (getMethod (.ref a) m pl) Q E s := by
  obtain ⟨mA, O, r, _, _, _⟩ := ins_get I.hok e
  have hn : mA m = none := RelO.none_of (by rw [← l]; exact r m)
  exact get_meth I.kIn O (c.get m) k.at_ k.fn hn h

theorem setattr_ok {y : V} {u : Value} {Q : Unit → Shared → Prop} (I : Inv X pins σ H s) (e : H a = some (.ins C dx fs)) (c : Cls X.K C) (n : NoAttr X.K C f) (hl : fs.length < 1000) (ry : RelV y u)
    (h : ∀ s', Inv X pins σ (upd H a (.ins C dx (putF f y fs))) s' → Q () s') : wpAny (model X.prog X.w) A (setAttr (.ref a) f u) Q E s := by
  obtain ⟨mA, O, r, wi, _, ho⟩ := ins_get I.hok e
  have hz : (fs.map (·.1)).length ≤ sizeLine := by rw [List.length_map, sizeLine_eq]; omega
  refine set_map I.kIn O c.sa c.po n.taker c.hd wi hz fun h' O' sb => h _ ?_
  have hd : ∃ o, h'.get? dx = some o := let ⟨o, _, _, e', _⟩ := O'.ns; ⟨o, e'⟩
  refine I.write (x := a) (e := dx) (by rw [e]; exact True.intro) (.inr ho) (fun b q hb z => (sb.2 b hb).trans z) hd ?_
  refine ⟨by rw [upd_ne O.ne]; exact ho, ?_, O.ne, O'.obj, _, O'.ns, fun g => ?_, fun g hg => ?_⟩
  · have := length_putF f y fs; omega
  · show RelO ((putF f y fs).lookup g) (if g = f then some u else mA g)
    rw [lookup_putF]
    by_cases q : g = f
    · rw [if_pos q, if_pos q]; exact ry
    · rw [if_neg q, if_neg q]; exact r g
  · by_cases q : g = f
    · rw [q]; exact (keys_putF f y fs).1
    · refine (keys_putF f y fs).2 g (wi g fun z => hg ?_)
      show (if g = f then some u else mA g) = none
      rw [if_neg q]; exact z

/-- a new instance, tracked, without attributes -/
theorem Inv.made (I : Inv X pins σ H s) : Inv X pins σ (upd (upd H s.heap.objs.size (.own (s.heap.objs.size + 1))) (s.heap.objs.size + 1) (.ins C s.heap.objs.size []))
    { s with heap := (s.heap.push PySem.W.emptyDict).push (PySem.W.instObj C s.heap.objs.size) } := by
  have e1 : (s.heap.push PySem.W.emptyDict).get? s.heap.objs.size = some PySem.W.emptyDict := Heap.get?_push_size s.heap rfl
  have e2 : ((s.heap.push PySem.W.emptyDict).push (PySem.W.instObj C s.heap.objs.size)).get? (s.heap.objs.size + 1) = some (PySem.W.instObj C s.heap.objs.size) := by
    have := Heap.get?_push_size (s.heap.push PySem.W.emptyDict) (o := PySem.W.instObj C s.heap.objs.size) rfl
    rwa [Heap.size_push] at this
  have e3 : (s.heap.push PySem.W.emptyDict).Ns s.heap.objs.size (fun _ => none) := ⟨PySem.W.emptyDict, #[], _, e1, rfl, (fun e he => absurd he (by simp)), fun _ => rfl⟩
  have I1 := I.laid (a := s.heap.objs.size) (o := .own (s.heap.objs.size + 1)) (h' := s.heap.push PySem.W.emptyDict) (t' := s.toks) (fun b u q => Heap.get?_push_of_some _ q) (Nat.le_refl _) ⟨_, e1⟩
  refine I1.laid (a := s.heap.objs.size + 1) (o := .ins C s.heap.objs.size []) (t' := s.toks) (fun b u q => Heap.get?_push_of_some _ q) (Nat.le_of_eq (Heap.size_push _ _)) ?_
  have ne : s.heap.objs.size ≠ s.heap.objs.size + 1 := Nat.ne_of_lt (Nat.lt_succ_self _)
  refine ⟨by rw [upd_ne ne, upd_same], Nat.zero_le _, ne, e2, fun _ => none, (Heap.Ns1.of_empty e3).at fun o q => Heap.get?_push_of_some _ q, fun _ => True.intro, fun y hy => absurd rfl hy⟩

/-- e.f where nothing but the object is asked: through attributeBase (super) and the last hold -/
theorem attr_of {prog : Program} {w : World} {env : Env} {e : Expr} {f : Str} {pos : Pos} {s : Shared} {Q : Value → Shared → Prop} (hb : attributeBase e f env (eval e env) = eval e env)
    (h : wpAny (model prog w) A (eval e env) (fun o s₁ => wpAny (model prog w) A (getAttr o f true) Q E s₁) E s) : wpAny (model prog w) A (eval (.Attribute e f pos) env) Q E s :=
  Attribute_any_ h (by rw [arm_eval_Attribute, hb])
end

/-! ### readings and rules -/
/-- e.f, an attribute of the instance -/
def tFld (K : PySem.W.Frag) (ta : TE) (f : Str) : TE := fun σ H Q => ta σ H fun x H1 => ∃ a C dx fs v, x = .ref a ∧ H1 a = some (.ins C dx fs) ∧ Cls K C ∧ NoAttr K C f ∧ fs.lookup f = some v ∧ Q v H1
/-- e.f, a constant of the class -/
def tCon (K : PySem.W.Frag) (ta : TE) (f : Str) : TE := fun σ H Q => ta σ H fun x H1 => ∃ a C dx fs v u, x = .ref a ∧ H1 a = some (.ins C dx fs) ∧ Cls K C ∧ Con K C f v u ∧ fs.lookup f = none ∧ Q v H1
/-- e.f = value -/
def sFld (K : PySem.W.Frag) (ta tv : TE) (f : Str) : TS := fun D σ H => tv σ H fun y H1 => ta σ H1 fun x H2 => ∃ a C dx fs, x = .ref a ∧ H2 a = some (.ins C dx fs) ∧ Cls K C ∧ NoAttr K C f ∧ fs.length < 1000 ∧
  D.nx σ (upd H2 a (.ins C dx (putF f y fs)))
/-- an augmented operator on two values -/
def InOp (X : Cx) (op : Operator) (rd : V → V → Hp → VK → Prop) : Prop :=
  ∀ (pins : List (Addr × Obj)) (s : Shared) (σ : St) (H : Hp) (x y : V) (u v : Value) (Q : VK), Inv X pins σ H s → RelV x u → RelV y v → rd x y H Q → wpAny (model X.prog X.w) X.A (inplaceOp op u v) (EP X pins σ Q) X.xe s
/-- e.f op= value -/
def sFldAug (K : PySem.W.Frag) (ta tv : TE) (rd : V → V → Hp → VK → Prop) (f : Str) : TS := fun D σ H => ta σ H fun x H1 => ∃ a C dx fs v, x = .ref a ∧ H1 a = some (.ins C dx fs) ∧ Cls K C ∧ NoAttr K C f ∧ fs.lookup f = some v ∧
  tv σ H1 fun y H2 => rd v y H2 fun z H3 => ∃ dx' fs', H3 a = some (.ins C dx' fs') ∧ fs'.length < 1000 ∧ D.nx σ (upd H3 a (.ins C dx' (putF f z fs')))

section
variable {X : Cx} {o e value : Expr} {f : Str} {pos pos' tpos : Pos} {ta tv : TE}
theorem pe_fld (he : PE X e ta) (hb : attributeBase e f X.env (eval e X.env) = eval e X.env) : PE X (.Attribute e f pos) (tFld X.K ta f) := by
  intro pins s σ H Q I h
  refine attr_of hb (thn (he pins s σ H _ I h) fun u s1 ⟨x, H1, I1, rx, a, C, dx, fs, v, ex, ea, c, n, l, q⟩ => ?_)
  subst ex
  obtain rfl : u = Value.ref a := rx
  exact getattr_ok I1 ea c n l fun u' s2 I2 ru => ⟨v, H1, I2, ru, q⟩
theorem pe_con (he : PE X e ta) (hb : attributeBase e f X.env (eval e X.env) = eval e X.env) : PE X (.Attribute e f pos) (tCon X.K ta f) := by
  intro pins s σ H Q I h
  refine attr_of hb (thn (he pins s σ H _ I h) fun u s1 ⟨x, H1, I1, rx, a, C, dx, fs, v, u0, ex, ea, c, k, l, q⟩ => ?_)
  subst ex
  obtain rfl : u = Value.ref a := rx
  exact getcon_ok I1 ea c k l fun s2 I2 => ⟨v, H1, I2, k.rel, q⟩
theorem ps_fld (ha : PE X o ta) (hv : PE X value tv) (hs : swapsWith value (some (.Attribute o f pos')) pos.line X.env = pure false) : PS X (.Assign [.Attribute o f pos'] value pos) (sFld X.K ta tv f) := by
  intro pins s σ H D I h
  refine plainObj_wpAny_Assign_Attribute (thn (hv pins s σ H _ I h) fun u s1 ⟨y, H1, I1, ry, q⟩ => thn (ha pins s1 σ H1 _ I1 q) fun ov s2 ⟨x, H2, I2, rx, a, C, dx, fs, ex, ea, c, n, l, q2⟩ => ?_) hs
  subst ex
  obtain rfl : ov = Value.ref a := rx
  exact setattr_ok I2 ea c n l ry fun s3 I3 => ⟨σ, _, I3, q2⟩
theorem ps_fldaug {op : Operator} {rd : V → V → Hp → VK → Prop} (ha : PE X o ta) (hv : PE X value tv) (hop : InOp X op rd) : PS X (.AugAssign (.Attribute o f tpos) op value pos) (sFldAug X.K ta tv rd f) := by
  intro pins s σ H D I h
  refine wpAny_AugAssign_AttributeAny (thn (ha pins s σ H _ I h) fun ov s1 ⟨x, H1, I1, rx, a, C, dx, fs, v, ex, ea, c, n, l, q⟩ => ?_)
  subst ex
  obtain rfl : ov = Value.ref a := rx
  refine getattr_ok I1 ea c n l fun u s2 I2 ru => thn (hv pins s2 σ H1 _ I2 q) fun w3 s3 ⟨y, H2, I3, ry, q3⟩ => thn (hop pins s3 σ H2 v y u w3 _ I3 ru ry q3) fun w4 s4 ⟨z, H3, I4, rz, dx', fs', ea', l', q4⟩ => ?_
  exact setattr_ok I4 ea' c n l' rz fun s5 I5 => ⟨σ, _, I5, q4⟩
def rAdd : V → V → Hp → VK → Prop := fun x y H Q => ∃ i j, x = .int i ∧ y = .int j ∧ Q (.int (i + j)) H
def rSub : V → V → Hp → VK → Prop := fun x y H Q => ∃ i j, x = .int i ∧ y = .int j ∧ Q (.int (i - j)) H
theorem in_add : InOp X .Add rAdd := by
  rintro pins s σ H x y u v Q I rx ry ⟨i, j, rfl, rfl, q⟩
  obtain ⟨t, rfl⟩ := (show ∃ t, u = Value.int i t from rx)
  obtain ⟨t', rfl⟩ := (show ∃ t', v = Value.int j t' from ry)
  exact PyProof.Rows.iadd_int ⟨.int (i + j), H, I.tok _, ⟨_, rfl⟩, q⟩
theorem in_sub : InOp X .Sub rSub := by
  rintro pins s σ H x y u v Q I rx ry ⟨i, j, rfl, rfl, q⟩
  obtain ⟨t, rfl⟩ := (show ∃ t, u = Value.int i t from rx)
  obtain ⟨t', rfl⟩ := (show ∃ t', v = Value.int j t' from ry)
  exact PyProof.Rows.isub_int ⟨.int (i - j), H, I.tok _, ⟨_, rfl⟩, q⟩

/-- what is between an instance and its method: the tree of a method call -/
theorem methcall_of {pl : Sem Bool} {m : Str} {apos : Pos} {args : List Expr} {pins : List (Addr × Obj)} {s : Shared} {σ : St} {H : Hp} {Q : Value → Shared → Prop} {te : TE} (he : PE X e te) (I : Inv X pins σ H s)
    (h : te σ H fun x H1 => ∃ a C dx fs g, x = .ref a ∧ H1 a = some (.ins C dx fs) ∧ Cls X.K C ∧ Meth X.K C m g ∧ fs.lookup m = none ∧
      ∀ s1, Inv X pins σ H1 s1 → wpAny (model X.prog X.w) X.A (callWith pos (.ref g) [.ref a] (backTo pos (starEach args X.env)) (backToKw pos (keywordEach [] X.env))) Q X.xe s1)
    (ht : eval (.Call (.Attribute e m apos) args [] pos) X.env = (do
      let ov ← eval e X.env
      standAt apos.atName
      let (f, first) ← holding [ov] (getMethod ov m pl)
      callWith pos f first (backTo pos (starEach args X.env)) (backToKw pos (keywordEach [] X.env)))) :
    wpAny (model X.prog X.w) X.A (eval (.Call (.Attribute e m apos) args [] pos) X.env) Q X.xe s := by
  refine PySem.W.methodCall_KW (pl := pl) (thn (he pins s σ H _ I h) fun u s1 ⟨x, H1, I1, rx, a, C, dx, fs, g, ex, ea, c, k, l, q⟩ => ?_) ht
  subst ex
  obtain rfl : u = Value.ref a := rx
  exact getmeth_ok I1 ea c k l (q s1 I1)
end

/-! ### isinstance -/
section
variable {X : Cx} {pins : List (Addr × Obj)} {σ : St} {H : Hp} {s : Shared} {A : Around} {E : Value → Shared → Prop} {Q : Value → Shared → Prop} {c : Value} {b : Bool}
/-- the type of a value, as the fragment's deciders take it; for an instance its class -/
inductive TyOf (K : PySem.W.Frag) (H : Hp) : V → Value → Prop where
  | non : TyOf K H .non (.type "NoneType")
  | bl (x : Bool) : TyOf K H (.bl x) (.type "bool")
  | int (i : Int) : TyOf K H (.int i) (.type "int")
  | str (x : Str) : TyOf K H (.str x) (.type "str")
  | flt (x : UInt64) : TyOf K H (.flt x) (.type "float")
  | lst {a : Addr} {xs : List V} (e : H a = some (.lst xs)) : TyOf K H (.ref a) (.type "list")
  | frz {a : Addr} {o : Obj} {xs : List V} (e : H a = some (.frz o (.lst xs))) : TyOf K H (.ref a) (.type "list")
  | tup {a : Addr} {xs : List V} (e : H a = some (.tup xs)) : TyOf K H (.ref a) (.type "tuple")
  | dK {a : Addr} {kvs : List (Key × V)} (e : H a = some (.dK kvs)) : TyOf K H (.ref a) (.type "dict")
  | dT {a : Addr} {kvs : List (List Key × V)} (e : H a = some (.dT kvs)) : TyOf K H (.ref a) (.type "dict")
  | ins {a C dx : Addr} {fs : List (Str × V)} (e : H a = some (.ins C dx fs)) (cl : Cls K C) (ha : PySem.W.findIn K (.ref C) "__class__" = some (some (.builtin "object.__class__")))
      (hn : PySem.W.specialIn K (.builtin "object.__class__") "__get__" = some (some (.builtin "getset_descriptor.__get__"))) (htk : PySem.W.takesIn K (.builtin "object.__class__") = some true)
      (hm : PySem.W.mroIn K C (.type "object") = some true) : TyOf K H (.ref a) (.ref C)
/-- isinstance(x, c) for one class c, a built-in or an own one: kitOne's answer -/
theorem isinst_ok {x : V} {u t : Value} (I : Inv X pins σ H s) (rx : RelV x u) (ty : TyOf X.K H x t) (e : PySem.W.kitOne X.K t c = some b) (h : ∀ tk, Q (.bool b) { s with toks := tk }) :
    wpAny (model X.prog X.w) A (call (.builtin "isinstance") [u, c]) Q E s := by
  cases ty with
  | non => cases (show u = Value.none from rx); exact PySem.W.kia_one PySem.W.kitx_none I.kIn True.intro e (fun z => nomatch z) h
  | bl y => cases (show u = Value.bool y from rx); exact PySem.W.kia_one PySem.W.kitx_bool I.kIn True.intro e (fun z => nomatch z) h
  | int i => obtain ⟨t, q⟩ := (show ∃ t, u = Value.int i t from rx); cases q; exact PySem.W.kia_one PySem.W.kitx_int I.kIn True.intro e (fun z => nomatch z) h
  | str y => obtain ⟨t, q⟩ := (show ∃ t, u = Value.str y t from rx); cases q; exact PySem.W.kia_one PySem.W.kitx_str I.kIn True.intro e (fun z => nomatch z) h
  | flt y => obtain ⟨t, q⟩ := (show ∃ t, u = Value.float y t from rx); cases q; exact PySem.W.kia_one PySem.W.kitx_float I.kIn True.intro e (fun z => nomatch z) h
  | @lst a xs ea =>
    cases (show u = Value.ref a from rx)
    obtain ⟨_, _, n, _, h1⟩ := (show ObjOk X.prog X.w H s.heap a (.lst xs) from I.hok a _ ea)
    exact PySem.W.kia_one PySem.W.kitx_list I.kIn ⟨_, h1, rfl⟩ e (fun z => nomatch z) h
  | @frz a ob xs ea =>
    cases (show u = Value.ref a from rx)
    obtain ⟨_, _, _, n, _, h1⟩ := (show ObjOk X.prog X.w H s.heap a (.frz ob (.lst xs)) from I.hok a _ ea)
    exact PySem.W.kia_one PySem.W.kitx_list I.kIn ⟨_, h1, rfl⟩ e (fun z => nomatch z) h
  | @tup a xs ea =>
    cases (show u = Value.ref a from rx)
    obtain ⟨_, _, _, p⟩ := (show ObjOk X.prog X.w H s.heap a (.tup xs) from I.hok a _ ea)
    obtain ⟨o, h1, h2, _⟩ := p
    exact PySem.W.kia_one PySem.W.kitx_tuple I.kIn ⟨o, h1, h2⟩ e (fun z => nomatch z) h
  | @dK a kvs ea =>
    cases (show u = Value.ref a from rx)
    obtain ⟨_, _, vs, _, p⟩ := (show ObjOk X.prog X.w H s.heap a (.dK kvs) from I.hok a _ ea)
    obtain ⟨o, es, ep, h1, h2, _⟩ := p
    exact PySem.W.kia_one PySem.W.kitx_dict I.kIn ⟨o, h1, h2.1⟩ e (fun z => nomatch z) h
  | @dT a kvs ea =>
    cases (show u = Value.ref a from rx)
    obtain ⟨_, _, xs, _, o, es, ep, h1, h2, _⟩ := (show ObjOk X.prog X.w H s.heap a (.dT kvs) from I.hok a _ ea)
    exact PySem.W.kia_one PySem.W.kitx_dict I.kIn ⟨o, h1, h2.1⟩ e (fun z => nomatch z) h
  | @ins a C dx fs ea cl ha hn htk hm =>
    cases (show u = Value.ref a from rx)
    obtain ⟨mA, O, _⟩ := ins_get I.hok ea
    obtain ⟨od, J, _⟩ := O.look
    exact PySem.W.kia_one (PySem.W.kitx_own (cl.get _) cl.hd ha hn htk hm) I.kIn J e (fun z => nomatch z) h
end
end L2

namespace L2
open PySem PySem.Spec PyProof.Rows

/-! ### room -/
structure Room (k : Nat) (A : Around) : Prop where
  hd : A.handled = none
  dp : A.depth + 3 * k + 5 < recursionLimit
  un : A.units + 16 * k + 200 < cLine
theorem Room.mono {j k : Nat} {A : Around} (r : Room k A) (h : j ≤ k) : Room j A := ⟨r.hd, by have := r.dp; omega, by have := r.un; omega⟩
theorem Room.deeper {k : Nat} {A : Around} (r : Room (k + 1) A) (env : Env) : Room k (A.deeper env) :=
  ⟨r.hd, by have := r.dp; show A.depth + 1 + 3 * k + 5 < _; omega, by have := r.un; show A.units + 3 + 16 * k + 200 < _; omega⟩
theorem Room.in1 {k : Nat} {A : Around} (r : Room (k + 1) A) : Room k A.in1 :=
  ⟨r.hd, by have := r.dp; show A.depth + 3 * k + 5 < _; omega, by have := r.un; show A.units + 1 + 16 * k + 200 < _; omega⟩
theorem make_depth {A : Around} {C : Addr} {us : List Value} {kw : List (Str × Value)} : (A.under (.builtin "type.__call__" ⟨.ref C :: us, kw⟩)).depth = A.depth + 1 := by
  first | rfl | simp [Around.under, Code.weight, Code.isCreation, Code.isGuard, Code.isCaller, Code.frames, Code.isFrame, guardIds]
theorem make_units {A : Around} {C : Addr} {us : List Value} {kw : List (Str × Value)} : (A.under (.builtin "type.__call__" ⟨.ref C :: us, kw⟩)).units = A.units + 1 := by
  first | rfl | simp [Around.under, Code.cUnits, Code.frames, Code.isFrame]
theorem Room.make {k : Nat} {A : Around} (r : Room (k + 1) A) (C : Addr) (us : List Value) (kw : List (Str × Value)) : Room k (A.under (.builtin "type.__call__" ⟨.ref C :: us, kw⟩)) :=
  ⟨r.hd, by have := r.dp; rw [make_depth]; omega, by have := r.un; rw [make_units]; omega⟩
theorem Room.depth {k : Nat} {A : Around} (r : Room k A) : A.depth < recursionLimit := by have := r.dp; omega
theorem Room.units {k : Nat} {A : Around} (r : Room k A) : A.units + 64 < cLine := by have := r.un; omega
theorem Room.units0 {k : Nat} {A : Around} (r : Room k A) : A.units < cLine := by have := r.un; omega

/-! ### argument lists and displays -/
def tNil : TA := fun _ H Q => Q [] H
def tCons (ta : TE) (tr : TA) : TA := fun σ H Q => ta σ H fun x H1 => tr σ H1 fun xs H2 => Q (x :: xs) H2
section
variable {X : Cx} {e : Expr} {es : List Expr} {te : TE} {t : TA} {pos : Pos}
theorem pa_nil : PA X [] tNil := fun _ _ _ _ H Q I h => Calls.spliced_nil ⟨[], H, I, .nil, h⟩
theorem pa_cons (ha : PE X e te) (hr : PA X es t) (hs : starEach (e :: es) X.env = (false, eval e X.env) :: starEach es X.env := by rfl) : PA X (e :: es) (tCons te t) := by
  intro pos pins s σ H Q I h
  rw [hs]
  show wpAny _ _ (spliced ((false, eval e X.env) :: backTo pos (starEach es X.env))) _ _ s
  refine Calls.spliced_cons (thn (ha pins s σ H _ I h) fun u s1 ⟨x, H1, I1, r1, q1⟩ => ?_)
  exact thn (hr pos pins s1 σ H1 _ I1 q1) fun us s2 ⟨xs, H2, I2, r2, q2⟩ => ⟨x :: xs, H2, I2, .cons r1 r2, q2⟩

/-- a tuple, a list of written items -/
def tTup (t : TA) : TE := fun σ H Q => t σ H fun xs H1 => xs.length ≤ sizeLine ∧ ∀ p, H1 p = none → Q (.ref p) (upd H1 p (.tup xs))
def tLst (t : TA) : TE := fun σ H Q => t σ H fun xs H1 => xs.length ≤ sizeLine ∧ ∀ p, H1 p = none → Q (.ref p) (upd H1 p (.lst xs))
theorem pe_tup {x1} (h : PA X es t) : PE X (.Tuple es x1 pos) (tTup t) := by
  intro pins s σ H Q I hq
  refine wpAny_Tuple_spliced (thn (h pos pins s σ H _ I hq) fun us s1 ⟨xs, H1, I1, r, z, q⟩ => ⟨by rw [← r.length]; exact z, ?_⟩)
  have hf : H1 s1.heap.objs.size = none := I1.hok.fresh (Nat.le_refl _)
  refine ⟨.ref s1.heap.objs.size, upd H1 s1.heap.objs.size (.tup xs), I1.laid (t' := s1.toks) (fun b u e => Heap.get?_push_of_some _ e) (Nat.le_refl _) ?_, rfl, q _ hf⟩
  exact ⟨z, us, r, ⟨_, Heap.get?_push_size _ rfl, rfl, _, rfl⟩⟩
theorem pe_lst (h : PA X es t) : PE X (.List es pos) (tLst t) := by
  intro pins s σ H Q I hq
  refine wpAny_List_spliced (thn (h pos pins s σ H _ I hq) fun us s1 ⟨xs, H1, I1, r, z, q⟩ => ⟨by rw [← r.length]; exact z, ?_⟩)
  have hf : H1 s1.heap.objs.size = none := I1.hok.fresh (Nat.le_refl _)
  refine ⟨.ref s1.heap.objs.size, upd H1 s1.heap.objs.size (.lst xs), I1.laid (t' := s1.toks) (fun b u e => Heap.get?_push_of_some _ e) (Nat.le_refl _) ?_, rfl, q _ hf⟩
  exact ⟨z, us, 0, r, Heap.get?_push_size _ rfl⟩
end

/-! ### what a def promises -/
/-- a def's promise: the bound arguments in the parameters' order, the heap, the wanted end, the wanted exception -/
abbrev Sp := List V → Hp → VK → XK → Prop
/-- how an exception lies behind a call (file 08 gives it): the callers' frames, abstract heap and state ahead of the call, the wish, the exception, the state -/
abbrev CXT := List Env → Hp → Shared → XK → Value → Shared → Prop

/-- the state at a call -/
structure Env0 (P : Program) (w : World) (K : PySem.W.Frag) (mg : Str → Option Value) (base : Heap) (A : Around) (outer : List Env) (s : Shared) (H : Hp) : Prop where
  frames : A.frames = some outer
  mod : Mod K mg base
  bs : ∀ b o, base.get? b = some o → s.heap.get? b = some o ∧ H b = none
  bsz : base.objs.size ≤ s.heap.objs.size
  funs : s.heap.FunFrames base outer
  frf : ∀ b ∈ frs outer, H b = none
  hok : HOk P w H s.heap
  bare : AllBare s.gens
/-- a call's end -/
def CE (outer : List Env) (P : Program) (w : World) (H : Hp) (s : Shared) (Q : VK) (u : Value) (s' : Shared) : Prop :=
  ∃ v H', s'.os = s.os ∧ AllBare s'.gens ∧ Un (frs outer) [] H H' s.heap s'.heap ∧ HOk P w H' s'.heap ∧ RelV v u ∧ Q v H'
def CR (CX : CXT) (outer : List Env) (P : Program) (w : World) (H : Hp) (s : Shared) (Q : VK) (E : XK) (r : Result) (s' : Shared) : Prop :=
  match r with
  | .ok (.ret u) => CE outer P w H s Q u s'
  | .ok _ => False
  | .error e => CX outer H s E e s'
structure FnOk (P : Program) (w : World) (K : PySem.W.Frag) (mg : Str → Option Value) (base : Heap) (CX : CXT) (k : Nat) (f : Addr) (fd : FuncData) (ps : List Str) (sp : Sp) : Prop where
  len : ∀ vs H Q E, sp vs H Q E → vs.length = ps.length
  run : ∀ (A : Around) (outer : List Env) (s : Shared) (H : Hp) (args : Args) (us : List Value) (vs : List V) (Q : VK) (E : XK), Room k A → Env0 P w K mg base A outer s H → BindsTo s fd args (ps.zip us) → Vals vs us → sp vs H Q E →
    codeAny (model P w) A (.call (.ref f) args) (CR CX outer P w H s Q E) s
theorem FnOk.mono {P : Program} {w : World} {K : PySem.W.Frag} {mg : Str → Option Value} {base : Heap} {CX : CXT} {j k : Nat} {f : Addr} {fd : FuncData} {ps : List Str} {sp : Sp} (F : FnOk P w K mg base CX j f fd ps sp) (h : j ≤ k) :
    FnOk P w K mg base CX k f fd ps sp := ⟨F.len, fun A outer s H args us vs Q E hr => F.run A outer s H args us vs Q E (hr.mono h)⟩
/-- a weaker promise -/
theorem FnOk.imp {P : Program} {w : World} {K : PySem.W.Frag} {mg : Str → Option Value} {base : Heap} {CX : CXT} {k : Nat} {f : Addr} {fd : FuncData} {ps : List Str} {sp sp' : Sp} (F : FnOk P w K mg base CX k f fd ps sp)
    (h : ∀ vs H Q E, sp' vs H Q E → sp vs H Q E) : FnOk P w K mg base CX k f fd ps sp' :=
  ⟨fun vs H Q E q => F.len vs H Q E (h _ _ _ _ q), fun A outer s H args us vs Q E hr he hb hv hs => F.run A outer s H args us vs Q E hr he hb hv (h _ _ _ _ hs)⟩

theorem Env0.make {P : Program} {w : World} {K : PySem.W.Frag} {mg : Str → Option Value} {base : Heap} {A : Around} {outer : List Env} {s : Shared} {H : Hp} (e : Env0 P w K mg base A outer s H) (C : Addr) (us : List Value) (kw : List (Str × Value)) :
    Env0 P w K mg base (A.under (.builtin "type.__call__" ⟨.ref C :: us, kw⟩)) outer s H := ⟨by first | exact e.frames | (simpa [Around.under, Code.envs, Code.isFrame, pushEnvs] using e.frames), e.mod, e.bs, e.bsz, e.funs, e.frf, e.hok, e.bare⟩
theorem Env0.in1 {P : Program} {w : World} {K : PySem.W.Frag} {mg : Str → Option Value} {base : Heap} {A : Around} {outer : List Env} {s : Shared} {H : Hp} (e : Env0 P w K mg base A outer s H) :
    Env0 P w K mg base A.in1 outer s H := ⟨e.frames, e.mod, e.bs, e.bsz, e.funs, e.frf, e.hok, e.bare⟩

section
variable {X : Cx} {pins : List (Addr × Obj)} {σ : St} {H : Hp} {s s' : Shared}
/-- from a body: what a callee wants -/
theorem Inv.env0 (I : Inv X pins σ H s) : Env0 X.prog X.w X.K X.mg X.base X.A X.stack s H :=
  ⟨I.ok.frames, I.ok.mod, I.bs, Nat.le_trans I.ok.bsz I.sz, I.stack, I.stkFree, I.hok, I.bare⟩
/-- behind a call -/
theorem Inv.after {Q : VK} {u : Value} (I : Inv X pins σ H s) (h : CE X.stack X.prog X.w H s Q u s') : EP X pins σ Q u s' := by
  obtain ⟨v, H', os, bare, un, hok, r, q⟩ := h
  obtain ⟨hh, g, d, t, os'⟩ := s'
  obtain rfl : os' = s.os := os
  exact ⟨v, H', I.call (h' := hh) (g' := g) (d' := d) (t' := t) (ch := []) un hok bare (fun b z => absurd z (by simp)), r, q⟩
end

/-! ### calls -/
/-- f(..): the written arguments, then the defaults dvs; E: what is wanted of an exception -/
def tCall (sp : Sp) (dvs : List V) (E : XK) (t : TA) : TE := fun σ H Q => t σ H fun vs H1 => sp (vs ++ dvs) H1 Q E
/-- o.m(..) of an instance of the class at C -/
def tMeth (C : Addr) (m : Str) (sp : Sp) (dvs : List V) (E : XK) (ta : TE) (t : TA) : TE := fun σ H Q => ta σ H fun x H1 => ∃ a dx fs, x = .ref a ∧ H1 a = some (.ins C dx fs) ∧ fs.lookup m = none ∧
  t σ H1 fun vs H2 => sp (x :: (vs ++ dvs)) H2 Q E
/-- C(..): a new instance and its dict, then __init__ -/
def tMake (C : Addr) (sp : Sp) (dvs : List V) (E : XK) (t : TA) : TE := fun σ H Q => t σ H fun vs H1 => ∀ x dx, H1 x = none → H1 dx = none → dx ≠ x →
  sp (.ref x :: (vs ++ dvs)) (upd (upd H1 dx (.own x)) x (.ins C dx [])) (fun v H2 => v = .non ∧ Q (.ref x) H2) E

/-- how the parameters are bound: us the positional arguments, kw the keywords' values by name, ds the defaults that fill up -/
def Binds (K : PySem.W.Frag) (fd : FuncData) (ps : List Str) (ds : List Value) : Prop :=
  ∀ (s : Shared) (us : List Value), K.In s.heap → (us ++ ds).length = ps.length → BindsTo s fd ⟨us, []⟩ (ps.zip (us ++ ds))
/-- every parameter is given -/
theorem Binds.all {K : PySem.W.Frag} {fd : FuncData} {ps : List Str} (h : ∀ us : List Value, us.length = ps.length → bindArgs fd ⟨us, []⟩ = pure (ps.zip us)) : Binds K fd ps [] := fun s us _ hl => by
  rw [List.append_nil] at hl ⊢
  exact .of_eq (h us hl)

/-- an exception of a callee reaches what this body wants of exceptions -/
def Passes (CX : CXT) (X : Cx) (E : XK) : Prop := ∀ (pins : List (Addr × Obj)) (σ : St) (H : Hp) (s : Shared) (e : Value) (s' : Shared), Inv X pins σ H s → CX X.stack H s E e s' → X.xe e s'

section
variable {X : Cx} {CX : CXT} {k : Nat} {f C : Addr} {fd : FuncData} {ps : List Str} {sp : Sp} {dvs : List V} {ds : List Value} {E : XK} {x m : Str} {p pos apos : Pos} {e o : Expr} {es : List Expr} {ta : TE} {t : TA}

/-- the callee runs -/
theorem run_fn {pins : List (Addr × Obj)} {σ : St} {H : Hp} {s : Shared} {Q : VK} {us : List Value} {vs : List V} (F : FnOk X.prog X.w X.K X.mg X.base CX k f fd ps sp) (hr : Room k X.A) (hb : Binds X.K fd ps ds) (hd : Vals dvs ds) (hx : Passes CX X E)
    (I : Inv X pins σ H s) (r : Vals vs us) (h : sp (vs ++ dvs) H Q E) : wpAny (model X.prog X.w) X.A (call (.ref f) us) (EP X pins σ Q) X.xe s := by
  have r2 : Vals (vs ++ dvs) (us ++ ds) := r.append hd
  have hl : (us ++ ds).length = ps.length := by rw [← r2.length]; exact F.len _ _ _ _ h
  refine wpAny_call (codeAny_mono (F.run X.A X.stack s H ⟨us, []⟩ (us ++ ds) (vs ++ dvs) Q E hr I.env0 (hb s us I.kIn hl) r2 h) fun r s' hq => ?_)
  cases r with
  | error e => exact hx pins σ H s e s' I hq
  | ok fl =>
    cases fl with
    | ret u => exact I.after hq
    | next => exact False.elim hq
    | brk => exact False.elim hq
    | cont => exact False.elim hq

theorem pe_call (F : FnOk X.prog X.w X.K X.mg X.base CX k f fd ps sp) (hr : Room k X.A) (hg : Gl X x) (hm : X.mg x = some (.ref f)) (hk : PySem.W.keepIn X.K (.ref f) = true) (hb : Binds X.K fd ps ds) (hd : Vals dvs ds) (hx : Passes CX X E)
    (ha : PA X (e :: es) t) (hdb : (x == ("__debug__" : Str)) = false := by decide) (he : starEach (e :: es) X.env = (false, eval e X.env) :: starEach es X.env := by rfl) (hpl : (backTo pos (starEach es X.env)).any (·.1) = false := by rfl) :
    PE X (.Call (.Name x p) (e :: es) [] pos) (tCall sp dvs E t) := by
  intro pins s σ H Q I h
  refine wpAny_Call_Name_kw (ld_glob I hg hm ?_ hdb)
  refine PySem.W.callWith_K (h₀ := X.base) I.ok.mod.kin hk (thn (ha pos pins s σ H _ I h) fun us s1 ⟨vs, H1, I1, r, q⟩ => ⟨I1.kIn, ?_⟩) he hpl
  exact run_fn F hr hb hd hx I1 r q
theorem pe_call0 (F : FnOk X.prog X.w X.K X.mg X.base CX k f fd ps sp) (hr : Room k X.A) (hg : Gl X x) (hm : X.mg x = some (.ref f)) (hk : PySem.W.keepIn X.K (.ref f) = true) (hb : Binds X.K fd ps ds) (hd : Vals dvs ds) (hx : Passes CX X E)
    (hdb : (x == ("__debug__" : Str)) = false := by decide) : PE X (.Call (.Name x p) [] [] pos) (tCall sp dvs E tNil) := by
  intro pins s σ H Q I h
  refine wpAny_Call_Name_kw (ld_glob I hg hm ?_ hdb)
  exact PySem.W.callWith_K0 I.kIn hk (run_fn (us := []) F hr hb hd hx I .nil h)

/-- o.m(e, ..) -/
theorem pe_meth {pl : Sem Bool} (he : PE X o ta) (c : Cls X.K C) (hm : Meth X.K C m f) (F : FnOk X.prog X.w X.K X.mg X.base CX k f fd ps sp) (hr : Room k X.A) (hb : Binds X.K fd ps ds) (hd : Vals dvs ds) (hx : Passes CX X E) (ha : PA X (e :: es) t)
    (hst : starEach (e :: es) X.env = (false, eval e X.env) :: starEach es X.env := by rfl) (hpl : (backTo pos (starEach es X.env)).any (·.1) = false := by rfl)
    (ht : eval (.Call (.Attribute o m apos) (e :: es) [] pos) X.env = (do
      let ov ← eval o X.env
      standAt apos.atName
      let (f, first) ← holding [ov] (getMethod ov m pl)
      callWith pos f first (backTo pos (starEach (e :: es) X.env)) (backToKw pos (keywordEach [] X.env))) := by rfl) :
    PE X (.Call (.Attribute o m apos) (e :: es) [] pos) (tMeth C m sp dvs E ta t) := by
  intro pins s σ H Q I h
  refine PySem.W.methodCall_KW (pl := pl) (thn (he pins s σ H _ I h) fun u s1 ⟨x, H1, I1, rx, a, dx, fs, ex, ea, l, q⟩ => ?_) ht
  subst ex
  obtain rfl : u = Value.ref a := rx
  refine getmeth_ok I1 ea c hm l ?_
  refine PySem.W.callWith_K (first := [.ref a]) (h₀ := X.base) I.ok.mod.kin hm.kp (thn (ha pos pins s1 σ H1 _ I1 q) fun us s2 ⟨vs, H2, I2, r, q2⟩ => ⟨I2.kIn, ?_⟩) hst hpl
  exact run_fn (us := .ref a :: us) (vs := .ref a :: vs) F hr hb hd hx I2 (.cons rfl r) q2
/-- o.m() -/
theorem pe_meth0 {pl : Sem Bool} (he : PE X o ta) (c : Cls X.K C) (hm : Meth X.K C m f) (F : FnOk X.prog X.w X.K X.mg X.base CX k f fd ps sp) (hr : Room k X.A) (hb : Binds X.K fd ps ds) (hd : Vals dvs ds) (hx : Passes CX X E)
    (ht : eval (.Call (.Attribute o m apos) [] [] pos) X.env = (do
      let ov ← eval o X.env
      standAt apos.atName
      let (f, first) ← holding [ov] (getMethod ov m pl)
      callWith pos f first (backTo pos (starEach [] X.env)) (backToKw pos (keywordEach [] X.env))) := by rfl) :
    PE X (.Call (.Attribute o m apos) [] [] pos) (tMeth C m sp dvs E ta tNil) := by
  intro pins s σ H Q I h
  refine PySem.W.methodCall_KW (pl := pl) (thn (he pins s σ H _ I h) fun u s1 ⟨x, H1, I1, rx, a, dx, fs, ex, ea, l, q⟩ => ?_) ht
  subst ex
  obtain rfl : u = Value.ref a := rx
  refine getmeth_ok I1 ea c hm l ?_
  exact PySem.W.callWith_K0 (first := [.ref a]) I1.kIn hm.kp (run_fn (us := [.ref a]) (vs := [.ref a]) F hr hb hd hx I1 (.cons rfl .nil) q)

/-- what a class must have to be made -/
structure Mk (K : PySem.W.Frag) (C f : Addr) : Prop where
  makes : PySem.W.makesIn K C = true
  init : PySem.W.findIn K (.ref C) "__init__" = some (some (.ref f))
  fn : PySem.W.isFn K (.ref f) = true
  kp : PySem.W.keepIn K (.ref C) = true

theorem run_make {pins : List (Addr × Obj)} {σ : St} {H : Hp} {s : Shared} {Q : VK} {us : List Value} {vs : List V} (M : Mk X.K C f) (F : FnOk X.prog X.w X.K X.mg X.base CX k f fd ps sp) (hr : Room (k + 1) X.A) (hb : Binds X.K fd ps ds) (hd : Vals dvs ds)
    (hx : Passes CX X E) (I : Inv X pins σ H s) (r : Vals vs us)
    (h : ∀ x dx, H x = none → H dx = none → dx ≠ x → sp (.ref x :: (vs ++ dvs)) (upd (upd H dx (.own x)) x (.ins C dx [])) (fun v H2 => v = .non ∧ Q (.ref x) H2) E) :
    wpAny (model X.prog X.w) X.A (call (.ref C) us) (EP X pins σ Q) X.xe s := by
  have hq := h (s.heap.objs.size + 1) s.heap.objs.size (I.hok.fresh (Nat.le_succ _)) (I.hok.fresh (Nat.le_refl _)) (Nat.ne_of_lt (Nat.lt_succ_self _))
  have I2 := Inv.made (C := C) I
  have r2 : Vals (V.ref (s.heap.objs.size + 1) :: (vs ++ dvs)) (Value.ref (s.heap.objs.size + 1) :: (us ++ ds)) := .cons rfl (r.append hd)
  have hl : (Value.ref (s.heap.objs.size + 1) :: us ++ ds).length = ps.length := by
    have e := r2.length
    rw [F.len _ _ _ _ hq] at e
    exact e.symm
  refine wpAny_call (make_map (f := f) I.kIn M.makes M.init (beq_iff_eq.mp M.fn) (codeAny_mono (F.run _ X.stack _ _ ⟨Value.ref (s.heap.objs.size + 1) :: us, []⟩ (Value.ref (s.heap.objs.size + 1) :: (us ++ ds)) _ _ E (hr.make C us [])
    (I2.env0.make C us []) (hb _ (Value.ref (s.heap.objs.size + 1) :: us) I2.kIn hl) r2 hq) fun r s' hq' => ?_))
  cases r with
  | error e => exact hx pins σ _ _ e s' I2 hq'
  | ok fl =>
    cases fl with
    | ret u =>
      obtain ⟨v, H', I3, rv, ev, q3⟩ := I2.after hq'
      subst ev
      exact ⟨rv, ⟨V.ref (s.heap.objs.size + 1), H', I3, rfl, q3⟩⟩
    | next => exact False.elim hq'
    | brk => exact False.elim hq'
    | cont => exact False.elim hq'
theorem pe_make (M : Mk X.K C f) (F : FnOk X.prog X.w X.K X.mg X.base CX k f fd ps sp) (hr : Room (k + 1) X.A) (hg : Gl X x) (hm : X.mg x = some (.ref C)) (hb : Binds X.K fd ps ds) (hd : Vals dvs ds) (hx : Passes CX X E)
    (ha : PA X (e :: es) t) (hdb : (x == ("__debug__" : Str)) = false := by decide) (he : starEach (e :: es) X.env = (false, eval e X.env) :: starEach es X.env := by rfl) (hpl : (backTo pos (starEach es X.env)).any (·.1) = false := by rfl) :
    PE X (.Call (.Name x p) (e :: es) [] pos) (tMake C sp dvs E t) := by
  intro pins s σ H Q I h
  refine wpAny_Call_Name_kw (ld_glob I hg hm ?_ hdb)
  refine PySem.W.callWith_K (h₀ := X.base) I.ok.mod.kin M.kp (thn (ha pos pins s σ H _ I h) fun us s1 ⟨vs, H1, I1, r, q⟩ => ⟨I1.kIn, ?_⟩) he hpl
  exact run_make M F hr hb hd hx I1 r q
theorem pe_make0 (M : Mk X.K C f) (F : FnOk X.prog X.w X.K X.mg X.base CX k f fd ps sp) (hr : Room (k + 1) X.A) (hg : Gl X x) (hm : X.mg x = some (.ref C)) (hb : Binds X.K fd ps ds) (hd : Vals dvs ds) (hx : Passes CX X E)
    (hdb : (x == ("__debug__" : Str)) = false := by decide) : PE X (.Call (.Name x p) [] [] pos) (tMake C sp dvs E tNil) := by
  intro pins s σ H Q I h
  refine wpAny_Call_Name_kw (ld_glob I hg hm ?_ hdb)
  exact PySem.W.callWith_K0 I.kIn M.kp (run_make (us := []) M F hr hb hd hx I .nil h)
end

/-! ### keywords -/
/-- the values of the keywords, from the left -/
def PK (X : Cx) (kws : List Keyword) (t : TA) : Prop :=
  ∀ (pos : Pos) (pins : List (Addr × Obj)) (s : Shared) (σ : St) (H : Hp) (Q : List V → Hp → Prop), Inv X pins σ H s → t σ H Q → wpAny (model X.prog X.w) X.A (evalAll ((backToKw pos (keywordEach kws X.env)).map (·.2))) (AP X pins σ Q) X.xe s
section
variable {X : Cx} {CX : CXT} {k : Nat} {f C : Addr} {fd : FuncData} {ps ks : List Str} {sp : Sp} {E : XK} {x m : Str} {p pos apos kpos : Pos} {e o : Expr} {es : List Expr} {kws : List Keyword} {te ta : TE} {t tk : TA} {nm : Option Str}
theorem pk_nil : PK X [] tNil := fun _ _ _ _ H Q I h => wpAny_evalAll_nil ⟨[], H, I, .nil, h⟩
theorem pk_cons (ha : PE X e te) (hr : PK X kws t) : PK X (⟨nm, e, kpos⟩ :: kws) (tCons te t) := by
  intro pos pins s σ H Q I h
  show wpAny _ _ (evalAll ((do let v ← eval e X.env; standAt pos; pure v) :: (backToKw pos (keywordEach kws X.env)).map (·.2))) _ _ s
  refine wpAny_evalAll_cons (wpAny_bind (thn (ha pins s σ H _ I h) fun u s1 ⟨x, H1, I1, r1, q1⟩ => wpAny_bind (wpAny_standAt (wpAny_pure ?_))))
  exact thn (hr pos pins s1 σ H1 _ I1 q1) fun us s2 ⟨xs, H2, I2, r2, q2⟩ => ⟨x :: xs, H2, I2, .cons r1 r2, q2⟩

/-- how a call with keywords binds: g puts the positional values us and the keywords' values ws (names ks) in the parameters' order, defaults among them -/
structure KBinds (K : PySem.W.Frag) (fd : FuncData) (ps ks : List Str) (g : List Value → List Value → List Value) (gV : List V → List V → List V) : Prop where
  to : ∀ (s : Shared) (us ws : List Value), K.In s.heap → (g us ws).length = ps.length → BindsTo s fd ⟨us, ks.zip ws⟩ (ps.zip (g us ws))
  rel : ∀ {vs : List V} {us : List Value} {zs : List V} {ws : List Value}, Vals vs us → Vals zs ws → Vals (gV vs zs) (g us ws)
def tCallK (sp : Sp) (gV : List V → List V → List V) (E : XK) (t tk : TA) : TE := fun σ H Q => t σ H fun vs H1 => tk σ H1 fun zs H2 => sp (gV vs zs) H2 Q E
variable {g : List Value → List Value → List Value} {gV : List V → List V → List V}
theorem run_fnk {pins : List (Addr × Obj)} {σ : St} {H : Hp} {s : Shared} {Q : VK} {us ws : List Value} {vs zs : List V} (F : FnOk X.prog X.w X.K X.mg X.base CX k f fd ps sp) (hr : Room k X.A) (hb : KBinds X.K fd ps ks g gV) (hx : Passes CX X E)
    (I : Inv X pins σ H s) (r : Vals vs us) (rz : Vals zs ws) (h : sp (gV vs zs) H Q E) : wpAny (model X.prog X.w) X.A (call (.ref f) us (ks.zip ws)) (EP X pins σ Q) X.xe s := by
  have r2 := hb.rel r rz
  have hl : (g us ws).length = ps.length := by rw [← r2.length]; exact F.len _ _ _ _ h
  refine wpAny_call (codeAny_mono (F.run X.A X.stack s H ⟨us, ks.zip ws⟩ (g us ws) (gV vs zs) Q E hr I.env0 (hb.to s us ws I.kIn hl) r2 h) fun r s' hq => ?_)
  cases r with
  | error e => exact hx pins σ H s e s' I hq
  | ok fl =>
    cases fl with
    | ret u => exact I.after hq
    | next => exact False.elim hq
    | brk => exact False.elim hq
    | cont => exact False.elim hq
/-- f(e, .., k = v, ..) -/
theorem pe_callK (F : FnOk X.prog X.w X.K X.mg X.base CX k f fd ps sp) (hr : Room k X.A) (hg : Gl X x) (hm : X.mg x = some (.ref f)) (hk : PySem.W.keepIn X.K (.ref f) = true) (hb : KBinds X.K fd ps ks g gV) (hx : Passes CX X E)
    (ha : PA X (e :: es) t) (hkw : PK X kws tk) (hall : (backToKw pos (keywordEach kws X.env)).all (·.1.isSome) = true := by rfl) (hks : (backToKw pos (keywordEach kws X.env)).filterMap (·.1) = ks := by rfl)
    (hdb : (x == ("__debug__" : Str)) = false := by decide) (he : starEach (e :: es) X.env = (false, eval e X.env) :: starEach es X.env := by rfl)
    (hpl : ((backTo pos (starEach (e :: es) X.env)).any (·.1) || (backToKw pos (keywordEach kws X.env)).any (·.1.isNone)) = false := by rfl) :
    PE X (.Call (.Name x p) (e :: es) kws pos) (tCallK sp gV E t tk) := by
  intro pins s σ H Q I h
  refine wpAny_Call_Name_kw (ld_glob I hg hm ?_ hdb)
  refine PySem.W.callWith_KW (h₀ := X.base) I.ok.mod.kin hk hall (thn (ha pos pins s σ H _ I h) fun us s1 ⟨vs, H1, I1, r, q⟩ => ?_) hpl he
  refine thn (hkw pos pins s1 σ H1 _ I1 q) fun ws s2 ⟨zs, H2, I2, rz, q2⟩ => ⟨I2.kIn, ?_⟩
  rw [hks]
  exact run_fnk F hr hb hx I2 r rz q2
end

/-! ### a def's body keeps its promise -/
/-- names: the parameters first -/
structure FnScope (N P : List Str) (sc : Scope) : Prop where
  kind : sc.kind = .function
  co : sc.isCoroutine = false
  gen : sc.isGenerator = false
  nd : N.Nodup
  pre : N.take P.length = P
  par : ∀ x ∈ P, sc.names.lookup x = some .local ∨ sc.names.lookup x = some .cell
  nofree : ∀ y ∈ sc.names, y.2 ≠ .free

theorem bindL_out {kindOf : Str → Option NameKind} {x : Str} : ∀ {binds : List (Str × Value)} {m : Str → Option Value}, (∀ v, (x, v) ∉ binds) → bindL kindOf binds m x = m x
  | [], _, _ => rfl
  | (n, v) :: r, m, h => by
    unfold bindL
    rw [bindL_out fun w hw => h w (List.mem_cons_of_mem _ hw)]
    split
    · have : x ≠ n := by rintro rfl; exact h v List.mem_cons_self
      simp [this]
    · rfl
theorem bindC_out {kindOf : Str → Option NameKind} {x : Str} : ∀ {binds : List (Str × Value)} {m : Str → Option Value}, (∀ v, (x, v) ∉ binds) → bindC kindOf binds m x = m x
  | [], _, _ => rfl
  | (n, v) :: r, m, h => by
    unfold bindC
    rw [bindC_out fun w hw => h w (List.mem_cons_of_mem _ hw)]
    split
    · rfl
    · have : x ≠ n := by rintro rfl; exact h v List.mem_cons_self
      simp [this]
theorem bindL_get {kindOf : Str → Option NameKind} {x : Str} {v : Value} : ∀ {P : List Str} {vs : List Value} {i : Nat} {m : Str → Option Value}, P.Nodup → P[i]? = some x → vs[i]? = some v → kindOf x = some .local →
    bindL kindOf (P.zip vs) m x = some v
  | [], _, _, _, _, h, _, _ => by simp at h
  | _ :: _, [], _, _, _, _, h, _ => by simp at h
  | p :: P, w :: vs, 0, m, nd, h1, h2, hk => by
    simp at h1 h2; subst h1; subst h2
    show bindL kindOf ((p, w) :: P.zip vs) m p = _
    unfold bindL
    rw [bindL_out fun v hv => (List.nodup_cons.mp nd).1 (List.of_mem_zip hv).1, if_pos hk]
    simp
  | p :: P, w :: vs, i + 1, m, nd, h1, h2, hk => by
    show bindL kindOf ((p, w) :: P.zip vs) m x = _
    unfold bindL
    exact bindL_get (i := i) (List.nodup_cons.mp nd).2 (by simpa using h1) (by simpa using h2) hk
theorem bindC_get {kindOf : Str → Option NameKind} {x : Str} {v : Value} : ∀ {P : List Str} {vs : List Value} {i : Nat} {m : Str → Option Value}, P.Nodup → P[i]? = some x → vs[i]? = some v → kindOf x ≠ some .local →
    bindC kindOf (P.zip vs) m x = some v
  | [], _, _, _, _, h, _, _ => by simp at h
  | _ :: _, [], _, _, _, _, h, _ => by simp at h
  | p :: P, w :: vs, 0, m, nd, h1, h2, hk => by
    simp at h1 h2; subst h1; subst h2
    show bindC kindOf ((p, w) :: P.zip vs) m p = _
    unfold bindC
    rw [bindC_out fun v hv => (List.nodup_cons.mp nd).1 (List.of_mem_zip hv).1, if_neg hk]
    simp
  | p :: P, w :: vs, i + 1, m, nd, h1, h2, hk => by
    show bindC kindOf ((p, w) :: P.zip vs) m x = _
    unfold bindC
    exact bindC_get (i := i) (List.nodup_cons.mp nd).2 (by simpa using h1) (by simpa using h2) hk

/-- the names' values at the entry -/
def start (N : List Str) (vs : List V) : St := vs.map some ++ List.replicate (N.length - vs.length) none

/-- the context of a def's body, at its entry; an exception leaves the frame, then lies as CX says -/
def cxOf (CX : CXT) (P : Program) (w : World) (K : PySem.W.Frag) (mg : Str → Option Value) (base : Heap) (N : List Str) (qual : Str) (scope : Scope) (f : Addr) (cd : Value) (A : Around) (outer : List Env) (s : Shared) (H : Hp) (E : XK) : Cx where
  prog := P
  w := w
  K := K
  mg := mg
  base := base
  A := A.deeper (envOfC qual scope s.heap.objs.size f cd)
  N := N
  s₀ := s
  H₀ := H
  env := envOfC qual scope s.heap.objs.size f cd
  outer := outer
  stack := envOfC qual scope s.heap.objs.size f cd :: outer
  ex := []
  calm := true
  fn := fun _ => true
  pn := []
  xe := fun e s' => wpAny (model P w) (A.deeper (envOfC qual scope s.heap.objs.size f cd)) (leaving (envOfC qual scope s.heap.objs.size f cd) e) (fun _ s'' => CX outer H s E e s'') (fun e' s'' => CX outer H s E e' s'') s'

theorem cell_has {sc : Scope} {n : Nat} {x : Str} (h : sc.names.lookup x = some .cell) : ∃ c, (cellsFrom n sc.names []).lookup x = some c := by
  have q := PySem.W.cellsFrom_some sc.names n [] (.inl h)
  exact Option.isSome_iff_exists.mp q

theorem inv_start {CX : CXT} {P : Program} {w : World} {K : PySem.W.Frag} {mg : Str → Option Value} {base : Heap} {N ps : List Str} {qual : Str} {scope : Scope} {f : Addr} {cd : Value} {A : Around} {outer : List Env} {s s1 : Shared} {H : Hp} {E : XK} {us : List Value} {vs : List V}
    (S : FnScope N ps scope) (hd : A.handled = none) (e0 : Env0 P w K mg base A outer s H) (hl : vs.length = ps.length) (r : Vals vs us)
    (x : InCallC s s.heap.objs.size (bindL (envOfC qual scope s.heap.objs.size f cd).kindOf (ps.zip us) fun _ => none) (cellsFrom (s.heap.objs.size + 1) scope.names []) (bindC (envOfC qual scope s.heap.objs.size f cd).kindOf (ps.zip us) fun _ => none) s1) :
    Inv (cxOf CX P w K mg base N qual scope f cd A outer s H E) [] (start N vs) H s1 := by
  have hpl : ps.length ≤ N.length := by have := congrArg List.length S.pre; rw [List.length_take] at this; omega
  obtain ⟨h1, tk, rfl, hk⟩ := x.done
  have noA : ∀ b : Addr, b ∉ (cxOf CX P w K mg base N qual scope f cd A outer s H E).ex := fun b z => absurd (show b ∈ ([] : List Addr) from z) (by simp)
  refine ⟨⟨e0.mod, S.kind, rfl, rfl, Nat.le_refl _, fun y z c h1 h2 => ?_, fun y hy => ?_, fun y c _ h => ?_, fun _ => hd, Around.frames_deeper e0.frames, .inr ⟨rfl, rfl⟩, fun b z => absurd z (noA b), e0.bs, e0.bsz, fun b _ _ => noA b, fun b z => absurd z (noA b), e0.funs, e0.frf⟩,
    rfl, e0.bare, Un.kept hk, ⟨_, x.toInCall.ns, fun i y v h1 h2 h3 => ?_⟩, fun y c h => ⟨_, x.cell y c h⟩, e0.hok.fresh (Nat.le_refl _), fun y c h => ?_, fun p hp => absurd (show p ∈ ([] : List (Addr × Obj)) from hp) (by simp), e0.hok.kept hk, ?_⟩
  · exact name_of_addr x.apart (PySem.mem_of_lookup h1) (PySem.mem_of_lookup h2)
  · have hy : scope.names.lookup y = some .cell ∨ scope.names.lookup y = some .free := hy
    rcases hy with hy | hy
    · exact cell_has hy
    · exact absurd rfl (S.nofree _ (PySem.mem_of_lookup hy))
  · exact Nat.le_of_lt (x.above y c (PySem.mem_of_lookup h))
  · have hi : i < vs.length := by
      unfold start at h2
      by_cases hi : i < vs.length
      · exact hi
      · rw [List.getElem?_append_right (by simpa using hi)] at h2
        rw [List.getElem?_replicate] at h2
        split at h2 <;> cases h2
    have ha : vs[i]? = some v := by
      unfold start at h2
      rw [List.getElem?_append_left (by simpa using hi), List.getElem?_map] at h2
      cases e : vs[i]? with
      | none => rw [e] at h2; cases h2
      | some a => rw [e] at h2; cases h2; rfl
    obtain ⟨u, hu, rv⟩ := r.get ha
    have hp : ps[i]? = some y := by
      rw [← S.pre, List.getElem?_take_of_lt (by omega)]; exact h1
    have ndP : ps.Nodup := by rw [← S.pre]; exact S.nd.sublist (List.take_sublist _ _)
    refine ⟨u, rv, ?_⟩
    rcases S.par y (List.mem_of_getElem? hp) with k | k
    · exact .inl ⟨k, bindL_get ndP hp hu k⟩
    · obtain ⟨c, e⟩ := cell_has (n := s.heap.objs.size + 1) k
      refine .inr ⟨.inl k, c, e, ?_⟩
      have q := x.cell y c e
      rw [bindC_get ndP hp hu (by show scope.names.lookup y ≠ _; rw [k]; decide)] at q
      exact q
  · exact e0.hok.fresh (Nat.le_of_lt (x.above y c (PySem.mem_of_lookup h)))
  · unfold start
    show _ = N.length
    rw [List.length_append, List.length_map, List.length_replicate]
    omega

/-- THE RULE: a def (or a method) of the text, by its body. The body's reading t is chosen for each entry; it is run at the parameters' values -/
theorem fn_of {CX : CXT} {P : Program} {w : World} {K : PySem.W.Frag} {mg : Str → Option Value} {base : Heap} {k : Nat} {f : Addr} {name qual : Str} {params : Arguments} {body : List Stmt} {scope : Scope} {dV kV doc pm cdv ct oc : Value} {an od : Option Addr}
    {osl : Array (Option Value)} {N ps : List Str} {sp : Sp} (lk : K.lookup f = some ⟨oc, od, .func (PySem.W.fnOf name qual params body scope dV kV doc pm an cdv ct), osl⟩) (hcd : PySem.W.codeIn K cdv qual = true) (S : FnScope N ps scope)
    (len : ∀ vs H Q E, sp vs H Q E → vs.length = ps.length)
    (hbody : ∀ (A : Around) (outer : List Env) (s : Shared) (H : Hp) (vs : List V) (Q : VK) (E : XK), Room k (A.deeper (envOfC qual scope s.heap.objs.size f cdv)) → sp vs H Q E →
      ∃ t, PSs (cxOf CX P w K mg base N qual scope f cdv A outer s H E) body t ∧ t { nx := fun _ H' => Q .non H', rt := Q } (start N vs) H) :
    FnOk P w K mg base CX (k + 1) f (PySem.W.fnOf name qual params body scope dV kV doc pm an cdv ct) ps sp := by
  refine ⟨len, fun A outer s H args us vs Q E hr e0 hb r hsp => ?_⟩
  have hl := len _ _ _ _ hsp
  have KX : K.In s.heap := e0.mod.kin.keeps fun b o e => (e0.bs b o e).1
  have lim : s.heap.NoLimit := e0.mod.nolimit.keeps fun b o e => (e0.bs b o e).1
  have hkind : ∀ y ∈ ps.zip us, scope.names.lookup y.1 = some .local ∨ (scope.names.lookup y.1 = some .cell ∧ ((cellsFrom (s.heap.objs.size + 1) scope.names []).lookup y.1).isSome = true) := fun ⟨n, v⟩ hy => by
    rcases S.par n (List.of_mem_zip hy).1 with q | q
    · exact .inl q
    · exact .inr ⟨q, PySem.W.cellsFrom_some _ _ _ (.inl q)⟩
  refine codeAny_call_function hr.depth (KX _ _ lk) rfl S.co S.gen rfl (PySem.W.codeRec_of KX hcd) (hb _ _ _ _ ?_)
  refine wpAny_newFunctionEnv_cells S.kind hkind fun env he s1 x => ?_
  subst he
  refine ⟨lim.keeps x.toInCall.keep, codeAny_func ?_⟩
  obtain ⟨t, ht, hq⟩ := hbody A outer s H vs Q E (hr.deeper _) hsp
  have I : Inv (cxOf CX P w K mg base N qual scope f cdv A outer s H E) [] (start N vs) H s1 := inv_start S hr.hd e0 hl r x
  refine wpAny_mono (ht [] s1 (start N vs) H _ I hq) (fun fl s' hs => ?_) fun e s' hs => hs
  have fin : ∀ {σ' : St} {H' : Hp} {v : V} {u : Value}, Inv (cxOf CX P w K mg base N qual scope f cdv A outer s H E) [] σ' H' s' → RelV v u → Q v H' → CE outer P w H s Q u s' :=
    fun {σ' H' v u} J rv q => ⟨v, H', J.os, J.bare, J.base, J.hok, rv, q⟩
  cases fl with
  | ret u =>
    obtain ⟨v, σ', H', J, rv, q⟩ := hs
    exact fin J rv q
  | next =>
    obtain ⟨σ', H', J, q⟩ := hs
    exact fin (v := V.non) (u := Value.none) J rfl q
  | brk =>
    obtain ⟨_, _, _, q⟩ := hs
    exact False.elim q
  | cont =>
    obtain ⟨_, _, _, q⟩ := hs
    exact False.elim q
end L2

namespace L2
open PySem PySem.Spec PyProof.Rows
section
variable {X : Cx} {x : Str} {p pos : Pos} {e : Expr} {es : List Expr} {t : TA} {id T : String} {r : List V → Hp → VK → Prop}

def tCB (r : List V → Hp → VK → Prop) (t : TA) : TE := fun σ H Q => t σ H fun vs H1 => r vs H1 Q
/-- f(e, ..), f a built-in function -/
theorem pe_callB (hc : CallR X (.builtin id) r) (hg : Gl X x) (hm : X.mg x = none) (hv : bootBuiltins x = some (.builtin id)) (ha : PA X (e :: es) t) (hn : x ≠ "__name__" := by decide) (hdb : (x == ("__debug__" : Str)) = false := by decide)
    (he : starEach (e :: es) X.env = (false, eval e X.env) :: starEach es X.env := by rfl) (hpl : (backTo pos (starEach es X.env)).any (·.1) = false := by rfl) : PE X (.Call (.Name x p) (e :: es) [] pos) (tCB r t) := by
  intro pins s σ H Q I h
  refine wpAny_Call_Name_kw (ld_blt I hg hm hv ?_ hn hdb)
  exact PyProof.Rows.callWith_builtin1 (thn (ha pos pins s σ H _ I h) fun us s1 ⟨vs, H1, I1, r1, q1⟩ => hc pins s1 σ H1 vs us Q I1 r1 q1) he hpl
/-- T(e, ..), T a built-in type -/
theorem pe_callTy (hc : CallR X (.type T) r) (hg : Gl X x) (hm : X.mg x = none) (hv : bootBuiltins x = some (.type T)) (ha : PA X (e :: es) t) (hn : x ≠ "__name__" := by decide) (hdb : (x == ("__debug__" : Str)) = false := by decide)
    (he : starEach (e :: es) X.env = (false, eval e X.env) :: starEach es X.env := by rfl) (hpl : (backTo pos (starEach es X.env)).any (·.1) = false := by rfl) : PE X (.Call (.Name x p) (e :: es) [] pos) (tCB r t) := by
  intro pins s σ H Q I h
  refine wpAny_Call_Name_kw (ld_blt I hg hm hv ?_ hn hdb)
  exact PyProof.Rows.callWith_type1 (thn (ha pos pins s σ H _ I h) fun us s1 ⟨vs, H1, I1, r1, q1⟩ => hc pins s1 σ H1 vs us Q I1 r1 q1) he hpl
/-- T() -/
theorem pe_callTy0 (hc : CallR X (.type T) r) (hg : Gl X x) (hm : X.mg x = none) (hv : bootBuiltins x = some (.type T)) (hn : x ≠ "__name__" := by decide) (hdb : (x == ("__debug__" : Str)) = false := by decide) :
    PE X (.Call (.Name x p) [] [] pos) (tCB r tNil) := by
  intro pins s σ H Q I h
  refine wpAny_Call_Name_kw (ld_blt I hg hm hv ?_ hn hdb)
  exact PyProof.Rows.callWith_type0 (hc pins s σ H [] [] Q I .nil h)
end
end L2

namespace HT
open PySem PyProof.Rows

/-- t < u of tuples of ints -/
def lexLt : List Int → List Int → Bool
  | [], [] => false
  | [], _ :: _ => true
  | _ :: _, [] => false
  | x :: xs, y :: ys => if x = y then lexLt xs ys else decide (x < y)
theorem lexLt_cons (x y : Int) (xs ys : List Int) : lexLt (x :: xs) (y :: ys) = if x = y then lexLt xs ys else decide (x < y) := rfl
theorem lexLt_nil_nil : lexLt [] [] = false := rfl
theorem lexLt_nil_cons (y : Int) (ys : List Int) : lexLt [] (y :: ys) = true := rfl
theorem lexLt_cons_nil (x : Int) (xs : List Int) : lexLt (x :: xs) [] = false := rfl

theorem eqAt_int (A : Around) (s : Shared) (a : Int) (t : Tok) (c : Int) (u : Tok) : ∃ e, SeqAt.EqAt A s (.int a t) (.int c u) e ∧ (e = true ↔ a = c) :=
  ⟨(a == c), SeqAt.EqAt.int_int a t c u, by simp⟩
theorem rcLt_int (A : Around) (s : Shared) (a : Int) (t : Tok) (c : Int) (u : Tok) (prog : Program) (w : World) (E : Value → Shared → Prop) (Q : Value → Shared → Prop) (h : Q (.bool (decide (a < c))) s) :
    wpAny (model prog w) A (richCompare .Lt (.int a t) (.int c u)) Q E s :=
  (PyProof.Rows.lt_int h : wpAny (model prog w) A (compareOp .Lt (.int a t) (.int c u)) Q E s)

section
open PySem.SeqAt
open PySem.AutoSeq1 (wpAny_loadPart')
open PySem.MeetsSeq PySem.MeetsSeq2 PySem.MeetsSeq3

theorem tuple_lt_ints (l b : Addr) (items items2 : Array Value) (n n2 : Nat) (dd dd2 : Option Addr) (sl sl2 : Array (Option Value)) (ns ms : List Int) (hi : IntsAre items.toList ns) (hj : IntsAre items2.toList ms) :
    Meets (Builtin.«tuple.__lt__» ⟨[.ref l, .ref b], []⟩)
      (fun _ R s => s.heap.get? l = some { cls := .type "tuple", dict := dd, data := .seq items n, slots := sl } ∧ s.heap.get? b = some { cls := .type "tuple", dict := dd2, data := .seq items2 n2, slots := sl2 } ∧
        R (.ok (.ret (.bool (lexLt ns ms)))) s) :=
  .of_wp fun prog w A R s h => by
    obtain ⟨hp, g, d, tk, os⟩ := s; obtain ⟨hl, hb, h⟩ := h
    have f2 := AutoSeq1.sub_tuple_tuple
    have z1 : items.size = ns.length := by rw [← hi.length]; simp
    have z2 : items2.size = ms.length := by rw [← hj.length]; simp
    wp_walk using wpAny_loadPart' hl, wpAny_loadPart' hb, wpAny_forIn_list _ (fun rest b s' => b.1 = none ∧ s' = ⟨hp, g, d, tk, os⟩ ∧ ∃ (vs ws : List Value) (ns' ms' : List Int), rest = vs.zip ws ∧
      IntsAre vs ns' ∧ IntsAre ws ms' ∧ ns'.length + items2.size = ms'.length + items.size ∧ R (.ok (.ret (.bool (lexLt ns' ms')))) ⟨hp, g, d, tk, os⟩) _
    case turn =>
      rintro ⟨y, x⟩ rest b s' ⟨hb', rfl, vs, ws, ns', ms', hz, hvi, hwi, hlen, hR⟩
      cases hvi with
      | nil => rw [List.zip_nil_left] at hz; cases hz
      | cons a t hvi' =>
        cases hwi with
        | nil => rw [List.zip_nil_right] at hz; cases hz
        | cons c u hwi' =>
          rw [List.zip_cons_cons] at hz
          injection hz with hyx hrest
          injection hyx with hy hx
          subst hy hx
          rw [lexLt_cons] at hR
          simp only [List.length_cons] at hlen
          obtain ⟨e, he, hiff⟩ := eqAt_int A.in1 ⟨hp, g, d, tk, os⟩ a t c u
          refine wpAny_bind (he prog w _ _ ?_)
          cases e with
          | true =>
            rw [if_pos (hiff.mp rfl)] at hR
            wp_walk
            exact ⟨rfl, rfl, _, _, _, _, hrest, hvi', hwi', by omega, hR⟩
          | false =>
            rw [if_neg (fun q => absurd (hiff.mpr q) Bool.false_ne_true)] at hR
            have hri := rcLt_int A.in1 ⟨hp, g, d, tk, os⟩ a t c u prog w
            wp_walk using hri
            exact ⟨_, rfl, by simpa using hR⟩
    case fin =>
      rintro ⟨b1, b2⟩ s' ⟨hb', rfl, vs, ws, ns', ms', hz, hvi, hwi, hlen, hR⟩
      simp only at hb'
      subst hb'
      have hv : lexLt ns' ms' = decide (items.size < items2.size) := by
        cases hvi with
        | nil =>
          cases hwi with
          | nil =>
            simp only [List.length_nil] at hlen
            rw [lexLt_nil_nil]
            exact (decide_eq_false (by omega)).symm
          | cons c u hw =>
            simp only [List.length_nil, List.length_cons] at hlen
            rw [lexLt_nil_cons]
            exact (decide_eq_true (by omega)).symm
        | cons a t hv =>
          cases hwi with
          | nil =>
            simp only [List.length_nil, List.length_cons] at hlen
            rw [lexLt_cons_nil]
            exact (decide_eq_false (by omega)).symm
          | cons c u hw =>
            rw [List.zip_cons_cons] at hz
            cases hz
      rw [hv] at hR
      wp_walk
      exact ⟨_, rfl, by simpa [Builtin.Tuple.tupleCompareSizes] using hR⟩
    case h =>
      exact ⟨rfl, rfl, items.toList, items2.toList, ns, ms, rfl, hi, hj, by omega, h⟩
end

section
variable {prog : Program} {w : World} {A : Around} {E : Value → Shared → Prop} {s : Shared}

theorem lt_tupInts {l b : Addr} {items items2 : Array Value} {ns ms : List Int} {Q : Value → Shared → Prop} (hl : IsTup s.heap l items) (hb : IsTup s.heap b items2) (hi : IntsAre items.toList ns) (hj : IntsAre items2.toList ms)
    (hu : A.units < cLine) (h : Q (.bool (lexLt ns ms)) s) : wpAny (model prog w) A (compareOp .Lt (.ref l) (.ref b)) Q E s := by
  obtain ⟨⟨cls, dd, data, sl⟩, ho, hc, n, hd⟩ := id hl
  obtain ⟨⟨cls2, dd2, data2, sl2⟩, ho2, hc2, n2, hd2⟩ := id hb
  simp only at hc hd hc2 hd2
  subst hc hd hc2 hd2
  exact richCompare_meets_room (op := .Lt) ⟨_, ho, rfl⟩ ⟨_, ho2, rfl⟩ PySem.F.slot_tuple_lt PySem.F.entry_tuple_lt (PySem.F.args_tuple_lt_2 _ _) (tuple_lt_ints l b items items2 n n2 dd dd2 sl sl2 ns ms hi hj)
    ⟨ho, ho2, show Value.bool (lexLt ns ms) ≠ Value.notImplemented ∧ Q (.bool (lexLt ns ms)) s from ⟨(fun x => nomatch x), h⟩⟩ hu

/-- t + u, t not empty -/
theorem cat_tup {t b : Addr} {vs ws : List Value} {Q : Value → Shared → Prop} (ht : IsTup s.heap t vs.toArray) (hb : IsTup s.heap b ws.toArray) (hv : vs ≠ [])
    (h1 : ws = [] → Q (.ref t) s) (h2 : ws ≠ [] → Q (.ref s.heap.objs.size) { s with heap := s.heap.push { cls := .type "tuple", data := .seq (vs ++ ws).toArray } })
    (hsz : vs.length + ws.length ≤ sizeLine) : wpAny (model prog w) A (binaryOp .Add (.ref t) (.ref b)) Q E s := by
  obtain ⟨⟨cls, dd, data, sl⟩, ho, hc, n, hd⟩ := id ht
  obtain ⟨⟨cls2, dd2, data2, sl2⟩, ho2, hc2, n2, hd2⟩ := id hb
  simp only at hc hd hc2 hd2
  subst hc hd hc2 hd2
  have e : vs.toArray ++ ws.toArray = (vs ++ ws).toArray := by simp
  by_cases hw : ws = []
  · exact concat_meets ⟨_, ho, rfl⟩ ⟨_, ho2, rfl⟩ noFill_tuple_add seq_tuple_add PySem.F.slot_tuple_add PySem.F.entry_tuple_add (PySem.F.args_tuple_add_2 _ _)
      (tuple_addW1 t b vs.toArray ws.toArray n n2 dd dd2 sl sl2 (by simpa using hv) (by simp [hw])) ⟨ho, ho2, h1 hw⟩
  · refine concat_meets ⟨_, ho, rfl⟩ ⟨_, ho2, rfl⟩ noFill_tuple_add seq_tuple_add PySem.F.slot_tuple_add PySem.F.entry_tuple_add (PySem.F.args_tuple_add_2 _ _)
      (tuple_addW2 t b vs.toArray ws.toArray n n2 dd dd2 sl sl2 (by simpa using hv) (by simpa using hw) (by rw [List.size_toArray, List.size_toArray]; exact hsz)) ⟨ho, ho2, ?_⟩
    rw [e]
    exact h2 hw

/-! ### t[a:b], not the whole -/
/-- a slice's bound as a place among n (d where it is left out) -/
def sIx (n d : Nat) : Option Int → Nat
  | none => d
  | some v => if v < 0 then (v + (n : Int)).toNat else min v.toNat n
theorem sIx_none (n d : Nat) : sIx n d none = d := rfl
theorem sIx_nat (n d k : Nat) : sIx n d (some (k : Int)) = min k n := by
  show (if (k : Int) < 0 then ((k : Int) + (n : Int)).toNat else min (k : Int).toNat n) = min k n
  rw [if_neg (by omega), Int.toNat_natCast]
theorem sIx_le (n d : Nat) (hd : d ≤ n) (o : Option Int) : sIx n d o ≤ n := by
  cases o with
  | none => exact hd
  | some v =>
    show (if v < 0 then (v + (n : Int)).toNat else min v.toNat n) ≤ n
    by_cases hv : v < 0
    · rw [if_pos hv]; omega
    · rw [if_neg hv]; exact Nat.min_le_right _ _
theorem clip_eq (v : Int) (n d : Nat) : (if v < 0 then max (v + (n : Int)) 0 else min v (n : Int)) = ((sIx n d (some v) : Nat) : Int) := by
  show (if v < 0 then max (v + (n : Int)) 0 else min v (n : Int)) = (((if v < 0 then (v + (n : Int)).toNat else min v.toNat n) : Nat) : Int)
  by_cases hv : v < 0
  · simp only [if_pos hv]; omega
  · simp only [if_neg hv]; omega
theorem adjust_gen (lo hi : Option Int) (n : Nat) : Builtin.Slice.sliceAdjust lo hi 1 (n : Int) = (((sIx n 0 lo : Nat) : Int), ((sIx n n hi : Nat) : Int)) := by
  have h1 : ¬ ((1 : Int) < 0) := by omega
  unfold Builtin.Slice.sliceAdjust
  simp only [h1, if_false]
  refine Prod.ext ?_ ?_
  · cases lo with
    | none => rfl
    | some v => exact clip_eq v n 0
  · cases hi with
    | none => rfl
    | some v => exact clip_eq v n n
theorem places_gen (i j : Nat) : Builtin.Slice.slicePlaces (i : Int) (j : Int) 1 = j - i := by
  unfold Builtin.Slice.slicePlaces
  have h1 : (1 : Int) > 0 := by omega
  simp only [h1, if_true, Int.ediv_one]
  split <;> omega
theorem slicePart_ {v : Value} {o : Option Int} {Q : Option Int → Shared → Prop} (p : IsPart v o) (h : Q o s) : wpAny (model prog w) A (Builtin.Slice.slicePartIndex v) Q E s := by
  cases p with
  | none => exact slicePart_none h
  | int i t => exact slicePart_int h
theorem sliceApplied_gen {sl : Addr} {vl vu : Value} {lo hi : Option Int} {n : Nat} {Q : Int × Int × Nat → Shared → Prop} (hs : s.heap.IsSliceOf sl vl vu .none) (pl : IsPart vl lo) (pu : IsPart vu hi)
    (h : Q (((sIx n 0 lo : Nat) : Int), 1, sIx n n hi - sIx n 0 lo) s) : wpAny (model prog w) A (Builtin.Slice.sliceApplied (.ref sl) (pure (n : Int))) Q E s := by
  obtain ⟨os, hos, hcs, hds⟩ := id hs
  unfold Builtin.Slice.sliceApplied Builtin.Slice.sliceFields
  refine wpAny_bind (wpAny_bind (wpAny_field hos hds (x := vl) rfl (wpAny_bind (wpAny_field hos hds (x := vu) rfl (wpAny_bind (wpAny_field hos hds (x := .none) rfl (wpAny_pure ?_)))))))
  refine wpAny_bind (slicePart_none ?_)
  show wpAny _ _ (if ((1 : Int) == 0) = true then _ else _) _ _ s
  rw [if_neg (by decide)]
  refine wpAny_bind (slicePart_ pl (wpAny_bind (slicePart_ pu (wpAny_bind (wpAny_pure ?_)))))
  show wpAny _ _ (match Builtin.Slice.sliceAdjust lo hi 1 (n : Int) with | (lo, hi) => pure (lo, (1 : Int), Builtin.Slice.slicePlaces lo hi 1)) _ _ s
  rw [adjust_gen lo hi n]
  show wpAny _ _ (pure (((sIx n 0 lo : Nat) : Int), (1 : Int), Builtin.Slice.slicePlaces ((sIx n 0 lo : Nat) : Int) ((sIx n n hi : Nat) : Int) 1)) _ _ s
  rw [places_gen]
  exact wpAny_pure h
theorem pick_gen (xs : Array Value) (i k : Nat) : ((List.range k).filterMap fun (m : Nat) => xs[((i : Int) + (m : Int) * 1).toNat]?).toArray = ((xs.toList.drop i).take k).toArray := by
  have e : (fun (m : Nat) => xs[((i : Int) + (m : Int) * 1).toNat]?) = fun m => xs[i + m]? := by
    funext m
    have : ((i : Int) + (m : Int) * 1).toNat = i + m := by omega
    rw [this]
  rw [e]
  have := pick_run xs i k
  rw [List.filterMap_map] at this
  have e2 : ((fun x => xs[x]?) ∘ fun x => i + x) = fun m => xs[i + m]? := rfl
  rw [e2] at this
  rw [this]

theorem getItem_tuple_cut {t sl : Addr} {items : Array Value} {vl vu : Value} {lo hi : Option Int} {Q : Value → Shared → Prop} (ht : IsTup s.heap t items) (hs : s.heap.IsSliceOf sl vl vu .none) (pl : IsPart vl lo) (pu : IsPart vu hi)
    (hw : ¬ (sIx items.size 0 lo = 0 ∧ sIx items.size items.size hi = items.size))
    (h : Q (.ref s.heap.objs.size) { s with heap := s.heap.push { cls := .type "tuple", data := .seq ((items.toList.drop (sIx items.size 0 lo)).take (sIx items.size items.size hi - sIx items.size 0 lo)).toArray } })
    (hsz : items.size ≤ sizeLine) : wpAny (model prog w) A (getItem (.ref t) (.ref sl)) Q E s := by
  have htake : sizeOk (.seq ((items.toList.drop (sIx items.size 0 lo)).take (sIx items.size items.size hi - sIx items.size 0 lo)).toArray) := by
    show ((items.toList.drop (sIx items.size 0 lo)).take (sIx items.size items.size hi - sIx items.size 0 lo)).toArray.size ≤ sizeLine
    rw [List.size_toArray, List.length_take, List.length_drop, Array.length_toList]
    omega
  have hj : sIx items.size items.size hi ≤ items.size := sIx_le _ _ (Nat.le_refl _) hi
  obtain ⟨os, hos, hcs, hds⟩ := id hs
  have hTs : s.TypeIs (.ref sl) "slice" := ⟨os, hos, hcs⟩
  unfold getItem
  try with_reducible refine wpAny_holding ?_
  first | refine wpAny_bind (wpAny_pure ?_) | skip
  refine wpAny_bind (wpAny_sequenceKey ht.typeIs (by decide) ?_)
  refine wpAny_bind (wpAny_callSpecial?_slot (name := Str.ofString "__getitem__") ht.typeIs PyProof.Rows.slot_tuple_getitem
    (wpAny_call_entry PyProof.Rows.slot_tuple_getitem ht.typeIs entry_tuple_getitem ?_ (args_tuple_getitem _ _)))
  show wpAny _ _ (Builtin.Tuple.tupleItemsOf (.ref t) >>= _) _ _ s
  refine wpAny_bind (tupleItemsOf_ ht ?_)
  refine wpAny_bind (wpAny_typeOf hTs ?_)
  rw [if_pos (by decide)]
  refine wpAny_bind (sliceApplied_gen hs pl pu ?_)
  have hno : ¬ ((((sIx items.size 0 lo : Nat) : Int) == 0 && (1 : Int) == 1 && (sIx items.size items.size hi - sIx items.size 0 lo) == items.size) = true) := by
    intro q
    rw [Bool.and_eq_true, Bool.and_eq_true] at q
    have q1 : ((sIx items.size 0 lo : Nat) : Int) = 0 := eq_of_beq q.1.1
    have q2 : sIx items.size items.size hi - sIx items.size 0 lo = items.size := eq_of_beq q.2
    exact hw ⟨by omega, by omega⟩
  show wpAny _ _ (if (((sIx items.size 0 lo : Nat) : Int) == 0 && (1 : Int) == 1 && (sIx items.size items.size hi - sIx items.size 0 lo) == items.size) = true then _ else _) _ _ s
  rw [if_neg hno, pick_gen]
  first
    | exact wpAny_bind (m := Builtin.Tuple.tupleExact _) (wpAny_newObj_type (wpAny_pure ⟨_, rfl, wpAny_pure h⟩) htake)
    | exact wpAny_bind (m := Builtin.Tuple.tupleExact _) (wpAny_newObj_type (wpAny_bind (wpAny_pure (wpAny_pure ⟨_, rfl, wpAny_pure h⟩))) htake)
    | exact wpAny_bind (wpAny_bind (m := Builtin.Tuple.tupleExact _) (wpAny_newObj_type (wpAny_pure (wpAny_pure ⟨_, rfl, wpAny_pure h⟩)) htake))
    | exact wpAny_bind (wpAny_bind (m := Builtin.Tuple.tupleExact _) (wpAny_newObj_type (wpAny_pure ⟨_, rfl, wpAny_pure h⟩) htake))
end
end HT

namespace L2
open PySem PySem.Spec PyProof.Rows

/-! ### the parts of a slice -/
abbrev TO := St → Hp → (Option Int → Hp → Prop) → Prop
/-- a slice's part (left out, or an int) -/
def PO (X : Cx) (e : Option Expr) (t : TO) : Prop :=
  ∀ (pins : List (Addr × Obj)) (s : Shared) (σ : St) (H : Hp) (Q : Option Int → Hp → Prop), Inv X pins σ H s → t σ H Q →
    wpAny (model X.prog X.w) X.A (evalPart e X.env) (fun u s' => ∃ o H', Inv X pins σ H' s' ∧ IsPart u o ∧ Q o H') X.xe s
def tNoPart : TO := fun _ H Q => Q none H
def tPart (t : TE) : TO := fun σ H Q => t σ H fun x H1 => ∃ i, x = .int i ∧ Q (some i) H1

theorem intsAre_of {ns : List Int} : ∀ {us : List Value}, Vals (ns.map V.int) us → IntsAre us ns := by
  induction ns with
  | nil => intro us r; rw [List.map_nil] at r; cases r; exact .nil
  | cons n ns ih =>
    intro us r
    rw [List.map_cons] at r
    cases r with
    | cons r1 r2 =>
      obtain ⟨t, e⟩ := r1
      subst e
      exact .cons n t (ih r2)

section
variable {X : Cx} {e : Expr} {te : TE} {lo hi : Option Expr} {tl th : TO} {pos p2 : Pos}

theorem po_none : PO X none tNoPart := by
  intro pins s σ H Q I h
  rw [evalPart_none]
  exact wpAny_pure ⟨none, H, I, .none, h⟩
theorem po_some (h : PE X e te) : PO X (some e) (tPart te) := by
  intro pins s σ H Q I hw
  rw [evalPart_some]
  refine thn (h pins s σ H _ I hw) fun u s1 ⟨x, H1, I1, r1, q1⟩ => ?_
  obtain ⟨i, rfl, q⟩ := q1
  obtain ⟨t, rfl⟩ := r1
  exact ⟨some i, H1, I1, .int i t, q⟩

/-- what a slice of a value is, by values: the slice object stands at sl -/
def SlR (X : Cx) (r : V → Option Int → Option Int → Hp → VK → Prop) : Prop :=
  ∀ (pins : List (Addr × Obj)) (s : Shared) (σ : St) (H : Hp) (x : V) (v vl vu : Value) (lo hi : Option Int) (sl : Addr) (Q : VK), Inv X pins σ H s → RelV x v → s.heap.IsSliceOf sl vl vu .none → IsPart vl lo → IsPart vu hi → r x lo hi H Q →
    ∃ T id, typeLookup (.type T) "__getitem__" = pure (some (.builtin id)) ∧ s.TypeIs v T ∧ wpAny (model X.prog X.w) X.A (getItem v (.ref sl)) (EP X pins σ Q) X.xe s
theorem SlR.or {r r' : V → Option Int → Option Int → Hp → VK → Prop} (h : SlR X r) (h' : SlR X r') : SlR X (fun x lo hi H Q => r x lo hi H Q ∨ r' x lo hi H Q) := by
  intro pins s σ H x v vl vu lo hi sl Q I rx hs pl pu q
  rcases q with q | q
  · exact h pins s σ H x v vl vu lo hi sl Q I rx hs pl pu q
  · exact h' pins s σ H x v vl vu lo hi sl Q I rx hs pl pu q
def tSl (r : V → Option Int → Option Int → Hp → VK → Prop) (te : TE) (tl th : TO) : TE := fun σ H Q => te σ H fun x H1 => tl σ H1 fun l H2 => th σ H2 fun u H3 => r x l u H3 Q
/-- a[lo:hi], any a -/
theorem pe_slice {r : V → Option Int → Option Int → Hp → VK → Prop} (hr : SlR X r) (he : PE X e te) (hl : PO X lo tl) (hu : PO X hi th) : PE X (.Subscript e (.Slice lo hi none p2) pos) (tSl r te tl th) := by
  intro pins s σ H Q I h
  refine Subscript_ (thn (he pins s σ H _ I h) fun v s1 ⟨x, H1, I1, r1, q1⟩ => ?_)
  refine wpAny_Slice (thn (hl pins s1 σ H1 _ I1 q1) fun vl s2 ⟨l, H2, I2, pl, q2⟩ => thn (hu pins s2 σ H2 _ I2 q2) fun vu s3 ⟨u, H3, I3, pu, q3⟩ => ?_)
  rw [evalPart_none]
  refine wpAny_pure ?_
  have I4 : Inv X pins σ H3 { s3 with heap := s3.heap.push { cls := .type "slice", data := .fields #[vl, vu, .none] } } := I3.kept (t' := s3.toks) fun b ob q => Heap.get?_push_of_some _ q
  obtain ⟨T, id, hT, ht, hg⟩ := hr pins { s3 with heap := s3.heap.push { cls := .type "slice", data := .fields #[vl, vu, .none] } } σ H3 x v vl vu l u s3.heap.objs.size Q I4 r1 (Heap.IsSliceOf.new ..) pl pu q3
  show wpAny (model X.prog X.w) X.A (subscriptTail e (.Slice lo hi none p2) v (.ref s3.heap.objs.size)) (EP X pins σ Q) X.xe { s3 with heap := s3.heap.push { cls := .type "slice", data := .fields #[vl, vu, .none] } }
  exact tail_any (ops := [.ref s3.heap.objs.size, v]) ht hT hg (by with_unfolding_all rfl)

/-- the items of xs[lo:hi] -/
def cutV (xs : List V) (lo hi : Option Int) : List V := (xs.drop (HT.sIx xs.length 0 lo)).take (HT.sIx xs.length xs.length hi - HT.sIx xs.length 0 lo)
theorem cutV_length (xs : List V) (lo hi : Option Int) : (cutV xs lo hi).length ≤ xs.length := by
  unfold cutV
  rw [List.length_take, List.length_drop]
  omega
/-- t[lo:hi], not the whole of it (the whole would be t itself) -/
def rSlT (K : PySem.W.Frag) : V → Option Int → Option Int → Hp → VK → Prop := fun x lo hi H Q => ∃ a xs, x = .ref a ∧ SqT K H a xs ∧
  ¬ (HT.sIx xs.length 0 lo = 0 ∧ HT.sIx xs.length xs.length hi = xs.length) ∧ ∀ p, H p = none → Q (.ref p) (upd H p (.tup (cutV xs lo hi)))
theorem sl_tup : SlR X (rSlT X.K) := by
  intro pins s σ H x v vl vu lo hi sl Q I rx hs pl pu h
  obtain ⟨a, xs, rfl, hx, hw, q⟩ := h
  cases rx
  obtain ⟨its, r, ht, hz⟩ := I.tuple hx
  have hlen : its.toArray.size = xs.length := by rw [List.size_toArray]; exact r.length.symm
  refine ⟨"tuple", _, PyProof.Rows.slot_tuple_getitem.lookup, ht.typeIs, ?_⟩
  refine HT.getItem_tuple_cut ht hs pl pu (by rw [hlen]; exact hw) ?_ (by rw [hlen]; exact hz)
  rw [hlen]
  refine ⟨.ref s.heap.objs.size, _, I.laid (t' := s.toks) (o := .tup (cutV xs lo hi)) (fun b ob q => Heap.get?_push_of_some _ q) (Nat.le_refl _) ?_, rfl, q _ (I.hok.fresh (Nat.le_refl _))⟩
  exact ⟨Nat.le_trans (cutV_length xs lo hi) hz, _, (r.drop (HT.sIx xs.length 0 lo)).take (HT.sIx xs.length xs.length hi - HT.sIx xs.length 0 lo), IsTup.new _ _⟩

/-! ### t < u, t + u -/
def rLtT (K : PySem.W.Frag) : R2 := fun x y H Q => ∃ a b ns ms, x = .ref a ∧ y = .ref b ∧ SqT K H a (ns.map V.int) ∧ SqT K H b (ms.map V.int) ∧ Q (.bl (HT.lexLt ns ms)) H
theorem op_ltT (hu : X.A.units < cLine) : OpR X (compareOp .Lt) (rLtT X.K) := by
  intro pins s σ H x y v u Q I rx ry h
  obtain ⟨a, b, ns, ms, rfl, rfl, ha, hb, q⟩ := h
  cases rx
  cases ry
  obtain ⟨its, r1, p1, _⟩ := I.tuple ha
  obtain ⟨its2, r2, p2, _⟩ := I.tuple hb
  have i1 : IntsAre its.toArray.toList ns := intsAre_of r1
  have i2 : IntsAre its2.toArray.toList ms := intsAre_of r2
  exact HT.lt_tupInts p1 p2 i1 i2 hu ⟨.bl (HT.lexLt ns ms), H, I, rfl, q⟩
/-- t + u, t not empty: u empty gives t itself -/
def rCatT (K : PySem.W.Frag) : R2 := fun x y H Q => ∃ a b xs ys, x = .ref a ∧ y = .ref b ∧ SqT K H a xs ∧ SqT K H b ys ∧ xs ≠ [] ∧ xs.length + ys.length ≤ sizeLine ∧
  (ys = [] → Q (.ref a) H) ∧ (ys ≠ [] → ∀ p, H p = none → Q (.ref p) (upd H p (.tup (xs ++ ys))))
theorem Vals.nil_iff {xs : List V} {us : List Value} (r : Vals xs us) : us = [] ↔ xs = [] := by
  cases r with
  | nil => simp
  | cons _ _ => simp
theorem op_catT : OpR X (binaryOp .Add) (rCatT X.K) := by
  intro pins s σ H x y v u Q I rx ry h
  obtain ⟨a, b, xs, ys, rfl, rfl, ha, hb, hx, hz, q1, q2⟩ := h
  cases rx
  cases ry
  obtain ⟨its, r1, p1, _⟩ := I.tuple ha
  obtain ⟨its2, r2, p2, _⟩ := I.tuple hb
  refine HT.cat_tup p1 p2 (fun z => hx (r1.nil_iff.mp z)) (fun z => ⟨.ref a, H, I, rfl, q1 (r2.nil_iff.mp z)⟩) (fun z => ?_) (by rw [← r1.length, ← r2.length]; exact hz)
  refine ⟨.ref s.heap.objs.size, _, I.laid (t' := s.toks) (o := .tup (xs ++ ys)) (fun b ob q => Heap.get?_push_of_some _ q) (Nat.le_refl _) ?_, rfl, q2 (fun w => z (r2.nil_iff.mpr w)) _ (I.hok.fresh (Nat.le_refl _))⟩
  exact ⟨by rw [List.length_append]; exact hz, _, r1.append r2, IsTup.new _ _⟩
/-- tuple(t) -/
theorem call_tupleT : CallR X (.type "tuple") (fun xs H Q => ∃ a ys, xs = [.ref a] ∧ SqT X.K H a ys ∧ Q (.ref a) H) := by
  intro pins s σ H xs us Q I r h
  obtain ⟨a, ys, rfl, ha, q⟩ := h
  obtain ⟨u, rfl, ru⟩ := vals1 r
  cases ru
  obtain ⟨its, _, p1, _⟩ := I.tuple ha
  exact call_tuple_same (items := its.toArray) p1 ⟨.ref a, H, I, rfl, q⟩
end
end L2

namespace L2
open PySem PySem.Spec PyProof.Rows

/-! ### places -/
/-- the place that an index of any sign means -/
def ixN (n : Nat) (i : Int) : Option Nat := if 0 ≤ i then (if i < n then some i.toNat else none) else if -(n : Int) ≤ i then some (i + n).toNat else none
def atI {α : Type} (xs : List α) (i : Int) : Option α := (ixN xs.length i).bind fun j => xs[j]?
theorem ixN_seq {n : Nat} {i : Int} {j : Nat} (h : ixN n i = some j) : seqIndex? i n = some j ∧ j < n ∧ -(n : Int) ≤ i ∧ i < n := by
  unfold ixN at h
  by_cases h0 : 0 ≤ i
  · rw [if_pos h0] at h
    by_cases h1 : i < n
    · rw [if_pos h1] at h
      have e : i.toNat = j := Option.some.inj h
      exact ⟨by rw [seqIndex_of h0 h1, e], by omega, by omega, h1⟩
    · rw [if_neg h1] at h; cases h
  · rw [if_neg h0] at h
    by_cases h1 : -(n : Int) ≤ i
    · rw [if_pos h1] at h
      have e : (i + n).toNat = j := Option.some.inj h
      exact ⟨by rw [seqIndex_neg (by omega) h1, e], by omega, h1, by omega⟩
    · rw [if_neg h1] at h; cases h
theorem atI_get {α : Type} {xs : List α} {i : Int} {v : α} (h : atI xs i = some v) : ∃ j, seqIndex? i xs.length = some j ∧ xs[j]? = some v ∧ j < xs.length ∧ -(xs.length : Int) ≤ i ∧ i < xs.length := by
  unfold atI at h
  cases e : ixN xs.length i with
  | none => rw [e] at h; cases h
  | some j =>
    rw [e] at h
    obtain ⟨h1, h2, h3, h4⟩ := ixN_seq e
    exact ⟨j, h1, h, h2, h3, h4⟩
theorem atI_nat {α : Type} {xs : List α} {j : Nat} {v : α} (h : xs[j]? = some v) : atI xs (j : Int) = some v := by
  have hj : j < xs.length := (List.getElem?_eq_some_iff.mp h).1
  have e : ixN xs.length (j : Int) = some j := by
    unfold ixN
    rw [if_pos (by omega), if_pos (by omega)]; simp
  unfold atI; rw [e]; exact h
theorem atI_last {α : Type} (xs : List α) (v : α) : atI (xs ++ [v]) (-1) = some v := by
  have hl : (xs ++ [v]).length = xs.length + 1 := by simp
  have e : ixN (xs ++ [v]).length (-1) = some xs.length := by
    unfold ixN
    rw [hl, if_neg (by decide), if_pos (by omega)]
    congr 1
    omega
  unfold atI
  rw [e]
  show (xs ++ [v])[xs.length]? = some v
  simp

/-! ### what may be subscripted -/
/-- what stands as an index of a plain subscript -/
def PlainIx (b : Expr) : Prop := ∀ o i, subscripted b false o i = operate [o, i] (getItem o i)
/-- a subscript by values -/
def IxR (X : Cx) (r : R2) : Prop :=
  ∀ (value slice : Expr) (pins : List (Addr × Obj)) (s : Shared) (σ : St) (H : Hp) (x y : V) (v u : Value) (Q : VK), Inv X pins σ H s → RelV x v → RelV y u → r x y H Q →
    subscripted slice false v u = operate [v, u] (getItem v u) → wpAny (model X.prog X.w) X.A (subscriptTail value slice v u) (EP X pins σ Q) X.xe s
/-- a call of a builtin's method by values: the receiver, the arguments -/
def MtR (X : Cx) (id : String) (r : V → List V → Hp → VK → Prop) : Prop :=
  ∀ (pins : List (Addr × Obj)) (s : Shared) (σ : St) (H : Hp) (x : V) (xs : List V) (v : Value) (us : List Value) (Q : VK), Inv X pins σ H s → RelV x v → Vals xs us → r x xs H Q →
    wpAny (model X.prog X.w) X.A (call (.builtin id) (v :: us)) (EP X pins σ Q) X.xe s
section
variable {X : Cx} {a b : Expr} {ta tb : TE} {pos : Pos}
theorem IxR.or {r r' : R2} (h : IxR X r) (h' : IxR X r') : IxR X (fun x y H Q => r x y H Q ∨ r' x y H Q) := by
  intro value slice pins s σ H x y v u Q I rx ry q hs
  rcases q with q | q
  · exact h value slice pins s σ H x y v u Q I rx ry q hs
  · exact h' value slice pins s σ H x y v u Q I rx ry q hs
theorem MtR.or {id : String} {r r' : V → List V → Hp → VK → Prop} (h : MtR X id r) (h' : MtR X id r') : MtR X id (fun x xs H Q => r x xs H Q ∨ r' x xs H Q) := by
  intro pins s σ H x xs v us Q I rx rs q
  rcases q with q | q
  · exact h pins s σ H x xs v us Q I rx rs q
  · exact h' pins s σ H x xs v us Q I rx rs q
/-- a[b] -/
theorem pe_ix {r : R2} (hr : IxR X r) (ha : PE X a ta) (hb : PE X b tb) (hs : PlainIx b) : PE X (.Subscript a b pos) (tOp r ta tb) := by
  intro pins s σ H Q I h
  exact Subscript_ (binT ha hb I h fun v u s2 x y H2 I2 rx ry q => hr a b pins s2 σ H2 x y v u Q I2 rx ry q (hs _ _))

def rIxL (K : PySem.W.Frag) : R2 := fun x y H Q => ∃ p xs i v, x = .ref p ∧ y = .int i ∧ SqL K H p xs ∧ atI xs i = some v ∧ Q v H
def rIxT (K : PySem.W.Frag) : R2 := fun x y H Q => ∃ p xs i v, x = .ref p ∧ y = .int i ∧ SqT K H p xs ∧ atI xs i = some v ∧ Q v H
def rIxS : R2 := fun x y H Q => ∃ z i c, x = .str z ∧ y = .int i ∧ z.length ≤ sizeLine ∧ atI z.cps.toList i = some c ∧ Q (.str ⟨#[c]⟩) H
theorem ix_list : IxR X (rIxL X.K) := by
  intro value slice pins s σ H x y v u Q I rx ry h hs
  obtain ⟨p, xs, i, z, rfl, rfl, hq, he, q⟩ := h
  cases rx
  obtain ⟨t, rfl⟩ := ry
  obtain ⟨its, r, pl, hz⟩ := I.list hq
  obtain ⟨j, h1, h2, h3, h4, h5⟩ := atI_get he
  obtain ⟨w, ew, rw'⟩ := r.get h2
  have hl := r.length
  have hn := line63
  have fin : EP X pins σ Q w s := ⟨z, H, I, rw', q⟩
  by_cases h0 : 0 ≤ i
  · have hj : i.toNat = j := by
      rw [seqIndex_of h0 h5] at h1
      exact Option.some.inj h1
    exact item_listR pl.isList h0 (by omega) (by rw [hj]; simpa using ew) fin hs
  · have hj : (i + (its.toArray.size : Int)).toNat = j := by
      rw [seqIndex_neg (by omega) h4] at h1
      rw [List.size_toArray, ← hl]
      exact Option.some.inj h1
    exact subscriptTail_builtinR (x := w) pl.isList.typeIs slot_list_getitem.lookup
      (wpAny_getItem_list_neg (Q := fun r s' => r = w ∧ EP X pins σ Q r s') pl.isList (by omega) (by rw [List.size_toArray] <;> omega) (by omega) (by rw [hj]; simpa using ew) ⟨rfl, fin⟩) hs
theorem ix_tup : IxR X (rIxT X.K) := by
  intro value slice pins s σ H x y v u Q I rx ry h hs
  obtain ⟨p, xs, i, z, rfl, rfl, hq, he, q⟩ := h
  cases rx
  obtain ⟨t, rfl⟩ := ry
  obtain ⟨its, r, pl, hz⟩ := I.tuple hq
  obtain ⟨j, h1, h2, h3, h4, h5⟩ := atI_get he
  obtain ⟨w, ew, rw'⟩ := r.get h2
  have hl := r.length
  have hn := line63
  have fin : EP X pins σ Q w s := ⟨z, H, I, rw', q⟩
  exact subscriptTail_builtinR (x := w) pl.typeIs slot_tuple_getitem.lookup
    (getItem_tuple (j := j) (Q := fun r s' => r = w ∧ EP X pins σ Q r s') pl (by omega) (by omega) (by rw [List.size_toArray, ← hl]; exact h1) (by simpa using ew) ⟨rfl, fin⟩) hs
theorem ix_str : IxR X rIxS := by
  intro value slice pins s σ H x y v u Q I rx ry h hs
  obtain ⟨z, i, c, rfl, rfl, hz, he, q⟩ := h
  obtain ⟨t, rfl⟩ := rx
  obtain ⟨t', rfl⟩ := ry
  obtain ⟨j, h1, h2, h3, h4, h5⟩ := atI_get he
  have hl : z.cps.toList.length = z.length := by simp [Str.length]
  rw [hl] at h1 h4 h5
  have hn := line63
  exact tail_any (typeIs_str s z t) slot_str_getitem.lookup (getItem_str (c := c) (by
    have e1 : decide (i < -(2 ^ 63 : Int)) = false := decide_eq_false (by omega)
    have e2 : decide (i ≥ 2 ^ 63) = false := decide_eq_false (by omega)
    rw [e1, e2, Bool.or_false]) (by rw [h1]; simpa using h2) ⟨.str ⟨#[c]⟩, H, I.tok _, ⟨_, rfl⟩, q⟩) hs
/-- list, tuple or str -/
def rIx (K : PySem.W.Frag) : R2 := fun x y H Q => rIxL K x y H Q ∨ rIxT K x y H Q ∨ rIxS x y H Q
theorem ix_seq : IxR X (rIx X.K) := ix_list.or (ix_tup.or ix_str)

/-! ### xs[i] = v, any sign -/
/-- the list's object behind a store -/
theorem mapSeq_set (its : List Value) (n j : Nat) (u : Value) : Obj.mapSeq (·.setIfInBounds j u) { cls := .type "list", data := .seq its.toArray n } = { cls := .type "list", data := .seq (its.set j u).toArray n } := by
  simp [Obj.mapSeq]
theorem Inv.lst {pins : List (Addr × Obj)} {σ : St} {H : Hp} {s : Shared} {p : Addr} {xs : List V} (I : Inv X pins σ H s) (h : H p = some (.lst xs)) :
    ∃ (its : List Value) (n : Nat), Vals xs its ∧ s.heap.get? p = some { cls := .type "list", data := .seq its.toArray n } ∧ xs.length ≤ sizeLine := by
  obtain ⟨z, its, n, r, e⟩ := I.hok p _ h
  exact ⟨its, n, r, e, z⟩
/-- the list at p is written by an update of its object -/
theorem Inv.lstUpd {pins : List (Addr × Obj)} {σ : St} {H : Hp} {s : Shared} {p : Addr} {xs ys : List V} {its its' : List Value} {n n' : Nat} {f : Obj → Obj} (I : Inv X pins σ H s) (h : H p = some (.lst xs))
    (ho : s.heap.get? p = some { cls := .type "list", data := .seq its.toArray n }) (hf : f { cls := .type "list", data := .seq its.toArray n } = { cls := .type "list", data := .seq its'.toArray n' }) (r : Vals ys its') (hz : ys.length ≤ sizeLine) (t : Nat) :
    Inv X pins σ (upd H p (.lst ys)) { s with heap := s.heap.update p f, toks := t } := by
  have e : (s.heap.update p f).get? p = some { cls := .type "list", data := .seq its'.toArray n' } := by
    rw [Heap.get?_update_self f ho (by rw [hf] <;> rfl), hf]
  refine I.write (x := p) (e := p) (by rw [h]; trivial) (.inl rfl) (fun b u hb q => (Heap.get?_update_other _ _ (Ne.symm hb)).trans q) ⟨_, e⟩ ?_
  exact ⟨hz, its', n', r, e⟩
def rSetL : V → V → V → Hp → (Hp → Prop) → Prop := fun o i v H Q => ∃ p xs k j, o = .ref p ∧ i = .int k ∧ H p = some (.lst xs) ∧ ixN xs.length k = some j ∧ Q (upd H p (.lst (xs.set j v)))
theorem set_list : PSet X rSetL := by
  intro pins s σ H o i v ov iv u Q I ro ri rv h
  obtain ⟨p, xs, k, j, rfl, rfl, hp, hj, q⟩ := h
  cases ro
  obtain ⟨t, rfl⟩ := ri
  obtain ⟨its, n, r, ho, hz⟩ := I.lst hp
  obtain ⟨h1, h2, h3, h4⟩ := ixN_seq hj
  have hl := r.length
  have hn := line63
  have I' : Inv X pins σ (upd H p (.lst (xs.set j v))) { s with heap := s.heap.update p (Obj.mapSeq (·.setIfInBounds j u)) } :=
    I.lstUpd hp ho (mapSeq_set its n j u) (r.set rv j) (by rw [List.length_set]; exact hz) s.toks
  by_cases h0 : 0 ≤ k
  · have hk : k.toNat = j := by
      rw [seqIndex_of h0 h4] at h1
      exact Option.some.inj h1
    exact PySem.W.ki_setAt ho h0 (by omega) (by rw [List.size_toArray, ← hl]; exact h4) (by rw [hk]; exact ⟨_, I', q⟩)
  · have hk : (k + (its.toArray.size : Int)).toNat = j := by
      rw [seqIndex_neg (by omega) h3] at h1
      rw [List.size_toArray, ← hl]
      exact Option.some.inj h1
    exact PySem.W.ki_setBack ho (by omega) (by rw [List.size_toArray, ← hl]; exact h3) (by omega) (by rw [hk]; exact ⟨_, I', q⟩)

/-! ### slices -/
theorem slice_bounds (lo hi : Option Int) (n : Nat) : (sliceBounds lo hi none n).1 = ((HT.sIx n 0 lo : Nat) : Int) ∧ (sliceBounds lo hi none n).2.1 = ((HT.sIx n n hi : Nat) : Int) ∧ (sliceBounds lo hi none n).2.2 = 1 := by
  refine ⟨?_, ?_, rfl⟩
  · cases lo with
    | none => simp [sliceBounds, HT.sIx]
    | some i =>
      simp only [sliceBounds, HT.sIx, Option.getD_none, show (1 : Int) > 0 by decide, if_true]
      by_cases h : i < 0
      · simp only [h, if_true] <;> omega
      · simp only [h, if_false] <;> omega
  · cases hi with
    | none => simp [sliceBounds, HT.sIx]
    | some i =>
      simp only [sliceBounds, HT.sIx, Option.getD_none, show (1 : Int) > 0 by decide, if_true]
      by_cases h : i < 0
      · simp only [h, if_true] <;> omega
      · simp only [h, if_false] <;> omega
theorem slicePick_cut (its : List Value) (lo hi : Option Int) : slicePick its.toArray lo hi none = ((its.drop (HT.sIx its.length 0 lo)).take (HT.sIx its.length its.length hi - HT.sIx its.length 0 lo)).toArray := by
  obtain ⟨h1, h2, h3⟩ := slice_bounds lo hi its.toArray.size
  unfold slicePick
  rw [h1, h2, h3]
  simp only [sliceRange_one, pick_run, List.size_toArray] <;> rfl
/-- xs[lo:hi] of a list: a new list -/
def rSlL (K : PySem.W.Frag) : V → Option Int → Option Int → Hp → VK → Prop := fun x lo hi H Q => ∃ a xs, x = .ref a ∧ SqL K H a xs ∧ ∀ p, H p = none → Q (.ref p) (upd H p (.lst (cutV xs lo hi)))
theorem sl_list : SlR X (rSlL X.K) := by
  intro pins s σ H x v vl vu lo hi sl Q I rx hs pl pu h
  obtain ⟨a, xs, rfl, hx, q⟩ := h
  cases rx
  obtain ⟨its, r, ht, hz⟩ := I.list hx
  have hlen := r.length
  refine ⟨"list", _, slot_list_getitem.lookup, ht.isList.typeIs, ?_⟩
  refine wpAny_getItem_list_slice ht.isList hs pl pu .none (by simp) ?_ (by rw [List.size_toArray] <;> omega)
  rw [slicePick_cut, ← hlen]
  refine ⟨.ref s.heap.objs.size, _, I.laid (t' := s.toks) (o := .lst (cutV xs lo hi)) (fun b ob q => Heap.get?_push_of_some _ q) (Nat.le_refl _) ?_, rfl, q _ (I.hok.fresh (Nat.le_refl _))⟩
  exact ⟨Nat.le_trans (cutV_length xs lo hi) hz, _, 0, (r.drop (HT.sIx xs.length 0 lo)).take (HT.sIx xs.length xs.length hi - HT.sIx xs.length 0 lo), Heap.get?_push_size _ rfl⟩

/-! ### in, not in: flat items -/
def flatV : V → Bool
  | .non => true
  | .bl _ => true
  | .int _ => true
  | .str _ => true
  | _ => false
/-- == of flat values -/
def eqV : V → V → Bool
  | .non, .non => true
  | .bl a, .bl b => a == b
  | .bl a, .int b => (if a then 1 else 0) == b
  | .int a, .bl b => a == (if b then 1 else 0)
  | .int a, .int b => a == b
  | .str a, .str b => a == b
  | _, _ => false
theorem eqAt_V {A : Around} {s : Shared} {y x : V} {u v : Value} (ry : RelV y u) (rx : RelV x v) (fy : flatV y = true) (fx : flatV x = true) : SeqAt.EqAt A s u v (eqV y x) := by
  cases y with
  | non =>
    cases ry
    cases x with
    | non => cases rx; exact SeqAt.EqAt.same _
    | bl b => cases rx; exact SeqAt.EqAt.none_bool b
    | int b => obtain ⟨t, rfl⟩ := rx; exact SeqAt.EqAt.none_int b t
    | str b => obtain ⟨t, rfl⟩ := rx; exact SeqAt.EqAt.none_str b t
    | _ => exact absurd (show false = true from fx) Bool.false_ne_true
  | bl a =>
    cases ry
    cases x with
    | non => cases rx; exact SeqAt.EqAt.bool_none a
    | bl b => cases rx; exact SeqAt.EqAt.bool_bool a b
    | int b => obtain ⟨t, rfl⟩ := rx; exact SeqAt.EqAt.bool_int a b t
    | str b => obtain ⟨t, rfl⟩ := rx; exact SeqAt.EqAt.bool_str a b t
    | _ => exact absurd (show false = true from fx) Bool.false_ne_true
  | int a =>
    obtain ⟨t', rfl⟩ := ry
    cases x with
    | non => cases rx; exact SeqAt.EqAt.int_none a t'
    | bl b => cases rx; exact SeqAt.EqAt.int_bool a t' b
    | int b => obtain ⟨t, rfl⟩ := rx; exact SeqAt.EqAt.int_int a t' b t
    | str b => obtain ⟨t, rfl⟩ := rx; exact SeqAt.EqAt.int_str a t' b t
    | _ => exact absurd (show false = true from fx) Bool.false_ne_true
  | str a =>
    obtain ⟨t', rfl⟩ := ry
    cases x with
    | non => cases rx; exact SeqAt.EqAt.str_none a t'
    | bl b => cases rx; exact SeqAt.EqAt.str_bool a t' b
    | int b => obtain ⟨t, rfl⟩ := rx; exact SeqAt.EqAt.str_int a t' b t
    | str b => obtain ⟨t, rfl⟩ := rx; exact SeqAt.EqAt.str_str a t' b t
    | _ => exact absurd (show false = true from fx) Bool.false_ne_true
  | _ => exact absurd (show false = true from fy) Bool.false_ne_true
/-- the items' answers, read off the values (a value's own answer does not lean on its token) -/
def eqU (x : V) (u : Value) : Bool := match u with
  | .none => eqV .non x
  | .bool b => eqV (.bl b) x
  | .int i _ => eqV (.int i) x
  | .str z _ => eqV (.str z) x
  | _ => false
theorem eqU_of {x y : V} {u : Value} (r : RelV y u) (f : flatV y = true) : eqU x u = eqV y x := by
  cases y with
  | non => cases r; rfl
  | bl b => cases r; rfl
  | int i => obtain ⟨t, rfl⟩ := r; rfl
  | str z => obtain ⟨t, rfl⟩ := r; rfl
  | _ => exact absurd (show false = true from f) Bool.false_ne_true
theorem any_eqU {x : V} : ∀ {xs : List V} {us : List Value}, Vals xs us → xs.all flatV = true → us.any (eqU x) = xs.any fun y => eqV y x
  | _, _, .nil, _ => rfl
  | y :: xs, u :: us, .cons r t, f => by
    rw [List.all_cons, Bool.and_eq_true] at f
    rw [List.any_cons, List.any_cons, eqU_of r f.1, any_eqU t f.2]
theorem mem_eqAt {A : Around} {s : Shared} {x : V} {v : Value} (rx : RelV x v) (fx : flatV x = true) : ∀ {xs : List V} {us : List Value}, Vals xs us → xs.all flatV = true → ∀ u ∈ us, SeqAt.EqAt A s u v (eqU x u)
  | _, _, .nil, _ => fun u hu => by cases hu
  | y :: xs, u :: us, .cons r t, f => fun u' hu => by
    rw [List.all_cons, Bool.and_eq_true] at f
    rcases List.mem_cons.mp hu with rfl | hu
    · rw [eqU_of r f.1]; exact eqAt_V r rx f.1 fx
    · exact mem_eqAt rx fx t f.2 u' hu
def inV (x : V) (xs : List V) : Bool := xs.any fun y => eqV y x
/-- x in a list or tuple of flat items -/
def rIn (K : PySem.W.Frag) (neg : Bool) : R2 := fun x y H Q => ∃ p xs, y = .ref p ∧ (SqL K H p xs ∨ SqT K H p xs) ∧ flatV x = true ∧ xs.all flatV = true ∧ Q (.bl (if neg then !inV x xs else inV x xs)) H
theorem op_in_seq : OpR X (compareOp .In) (rIn X.K false) := by
  intro pins s σ H x y v u Q I rx ry h
  obtain ⟨p, xs, rfl, hq, fx, fs, q⟩ := h
  cases ry
  rcases hq with hq | hq
  · obtain ⟨its, r, pl, hz⟩ := I.list hq
    refine SeqAt.in_listAt (eqU x) pl.isList (fun w hw => mem_eqAt rx fx r fs w (by simpa using hw)) ⟨.bl _, H, I, rfl, ?_⟩
    rw [show its.toArray.any (eqU x) = its.any (eqU x) by simp, any_eqU r fs]
    exact q
  · obtain ⟨its, r, pl, hz⟩ := I.tuple hq
    refine SeqAt.in_tupleAt (eqU x) pl (fun w hw => mem_eqAt rx fx r fs w (by simpa using hw)) ⟨.bl _, H, I, rfl, ?_⟩
    rw [show its.toArray.any (eqU x) = its.any (eqU x) by simp, any_eqU r fs]
    exact q
theorem op_notIn_seq : OpR X (compareOp .NotIn) (rIn X.K true) := by
  intro pins s σ H x y v u Q I rx ry h
  obtain ⟨p, xs, rfl, hq, fx, fs, q⟩ := h
  cases ry
  rcases hq with hq | hq
  · obtain ⟨its, r, pl, hz⟩ := I.list hq
    refine SeqAt.notIn_listAt (eqU x) pl.isList (fun w hw => mem_eqAt rx fx r fs w (by simpa using hw)) ⟨.bl _, H, I, rfl, ?_⟩
    rw [show its.toArray.any (eqU x) = its.any (eqU x) by simp, any_eqU r fs]
    exact q
  · obtain ⟨its, r, pl, hz⟩ := I.tuple hq
    refine SeqAt.notIn_tupleAt (eqU x) pl (fun w hw => mem_eqAt rx fx r fs w (by simpa using hw)) ⟨.bl _, H, I, rfl, ?_⟩
    rw [show its.toArray.any (eqU x) = its.any (eqU x) by simp, any_eqU r fs]
    exact q
theorem op_notIn_str : OpR X (compareOp .NotIn) (fun x y H Q => ∃ i j, x = .str i ∧ y = .str j ∧ Q (.bl (!(!(Builtin.Str.occurrences j i 0 j.length 1).isEmpty))) H) := by
  intro pins s σ H x y v u Q I rx ry h
  obtain ⟨i, j, rfl, rfl, q⟩ := h
  obtain ⟨t, rfl⟩ := rx
  obtain ⟨t', rfl⟩ := ry
  exact notIn_str ⟨.bl _, H, I, rfl, q⟩

/-! ### len, list(x), tuple(x) of any list or tuple that is read -/
theorem call_len_seq : CallR X (.builtin "len") (fun xs H Q => ∃ p ys, xs = [.ref p] ∧ (SqL X.K H p ys ∨ SqT X.K H p ys) ∧ Q (.int ys.length) H) := by
  intro pins s σ H xs us Q I r h
  obtain ⟨p, ys, rfl, hq, q⟩ := h
  obtain ⟨u, rfl, rx⟩ := vals1 r
  cases rx
  have hn := line63
  rcases hq with hq | hq
  · obtain ⟨its, r', pl, hz⟩ := I.list hq
    have hlen := r'.length
    exact Calls.call_len_list pl.isList (by simp only [List.size_toArray] <;> omega) ⟨.int ys.length, H, I.tok _, ⟨s.toks + 1, by rw [List.size_toArray, hlen]⟩, q⟩
  · obtain ⟨its, r', pl, hz⟩ := I.tuple hq
    have hlen := r'.length
    exact len_tuple pl (by simp only [List.size_toArray] <;> omega) ⟨.int ys.length, H, I.tok _, ⟨s.toks + 1, by rw [List.size_toArray, hlen]⟩, q⟩
theorem call_len_str : CallR X (.builtin "len") (fun xs H Q => ∃ z, xs = [.str z] ∧ z.length ≤ sizeLine ∧ Q (.int z.length) H) := by
  intro pins s σ H xs us Q I r h
  obtain ⟨z, rfl, hz, q⟩ := h
  obtain ⟨u, rfl, t, rfl⟩ := vals1 r
  have hn := line63
  exact len_str (by omega) ⟨.int z.length, H, I.tok _, ⟨_, rfl⟩, q⟩
theorem CallR.or {f : Value} {r r' : List V → Hp → VK → Prop} (h : CallR X f r) (h' : CallR X f r') : CallR X f (fun xs H Q => r xs H Q ∨ r' xs H Q) := by
  intro pins s σ H xs us Q I rs q
  rcases q with q | q
  · exact h pins s σ H xs us Q I rs q
  · exact h' pins s σ H xs us Q I rs q
theorem call_list_of : CallR X (.type "list") (fun xs H Q => ∃ p ys, xs = [.ref p] ∧ (SqL X.K H p ys ∨ SqT X.K H p ys) ∧ ∀ l, H l = none → Q (.ref l) (upd H l (.lst ys))) := by
  intro pins s σ H xs us Q I r h
  obtain ⟨p, ys, rfl, hq, q⟩ := h
  obtain ⟨u, rfl, rx⟩ := vals1 r
  cases rx
  have fin : ∀ (its : List Value), Vals ys its → ys.length ≤ sizeLine → ∀ (h' : Heap) (c' : Nat), (∀ b o', s.heap.get? b = some o' → h'.get? b = some o') →
      h'.get? s.heap.objs.size = some { cls := .type "list", dict := none, data := .seq its.toArray c', slots := #[] } → EP X pins σ Q (.ref s.heap.objs.size) { s with heap := h' } := fun its r' hz h' c' kp e =>
    ⟨.ref s.heap.objs.size, _, I.laid (t' := s.toks) kp (Nat.le_refl _) (show ObjOk X.prog X.w _ h' _ (.lst ys) from ⟨hz, its, c', r', e⟩), rfl, q _ (I.hok.fresh (Nat.le_refl _))⟩
  rcases hq with hq | hq
  · obtain ⟨its, r', pl, hz⟩ := I.list hq
    have hlen := r'.length
    obtain ⟨o, ho, hc, n, hd⟩ := pl.isList
    exact call_list_seq p (.inl rfl) ho hc hd (fun h' c' kp e => fin its r' hz h' c' kp e) (by simp only [List.size_toArray] <;> omega)
  · obtain ⟨its, r', pl, hz⟩ := I.tuple hq
    have hlen := r'.length
    obtain ⟨o, ho, hc, n, hd⟩ := pl
    exact call_list_seq p (.inr rfl) ho hc hd (fun h' c' kp e => fin its r' hz h' c' kp e) (by simp only [List.size_toArray] <;> omega)
theorem call_tuple_of : CallR X (.type "tuple") (fun xs H Q => ∃ p ys, xs = [.ref p] ∧ ((SqL X.K H p ys ∧ ∀ l, H l = none → Q (.ref l) (upd H l (.tup ys))) ∨ (SqT X.K H p ys ∧ Q (.ref p) H))) := by
  intro pins s σ H xs us Q I r h
  obtain ⟨p, ys, rfl, h⟩ := h
  obtain ⟨u, rfl, rx⟩ := vals1 r
  cases rx
  rcases h with ⟨hq, q⟩ | ⟨hq, q⟩
  · obtain ⟨its, r', pl, hz⟩ := I.list hq
    have hlen := r'.length
    refine call_tuple_list pl.isList (fun h' kp => ?_) (by simp only [List.size_toArray] <;> omega)
    have I1 : Inv X pins σ H { s with heap := h' } := I.kept (t' := s.toks) kp
    have I2 : Inv X pins σ (upd H h'.objs.size (.tup ys)) { s with heap := h'.push { cls := .type "tuple", data := .seq its.toArray } } :=
      I1.laid (t' := s.toks) (fun b o e => Heap.get?_push_of_some _ e) (Nat.le_refl _) (show ObjOk X.prog X.w _ _ _ (.tup ys) from ⟨hz, its, r', IsTup.new _ _⟩)
    exact ⟨.ref h'.objs.size, _, I2, rfl, q _ (I1.hok.fresh (Nat.le_refl _))⟩
  · obtain ⟨its, r', pl, hz⟩ := I.tuple hq
    exact call_tuple_same pl ⟨.ref p, H, I, rfl, q⟩

/-! ### the call of a builtin's method: o.m(..) -/
/-- the value is of that builtin type -/
def tyV (K : PySem.W.Frag) (T : String) (x : V) (H : Hp) : Prop := match x with
  | .str _ => T = "str"
  | .int _ => T = "int"
  | .ref p => (T = "list" ∧ ∃ xs, SqL K H p xs) ∨ (T = "tuple" ∧ ∃ o, K.lookup p = some o ∧ o.cls = .type "tuple" ∧ o.dict = none) ∨
      (T = "dict" ∧ ((∃ kvs, H p = some (.dK kvs)) ∨ ∃ kvs, H p = some (.dT kvs))) ∨ (T = "set" ∧ ∃ S n, H p = some (.set S n))
  | _ => False
theorem tyV_is {pins : List (Addr × Obj)} {σ : St} {H : Hp} {s : Shared} {T : String} {x : V} {v : Value} (I : Inv X pins σ H s) (r : RelV x v) (ty : tyV X.K T x H) :
    s.TypeIs v T ∧ ∀ a, v = .ref a → ∃ ob, s.heap.get? a = some ob ∧ ob.dict = none := by
  cases x with
  | str z =>
    obtain ⟨t, rfl⟩ := r
    cases (show T = "str" from ty)
    exact ⟨typeIs_str s z t, fun _ e => nomatch e⟩
  | int i =>
    obtain ⟨t, rfl⟩ := r
    cases (show T = "int" from ty)
    exact ⟨typeIs_int s i t, fun _ e => nomatch e⟩
  | ref p =>
    cases r
    rcases ty with ⟨rfl, xs, hq⟩ | ⟨rfl, o, hk, hc, hd⟩ | ⟨rfl, hk⟩ | ⟨rfl, S, n, hk⟩
    · obtain ⟨its, _, pl, _⟩ := I.list hq
      refine ⟨pl.isList.typeIs, fun a e => ?_⟩
      cases e
      obtain ⟨o, n, e, c, hd, _⟩ := pl
      exact ⟨o, e, hd⟩
    · refine ⟨⟨o, I.kIn p o hk, hc⟩, fun a e => ?_⟩
      cases e
      exact ⟨o, I.kIn _ o hk, hd⟩
    · have z : ∃ o, s.heap.get? p = some o ∧ o.ExactDict := by
        rcases hk with ⟨kvs, hk⟩ | ⟨kvs, hk⟩
        · obtain ⟨_, _, _, _, o, _, _, e, ex, _⟩ := I.hok p _ hk
          exact ⟨o, e, ex⟩
        · obtain ⟨_, _, _, _, o, _, _, e, ex, _⟩ := I.hok p _ hk
          exact ⟨o, e, ex⟩
      obtain ⟨o, e, ex⟩ := z
      refine ⟨⟨o, e, ex.1⟩, fun a e2 => ?_⟩
      cases e2
      exact ⟨o, e, ex.2.1⟩
    · obtain ⟨o, _, _, _, e, ex, _⟩ := I.hok p _ hk
      refine ⟨⟨o, e, ex.1⟩, fun a e2 => ?_⟩
      cases e2
      exact ⟨o, e, ex.2.1⟩
  | _ => exact False.elim ty
def tBM0 (K : PySem.W.Frag) (T : String) (r : V → List V → Hp → VK → Prop) (to : TE) : TE := fun σ H Q => to σ H fun x H1 => tyV K T x H1 ∧ r x [] H1 Q
def tBM (K : PySem.W.Frag) (T : String) (r : V → List V → Hp → VK → Prop) (to : TE) (t : TA) : TE := fun σ H Q => to σ H fun x H1 => tyV K T x H1 ∧ t σ H1 fun xs H2 => r x xs H2 Q
variable {o e : Expr} {es : List Expr} {to : TE} {t : TA} {name : Str} {apos cpos : Pos} {T id : String} {r : V → List V → Hp → VK → Prop}
theorem pe_bm0 (pa : PlainAttrs T) (slot : Slot T name id) (hty : typeOf (.builtin id) = pure (.type "method_descriptor")) (hm : MtR X id r) (ho : PE X o to)
    (hbase : attributeBase o name X.env (eval o X.env) = eval o X.env := by rfl) (hline : (apos.endLine == cpos.line) = true := by rfl) : PE X (.Call (.Attribute o name apos) [] [] cpos) (tBM0 X.K T r to) := by
  intro pins s σ H Q I h
  refine wpAny_Call_method0_late hbase hline (thn (ho pins s σ H _ I h) fun v s1 ⟨x, H1, I1, r1, ty, q1⟩ => ?_)
  obtain ⟨h1, h2⟩ := tyV_is I1 r1 ty
  exact ⟨T, id, pa, slot, hty, h1, h2, Calls.callWith_builtin rfl (PySem.evalArgs_none (hm pins s1 σ H1 x [] v [] Q I1 r1 .nil q1))⟩
theorem pe_bm (pa : PlainAttrs T) (slot : Slot T name id) (hty : typeOf (.builtin id) = pure (.type "method_descriptor")) (hm : MtR X id r) (ho : PE X o to) (ha : PA X (e :: es) t)
    (hbase : attributeBase o name X.env (eval o X.env) = eval o X.env := by rfl)
    (hfew : ((backTo cpos (starEach (e :: es) X.env)).all (fun x => !x.1) && (backToKw cpos (keywordEach [] X.env)).all (fun x => x.1.isSome)
      && decide ((e :: es).length + ([] : List Keyword).length + (if ([] : List Keyword).isEmpty then 0 else 1) < 30)) = true := by rfl)
    (hline : (apos.endLine == cpos.line) = true := by rfl) (hs : starEach (e :: es) X.env = (false, eval e X.env) :: starEach es X.env := by rfl) (hplain : (backTo cpos (starEach es X.env)).any (·.1) = false := by rfl) :
    PE X (.Call (.Attribute o name apos) (e :: es) [] cpos) (tBM X.K T r to t) := by
  intro pins s σ H Q I h
  refine wpAny_Call_method_late hbase hfew hline rfl (thn (ho pins s σ H _ I h) fun v s1 ⟨x, H1, I1, r1, ty, q1⟩ => ?_)
  obtain ⟨h1, h2⟩ := tyV_is I1 r1 ty
  refine ⟨T, id, pa, slot, hty, h1, h2, ?_⟩
  have hA := ha cpos pins s1 σ H1 _ I1 q1
  rw [hs] at hA ⊢
  refine Calls.callWith_builtin (by show (false || (backTo cpos (starEach es X.env)).any (·.1)) = false; rw [hplain] <;> rfl) (Calls.evalArgs_plain ?_)
  exact thn hA fun us s2 ⟨vs, H2, I2, r2, q2⟩ => hm pins s2 σ H2 x vs v us Q I2 r1 r2 q2
/- xs.append(e), list.index on a module's tuple .. are MtR facts of 06m -/
end
end L2

namespace L2
open PySem PySem.Spec PyProof.Rows

def MtM (X : Cx) (id : String) (r : V → List V → Hp → VK → Prop) : Prop :=
  ∀ (pins : List (Addr × Obj)) (s : Shared) (σ : St) (H : Hp) (x : V) (xs : List V) (v : Value) (us : List Value) (Q : VK), Inv X pins σ H s → RelV x v → Vals xs us → r x xs H Q →
    wpAny (model X.prog X.w) X.A (call (.builtin id) (v :: us)) (EP X pins σ Q) X.xe s

/-! ### lists of values -/
theorem Vals.one : ∀ {x : V} {us : List Value}, Vals [x] us → ∃ u, us = [u] ∧ RelV x u
  | _, _, .cons r .nil => ⟨_, rfl, r⟩
theorem Vals.two : ∀ {x y : V} {us : List Value}, Vals [x, y] us → ∃ u v, us = [u, v] ∧ RelV x u ∧ RelV y v
  | _, _, _, .cons r (.cons q .nil) => ⟨_, _, rfl, r, q⟩
theorem Vals.zero : ∀ {us : List Value}, Vals [] us → us = []
  | _, .nil => rfl
theorem Vals.dropLast {xs : List V} {us : List Value} (h : Vals xs us) : Vals xs.dropLast us.dropLast := by
  induction h with
  | nil => exact .nil
  | cons r t ih =>
    cases t with
    | nil => exact .nil
    | cons q t' => exact .cons r ih
theorem Vals.eraseIdx : ∀ {xs : List V} {us : List Value} (i : Nat), Vals xs us → Vals (xs.eraseIdx i) (us.eraseIdx i)
  | _, _, _, .nil => .nil
  | _, _, 0, .cons _ t => t
  | _, _, i + 1, .cons r t => .cons r (Vals.eraseIdx i t)
theorem Vals.reverse {xs : List V} {us : List Value} (h : Vals xs us) : Vals xs.reverse us.reverse := by
  induction h with
  | nil => exact .nil
  | cons r t ih => rw [List.reverse_cons, List.reverse_cons]; exact Vals.append ih (.cons r .nil)
theorem Vals.rep {xs : List V} {us : List Value} (h : Vals xs us) : ∀ k : Nat, Vals (List.replicate k xs).flatten (List.replicate k us).flatten
  | 0 => .nil
  | k + 1 => by
    rw [List.replicate_succ, List.replicate_succ, List.flatten_cons, List.flatten_cons]
    exact Vals.append h (Vals.rep h k)
theorem erase_last {α : Type} (l : List α) : l.eraseIdx (l.length - 1) = l.dropLast := by
  induction l with
  | nil => rfl
  | cons a r ih =>
    cases r with
    | nil => rfl
    | cons b r =>
      have e : (a :: b :: r).length - 1 = ((b :: r).length - 1) + 1 := by
        have h1 : (a :: b :: r).length = r.length + 2 := rfl
        have h2 : (b :: r).length = r.length + 1 := rfl
        omega
      rw [e, List.eraseIdx_cons_succ, ih]
      all_goals rfl
theorem len_erase {α : Type} : ∀ (l : List α) (i : Nat), (l.eraseIdx i).length ≤ l.length
  | [], _ => Nat.le_refl _
  | _ :: _, 0 => Nat.le_succ _
  | _ :: r, i + 1 => Nat.succ_le_succ (len_erase r i)
theorem foldl_rep (its : List Value) : ∀ (k : Nat) (acc : List Value),
    List.foldl (fun x1 x2 => x1 ++ x2) acc.toArray (List.replicate k its.toArray) = (acc ++ (List.replicate k its).flatten).toArray
  | 0, acc => by simp
  | k + 1, acc => by
    have e : acc.toArray ++ its.toArray = (acc ++ its).toArray := by simp
    have e2 : (acc ++ its) ++ (List.replicate k its).flatten = acc ++ (List.replicate (k + 1) its).flatten := by
      rw [List.replicate_succ, List.flatten_cons, List.append_assoc]
    rw [← e2, ← foldl_rep its k (acc ++ its), ← e, List.replicate_succ, List.foldl_cons]

section
variable {X : Cx} {pins : List (Addr × Obj)} {σ : St} {H : Hp} {s : Shared} {l b : Addr} {xs ys zs : List V}

/-! ### the two steps: a tracked list is rewritten, a new list is laid -/
theorem Inv.lset {its its' : List Value} {n : Nat} {f : Array Value → Array Value} {t' : Nat} (I : Inv X pins σ H s) (hH : H l = some (.lst xs))
    (e : s.heap.get? l = some { cls := .type "list", data := .seq its.toArray n }) (hf : f its.toArray = its'.toArray) (hv : Vals ys its') (hz : ys.length ≤ sizeLine) :
    Inv X pins σ (upd H l (.lst ys)) { s with heap := s.heap.update l (Obj.mapSeq f), toks := t' } := by
  have q := PySem.IsL.update e f
  rw [hf] at q
  refine I.write (x := l) (e := l) (by rw [hH]; exact trivial) (.inl rfl) (fun b' u hb hu => (Heap.get?_update_other s.heap (Obj.mapSeq f) (Ne.symm hb)).trans hu) ⟨_, q⟩ ?_
  exact ⟨hz, its', _, hv, q⟩
theorem Inv.lnew {its : List Value} {t' : Nat} (I : Inv X pins σ H s) (hv : Vals ys its) (hz : ys.length ≤ sizeLine) :
    Inv X pins σ (upd H s.heap.objs.size (.lst ys)) { s with heap := s.heap.push { cls := .type "list", data := .seq its.toArray }, toks := t' } :=
  I.laid (fun _ _ q => Heap.get?_push_of_some _ q) (Nat.le_refl _) ⟨hz, its, 0, hv, Heap.get?_push_size _ rfl⟩
theorem Inv.fresh (I : Inv X pins σ H s) : H s.heap.objs.size = none := I.hok.fresh (Nat.le_refl _)
theorem Inv.lstM (I : Inv X pins σ H s) (hH : H l = some (.lst xs)) : xs.length ≤ sizeLine ∧ ∃ (its : List Value) (n : Nat), Vals xs its ∧ xs.length = its.length ∧ s.heap.get? l = some { cls := .type "list", data := .seq its.toArray n } := by
  obtain ⟨z, its, n, r, e⟩ := I.hok l _ hH
  exact ⟨z, its, n, r, r.length, e⟩

theorem notLongL {n : Nat} (h : n ≤ sizeLine) : Builtin.List.listTooLong n = false := by
  unfold Builtin.List.listTooLong
  exact decide_eq_false (by omega)
end

section
variable {X : Cx}

/-! ### methods -/
def rAppend : V → List V → Hp → VK → Prop := fun x vs H Q => ∃ l xs y, x = .ref l ∧ vs = [y] ∧ H l = some (.lst xs) ∧ xs.length < sizeLine ∧ Q .non (upd H l (.lst (xs ++ [y])))
theorem mt_append : MtM X "list.append" rAppend := by
  intro pins s σ H x vs v us Q I rx rv h
  obtain ⟨l, xs, y, rfl, rfl, hH, hz, q⟩ := h
  cases rx
  obtain ⟨u, rfl, ru⟩ := rv.one
  obtain ⟨z, its, n, r, hl, e⟩ := I.lstM hH
  refine call_meets F.slot_list_append ⟨_, e, rfl⟩ F.entry_list_append (F.args_list_append_2 _ _) (PySem.list_append l its.toArray n u (by rw [List.size_toArray]; omega)) ⟨e, ?_⟩
  refine ⟨.non, _, I.lset (its' := its ++ [u]) hH e (by simp) (r.append (.cons ru .nil)) ?_, rfl, q⟩
  rw [List.length_append, List.length_singleton]
  omega

def rExtend : V → List V → Hp → VK → Prop := fun x vs H Q => ∃ l b xs zs, x = .ref l ∧ vs = [.ref b] ∧ H l = some (.lst xs) ∧ H b = some (.lst zs) ∧ xs.length + zs.length ≤ sizeLine ∧ Q .non (upd H l (.lst (xs ++ zs)))
theorem mt_extend : MtM X "list.extend" rExtend := by
  intro pins s σ H x vs v us Q I rx rv h
  obtain ⟨l, b, xs, zs, rfl, rfl, hH, hB, hz, q⟩ := h
  cases rx
  obtain ⟨u, rfl, ru⟩ := rv.one
  cases ru
  obtain ⟨z, its, n, r, hl, e⟩ := I.lstM hH
  obtain ⟨z2, its2, n2, r2, hl2, e2⟩ := I.lstM hB
  have hsz : its.toArray.size + its2.toArray.size ≤ sizeLine := by rw [List.size_toArray, List.size_toArray]; omega
  have hlong : ¬ (!its.toArray.isEmpty && Builtin.List.listTooLong (its.toArray.size + its2.toArray.size)) = true := by
    rw [notLongL hsz, Bool.and_false]
    exact Bool.false_ne_true
  refine call_meets F.slot_list_extend ⟨_, e, rfl⟩ F.entry_list_extend (F.args_list_extend_2 _ _)
    (AutoSeq1.list_extend_list_list_0 l its.toArray n b its2.toArray n2 hlong (by rw [List.size_toArray]; omega) (by omega)) ⟨e, e2, ?_⟩
  refine ⟨.non, _, I.lset (its' := its ++ its2) hH e (by simp) (r.append r2) ?_, rfl, q⟩
  rw [List.length_append]
  omega

def rPop : V → List V → Hp → VK → Prop := fun x vs H Q => ∃ l xs y, x = .ref l ∧ vs = [] ∧ H l = some (.lst xs) ∧ xs[xs.length - 1]? = some y ∧ Q y (upd H l (.lst xs.dropLast))
theorem mt_pop : MtM X "list.pop" rPop := by
  intro pins s σ H x vs v us Q I rx rv h
  obtain ⟨l, xs, y, rfl, rfl, hH, hy, q⟩ := h
  cases rx
  have hus := rv.zero
  subst hus
  obtain ⟨z, its, n, r, hl, e⟩ := I.lstM hH
  obtain ⟨u, hu, ru⟩ := r.get hy
  have hy' : its.toArray[its.toArray.size - 1]? = some u := by
    show its.toArray[its.length - 1]? = some u
    rw [← Array.getElem?_toList, ← hl]
    exact hu
  refine call_meets F.slot_list_pop ⟨_, e, rfl⟩ F.entry_list_pop (F.args_list_pop_1 _) (MeetsSeq.list_pop_last l its.toArray n u hy' (by rw [List.size_toArray]; omega)) ⟨e, ?_⟩
  refine ⟨y, _, I.lset (its' := its.dropLast) hH e ?_ r.dropLast ?_, ru, q⟩
  · show its.toArray.eraseIdxIfInBounds (its.toArray.size - 1) = its.dropLast.toArray
    rw [List.size_toArray, List.eraseIdxIfInBounds_toArray, erase_last]
  · rw [List.length_dropLast]
    omega

def rPopAt : V → List V → Hp → VK → Prop := fun x vs H Q => ∃ l xs i k y, x = .ref l ∧ vs = [.int i] ∧ H l = some (.lst xs) ∧ -(2 ^ 63) ≤ i ∧ i < 2 ^ 63 ∧ seqIndex? i xs.length = some k ∧ xs[k]? = some y ∧ Q y (upd H l (.lst (xs.eraseIdx k)))
theorem mt_popAt : MtM X "list.pop" rPopAt := by
  intro pins s σ H x vs v us Q I rx rv h
  obtain ⟨l, xs, i, k, y, rfl, rfl, hH, h1, h2, hk, hy, q⟩ := h
  cases rx
  obtain ⟨u, rfl, ru⟩ := rv.one
  obtain ⟨t, rfl⟩ := ru
  obtain ⟨z, its, n, r, hl, e⟩ := I.lstM hH
  obtain ⟨w, hw, rw'⟩ := r.get hy
  refine call_meets F.slot_list_pop ⟨_, e, rfl⟩ F.entry_list_pop (F.args_list_pop_2 _ _)
    (MeetsSeq.list_pop_at l its.toArray n i t k w (fitsIndex_both h1 h2) (by rw [List.size_toArray, ← hl]; exact hk) (by rw [← Array.getElem?_toList]; exact hw) (by rw [List.size_toArray]; omega)) ⟨e, ?_⟩
  refine ⟨y, _, I.lset (its' := its.eraseIdx k) hH e ?_ (r.eraseIdx k) ?_, rw', q⟩
  · show its.toArray.eraseIdxIfInBounds k = (its.eraseIdx k).toArray
    rw [List.eraseIdxIfInBounds_toArray]
  · have := len_erase xs k
    omega

def rReverse : V → List V → Hp → VK → Prop := fun x vs H Q => ∃ l xs, x = .ref l ∧ vs = [] ∧ H l = some (.lst xs) ∧ Q .non (upd H l (.lst xs.reverse))
theorem mt_reverse : MtM X "list.reverse" rReverse := by
  intro pins s σ H x vs v us Q I rx rv h
  obtain ⟨l, xs, rfl, rfl, hH, q⟩ := h
  cases rx
  have hus := rv.zero
  subst hus
  obtain ⟨z, its, n, r, hl, e⟩ := I.lstM hH
  refine call_meets F.slot_list_reverse ⟨_, e, rfl⟩ F.entry_list_reverse (F.args_list_reverse_1 _) (AutoSeq1.list_reverse_list_0 l its.toArray n (by rw [List.size_toArray]; omega)) ⟨e, ?_⟩
  refine ⟨.non, _, I.lset (its' := its.reverse) hH e (by simp) r.reverse ?_, rfl, q⟩
  rw [List.length_reverse]
  omega

def rClear : V → List V → Hp → VK → Prop := fun x vs H Q => ∃ l xs, x = .ref l ∧ vs = [] ∧ H l = some (.lst xs) ∧ Q .non (upd H l (.lst []))
theorem mt_clear : MtM X "list.clear" rClear := by
  intro pins s σ H x vs v us Q I rx rv h
  obtain ⟨l, xs, rfl, rfl, hH, q⟩ := h
  cases rx
  have hus := rv.zero
  subst hus
  obtain ⟨z, its, n, r, hl, e⟩ := I.lstM hH
  refine call_meets F.slot_list_clear ⟨_, e, rfl⟩ F.entry_list_clear (F.args_list_clear_1 _) (AutoSeq1.list_clear_list_0 l its.toArray n (by rw [List.size_toArray]; omega)) ⟨e, ?_⟩
  exact ⟨.non, _, I.lset (its' := []) (ys := []) hH e rfl .nil (Nat.zero_le _), rfl, q⟩

/-! ### list + list, list += list, list * int -/
def rCat : R2 := fun x y H Q => ∃ l b xs zs, x = .ref l ∧ y = .ref b ∧ H l = some (.lst xs) ∧ H b = some (.lst zs) ∧ xs.length + zs.length ≤ sizeLine ∧ ∀ p, H p = none → Q (.ref p) (upd H p (.lst (xs ++ zs)))
theorem op_cat : OpR X (binaryOp .Add) rCat := by
  intro pins s σ H x y v u Q I rx ry h
  obtain ⟨l, b, xs, zs, rfl, rfl, hH, hB, hz, q⟩ := h
  cases rx
  cases ry
  obtain ⟨z, its, n, r, hl, e⟩ := I.lstM hH
  obtain ⟨z2, its2, n2, r2, hl2, e2⟩ := I.lstM hB
  refine PySem.P.add_list e e2 ?_ (by rw [List.size_toArray, List.size_toArray]; omega)
  have ea : its.toArray ++ its2.toArray = (its ++ its2).toArray := by simp
  rw [ea]
  exact ⟨.ref _, _, I.lnew (t' := s.toks) (r.append r2) (by rw [List.length_append]; omega), rfl, q _ I.fresh⟩
/-- a list times an int (a negative one is nothing) -/
def rRep : R2 := fun x y H Q => ∃ l k xs, x = .ref l ∧ y = .int k ∧ H l = some (.lst xs) ∧ -(2 ^ 63) ≤ k ∧ k < 2 ^ 63 ∧ xs.length * k.toNat ≤ sizeLine ∧
  ∀ p, H p = none → Q (.ref p) (upd H p (.lst (List.replicate k.toNat xs).flatten))
theorem len_rep {α : Type} (xs : List α) (k : Nat) : (List.replicate k xs).flatten.length = k * xs.length := by
  induction k with
  | zero => simp
  | succ k ih => rw [List.replicate_succ, List.flatten_cons, List.length_append, ih, Nat.succ_mul, Nat.add_comm]
theorem op_rep : OpR X (binaryOp .Mult) rRep := by
  intro pins s σ H x y v u Q I rx ry h
  obtain ⟨l, k, xs, rfl, rfl, hH, h1, h2, hz, q⟩ := h
  cases rx
  obtain ⟨t, rfl⟩ := ry
  obtain ⟨z, its, n, r, hl, e⟩ := I.lstM hH
  have hlen : its.toArray.size * k.toNat ≤ sizeLine := by rw [List.size_toArray, ← hl]; exact hz
  have hcap : ¬ its.toArray.size * k.toNat > (2 ^ 63 - 1) / 8 := by
    have : (sizeLine : Nat) ≤ (2 ^ 63 - 1) / 8 := by decide
    omega
  have hfit : ¬ (!Builtin.List.listFitsIndex k) = true := by
    rw [fitsIndex_both h1 h2]
    exact Bool.false_ne_true
  have hlong : ¬ Builtin.List.listTooLong (its.toArray.size * k.toNat) = true := by
    rw [notLongL hlen]
    exact Bool.false_ne_true
  have hnew : List.foldl (fun x1 x2 => x1 ++ x2) #[] (List.replicate (if its.toArray.isEmpty = true then 0 else k.toNat) its.toArray) = (List.replicate k.toNat its).flatten.toArray := by
    have f0 : ∀ m : Nat, List.foldl (fun x1 x2 => x1 ++ x2) #[] (List.replicate m its.toArray) = (List.replicate m its).flatten.toArray := fun m => by
      have := foldl_rep its m []
      rw [List.nil_append] at this
      exact this
    rw [f0]
    cases its with
    | nil => simp
    | cons a r' => rw [if_neg (by simp)]
  refine wpAny_binaryOp_repeat_ref (T := "list") (U := "int") (by decide) ⟨_, e, rfl⟩ (fun s' => typeIs_int s' k t) noFill_list_mul F.fills_int_mul F.slot_int_rmul repeat_list F.slot_int_index.lookup
    (call_meets F.slot_int_rmul (typeIs_int s k t) F.entry_int_rmul (F.args_int_rmul_2 _ _) (int___rmul___int_list k t l its.toArray n)
      ⟨e, rfl, ⟨_, e, rfl⟩, call_meets F.slot_list_mul ⟨_, e, rfl⟩ F.entry_list_mul (F.args_list_mul_2 _ _) (AutoListH.list___mul___list_int_3 l its.toArray n k t hfit hcap hlong) ⟨e, ?_⟩⟩)
  rw [hnew]
  exact ⟨.ref _, _, I.lnew (t' := s.toks) (r.rep k.toNat) (by rw [len_rep, Nat.mul_comm]; exact hz), rfl, q _ I.fresh⟩

/-! ### del xs[i] -/
theorem del_list {pins : List (Addr × Obj)} {s : Shared} {σ : St} {H : Hp} {l : Addr} {xs : List V} {i : Int} {t : Tok} {k : Nat} {Q : Unit → Shared → Prop} (I : Inv X pins σ H s) (hH : H l = some (.lst xs))
    (h1 : -(2 ^ 63) ≤ i) (h2 : i < 2 ^ 63) (hk : seqIndex? i xs.length = some k) (h : ∀ s', Inv X pins σ (upd H l (.lst (xs.eraseIdx k))) s' → Q () s') :
    wpAny (model X.prog X.w) X.A (delItem (.ref l) (.int i t)) Q X.xe s := by
  obtain ⟨z, its, n, r, hl, e⟩ := I.lstM hH
  refine PySem.P.delItem_list (k := k) e (fitsIndex_both h1 h2) (by rw [List.size_toArray, ← hl]; exact hk) (h _ ?_) (by rw [List.size_toArray]; omega)
  refine I.lset (its' := its.eraseIdx k) (t' := s.toks) hH e ?_ (r.eraseIdx k) ?_
  · show its.toArray.eraseIdxIfInBounds k = (its.eraseIdx k).toArray
    rw [List.eraseIdxIfInBounds_toArray]
  · have := len_erase xs k
    omega
end

/-! ### xs[a:b] = ys -/
section
variable {prog : Program} {w : World} {A : Around} {E : Value → Shared → Prop} {s : Shared}
theorem splice_eq (its its2 : List Value) (a c : Nat) : its.toArray.extract 0 a ++ its2.toArray ++ its.toArray.extract c its.toArray.size = (its.take a ++ its2 ++ its.drop c).toArray := by
  apply Array.toList_inj.mp
  first
    | (simp
       exact List.take_of_length_le (by simp))
    | simp [List.take_of_length_le]
    | simp
theorem bounds_run {a c n : Nat} (hac : a ≤ c) (hc : c ≤ n) : sliceBounds (some (a : Int)) (some (c : Int)) none n = ((a : Int), (c : Int), 1) := by
  simp only [sliceBounds, Option.getD_none]
  have h1 : ¬ ((a : Int) < 0) := by omega
  have h2 : ¬ ((c : Int) < 0) := by omega
  simp only [h1, h2, if_false, show (1 : Int) > 0 by decide, if_true]
  congr 1
  · omega
  · congr 1; omega
set_option maxRecDepth 100000 in
/-- list.__setitem__ with a slice of step one and another list -/
theorem setItem_slice {l b sl : Addr} {items new : Array Value} {n n2 : Nat} {vl vu : Value} {a c : Nat} {Q : Unit → Shared → Prop}
    (e : s.heap.get? l = some { cls := .type "list", data := .seq items n }) (e2 : s.heap.get? b = some { cls := .type "list", data := .seq new n2 }) (hne : l ≠ b)
    (hs : s.heap.IsSliceOf sl vl vu .none) (pl : IsPart vl (some (a : Int))) (pu : IsPart vu (some (c : Int))) (hac : a ≤ c) (hc : c ≤ items.size)
    (hsz : items.size + new.size ≤ sizeLine) (h : Q () { s with heap := s.heap.update l (Obj.mapSeq fun xs => xs.extract 0 a ++ new ++ xs.extract c xs.size) }) :
    wpAny (model prog w) A (setItem (.ref l) (.ref sl) (.ref b)) Q E s := by
  have hl : s.heap.IsList l items := PySem.IsL.isList e
  have hb : s.heap.IsList b new := PySem.IsL.isList e2
  obtain ⟨os, hos, hcs, hds⟩ := id hs
  have hTs : s.TypeIs (.ref sl) "slice" := ⟨os, hos, hcs⟩
  have hstep : ¬ ((rawPart none == rawInt 0) = true) := Bool.false_ne_true
  have hsame : Builtin.List.listSameRef (.ref l) (.ref b) = false := by
    unfold Builtin.List.listSameRef
    exact beq_eq_false_iff_ne.mpr hne
  have hmax : (max (a : Int) (c : Int)).toNat = c := by omega
  have hz' : ((fun xs : Array Value => xs.extract 0 a ++ new ++ xs.extract c xs.size) items).size ≤ sizeLine + 1 := by
    simp only [Array.size_append, Array.size_extract]
    omega
  unfold setItem
  try with_reducible refine wpAny_holding ?_
  first | refine wpAny_bind (wpAny_pure ?_) | skip
  refine wpAny_bind (wpAny_sequenceKey hl.typeIs (by decide) ?_)
  refine wpAny_bind (wpAny_callSpecial?_slot (name := Str.ofString "__setitem__") hl.typeIs slot_list_setitem
    (wpAny_call_entry slot_list_setitem hl.typeIs entry_list_setitem ?_ (args_list_setitem _ _ _)))
  show wpAny _ _ (Builtin.List.listSubscript? (.ref sl) >>= _) _ _ s
  refine wpAny_bind ?_
  unfold Builtin.List.listSubscript?
  refine wpAny_bind (wpAny_specialOf hTs slice_no_index ?_)
  simp only [Option.isNone_none, if_true]
  refine wpAny_pure ?_
  show wpAny _ _ (typeOf (.ref sl) >>= _) _ _ s
  refine wpAny_bind (wpAny_typeOf hTs ?_)
  first
    | rw [if_neg (by decide)]
    | refine PySem.W.KFB.if_not (by decide) ?_
  rw [listSliceParts_eq]
  refine wpAny_bind (wpAny_bind (wpAny_field hos hds (x := .none) rfl (wpAny_bind (wpAny_listPart .none ?_))))
  rw [if_neg hstep]
  refine wpAny_bind (wpAny_field hos hds (x := vl) rfl (wpAny_bind (wpAny_listPart pl ?_)))
  refine wpAny_bind (wpAny_field hos hds (x := vu) rfl (wpAny_bind (wpAny_listPart pu (wpAny_pure ?_))))
  first
    | simp only [hsame, Bool.false_eq_true, if_false]
    | refine PySem.W.KFB.if_not hsame ?_
    | (dsimp only
       rw [if_neg (by rw [hsame]; exact Bool.false_ne_true)])
  refine wpAny_bind (m := Builtin.List.listAllItems (.ref b) "must assign iterable to extended slice") ?_
  unfold Builtin.List.listAllItems
  refine wpAny_bind (wpAny_typeOf hb.typeIs ?_)
  first
    | refine PySem.W.KFB.if_so (by decide) ?_
    | rw [if_pos (by decide)]
    | simp only [beq_self_eq_true, Bool.true_or, if_true]
  unfold Builtin.List.listItems
  refine wpAny_bind (wpAny_seqItems e2 rfl (wpAny_pure ?_))
  refine wpAny_bind (wpAny_bind (wpAny_seqItems e rfl (wpAny_pure ?_)))
  refine wpAny_bind (wpAny_of_eq ((sliceIndices_raw (some (a : Int)) (some (c : Int)) none items.size (by simp)).trans (congrArg (pure : Int × Int × Int → Sem (Int × Int × Int)) (bounds_run hac hc))) ?_)
  show wpAny _ _ (if ((1 : Int) == 1) = true then _ else _) _ _ s
  rw [if_pos (by decide)]
  refine wpAny_bind (wpAny_rule ?_)
  first
    | simp only [notLongL hsz, Bool.false_eq_true, if_false]
    | refine PySem.W.KFB.if_not (notLongL hsz) ?_
  first | refine wpAny_bind (wpAny_pure ?_) | skip
  show wpAny _ _ (updateSeq l (fun xs => xs.extract 0 ((a : Int)).toNat ++ new ++ xs.extract (max (a : Int) (c : Int)).toNat xs.size) >>= _) _ _ s
  rw [hmax, Int.toNat_natCast]
  refine wpAny_bind (wpAny_updateSeq (hz := Nat.le_trans (Nat.le_add_right _ _) hsz) (_hz' := hz') e rfl ?_)
  refine wpAny_bind (wpAny_letGo ?_)
  first
    | exact wpAny_bind (wpAny_pure (wpAny_pure ⟨.none, rfl, wpAny_pure h⟩))
    | exact wpAny_pure ⟨.none, rfl, wpAny_pure h⟩
end

section
variable {X : Cx}
/-- xs[a:c] = ys of another list, at the value level: sl is the slice object that was just made -/
theorem set_slice {pins : List (Addr × Obj)} {s : Shared} {σ : St} {H : Hp} {l b sl : Addr} {xs ys : List V} {a c : Int} {vl vu : Value} {Q : Unit → Shared → Prop} (I : Inv X pins σ H s)
    (hH : H l = some (.lst xs)) (hB : H b = some (.lst ys)) (hne : l ≠ b) (hs : s.heap.IsSliceOf sl vl vu .none) (ra : RelV (.int a) vl) (rc : RelV (.int c) vu) (h0 : 0 ≤ a) (hac : a ≤ c) (hc : c ≤ xs.length)
    (hz : xs.length + ys.length ≤ sizeLine) (h : ∀ s', Inv X pins σ (upd H l (.lst (xs.take a.toNat ++ ys ++ xs.drop c.toNat))) s' → Q () s') :
    wpAny (model X.prog X.w) X.A (setItem (.ref l) (.ref sl) (.ref b)) Q X.xe s := by
  obtain ⟨ta, rfl⟩ := ra
  obtain ⟨tc, rfl⟩ := rc
  obtain ⟨z, its, n, r, hl, e⟩ := I.lstM hH
  obtain ⟨z2, its2, n2, r2, hl2, e2⟩ := I.lstM hB
  obtain ⟨a', rfl⟩ := Int.eq_ofNat_of_zero_le h0
  obtain ⟨c', rfl⟩ := Int.eq_ofNat_of_zero_le (Int.le_trans h0 hac)
  simp only [Int.toNat_natCast] at h
  refine setItem_slice (a := a') (c := c') e e2 hne hs (.int _ _) (.int _ _) (by omega) (by rw [List.size_toArray]; omega) (by rw [List.size_toArray, List.size_toArray]; omega) (h _ ?_)
  refine I.lset (its' := its.take a' ++ its2 ++ its.drop c') (t' := s.toks) hH e ?_ (Vals.append (Vals.append (r.take _) r2) (r.drop _)) ?_
  · exact splice_eq its its2 a' c'
  · rw [List.length_append, List.length_append, List.length_take, List.length_drop]
    omega
end
end L2

namespace Att
open PySem PySem.W PySem.Calls PyProof.Rows

/-! ### the script -/
theorem ints_of_wellAll {P : Params} {h : Heap} : ∀ (ns : List Int) (vs : List Value), WellAll P h vs (ns.map WData.int) → IntsAre vs ns := by
  intro ns
  induction ns with
  | nil =>
    intro vs w
    rw [List.map_nil] at w
    cases w
    exact .nil
  | cons n ns ih =>
    intro vs w
    rw [List.map_cons] at w
    cases w with
    | cons a b =>
      cases a
      exact .cons _ _ (ih _ b)

theorem script_of {l : OpenLaw} {n : Nat} (hn : l.most = some n) {P : Params} {h : Heap} {args : List WData} {vals : List Value}
    (hpre : l.row.toRowW.claim.pre args = true) (hwl : WellAll P h vals args) :
    ∃ a vs ns, vals = [Value.ref a] ∧ args = [WData.list (ns.map WData.int)] ∧ h.get? a = some { cls := .type "list", data := .seq vs.toArray } ∧ IntsAre vs ns ∧ ns.length ≤ n := by
  have hsh : WShape.hasAll [] args [.list .int] = true := (pre_splitW hpre).1
  have hc : l.pre.holds [] { args := args } = true := (pre_splitW hpre).2
  obtain ⟨d, r, rfl, h1, h2⟩ := hasAllW_cons hsh
  obtain rfl := hasAllW_nil h2
  obtain ⟨xs, rfl, h3⟩ := hasW_list h1
  obtain ⟨ns, rfl⟩ := items_int h3
  have hlen : ns.length ≤ n := by
    unfold OpenLaw.pre at hc
    have h4 : (WTm.not (.lt (.lit (.int (n : Int))) (.len (.arg 0)))).holds [] { args := [.list (ns.map .int)] } = true := by
      have h4 := (holds_andW hc).1
      rw [hn] at h4
      exact h4
    have h5 := condW_of h4 (w_not (w_lt w_lit (w_len_list (w_arg rfl))))
    rw [List.length_map] at h5
    refine Nat.le_of_not_lt fun q => ?_
    have q' : (n : Int) < ((ns.length : Nat) : Int) := by omega
    first
      | (rw [decide_eq_true q'] at h5; exact absurd h5 (by decide))
      | (simp at h5; omega)
  cases hwl with
  | cons w1 w2 =>
    cases w2
    cases w1 with
    | list ho hall => exact ⟨_, _, ns, rfl, rfl, ho, ints_of_wellAll ns _ hall, hlen⟩

theorem post_true (l : OpenLaw) (args : List WData) : l.row.toRowW.claim.post args (.bool true) args = true :=
  postW_of (r := l.row.toRowW) (X := (true == true))
    (show WShape.has [] (.bool true) .bool = true by first | rfl | decide | simp [WShape.has, WShape.arms, WShape.armsAll])
    (show (WTm.eq .res (.lit (.bool true))).value [] { args := args, res := some (.bool true), after := args } = some (.bool (true == true)) from w_eq_bool (w_res rfl) w_lit) rfl

/-! ### the attachment: holds_open's last premise (the goal 'hc' behind k_head) from a wpAny of the law's body -/
theorem attach {l : OpenLaw} {n : Nat} {q : Program} {loose : List Str} {XP : (Str → Option Value) → Heap → Prop} {YP : World → Heap → Prop} {d : DefRec} {x : Str}
    (hn : l.most = some n) (hdf : d.params.defaults = [])
    (hbind : ∀ pm cd doc v : Value, bindArgs (docDef d.name d.params d.body d.scope pm cd doc) ⟨[v], []⟩ = pure [(x, v)])
    (hx : d.scope.names.lookup x = some .local ∨ d.scope.names.lookup x = some .cell)
    (hk : d.scope.kind = .function) (hco : d.scope.isCoroutine = false) (hgen : d.scope.isGenerator = false)
    (body : ∀ (w : World) (s₀ s₁ s : Shared) (mg mb : Str → Option Value) (fa : Addr) (o : Obj) (pm cd doc : Value) (a : Addr) (vs : List Value) (ns : List Int),
      Ground q loose [] XP w s₀ mg mb s₁.heap → YP w s₁.heap →
      s₁.heap.get? fa = some o → o.data = .func (docDef d.name d.params d.body d.scope pm cd doc) → s₁.heap.CodeRec cd d.name → mg d.name = some (.ref fa) →
      s₁.heap.get? a = some { cls := .type "list", data := .seq vs.toArray } → IntsAre vs ns → ns.length ≤ n →
      s.gens = #[] → s.os = s₁.os →
      Fr s₁.heap s₁.heap.objs.size s.heap (bindL (envOfC d.name d.scope s₁.heap.objs.size fa cd).kindOf [(x, .ref a)] fun _ => none) →
      Cl s₁.heap.objs.size (cellsFrom (s₁.heap.objs.size + 1) d.scope.names []) s.heap (bindC (envOfC d.name d.scope s₁.heap.objs.size fa cd).kindOf [(x, .ref a)] fun _ => none) →
      wpAny (model l.prog w) (callerA.deeper (envOfC d.name d.scope s₁.heap.objs.size fa cd)) (execs d.body (envOfC d.name d.scope s₁.heap.objs.size fa cd))
        (fun f s' => f = .ret (.bool true) ∧ OldK s₁.heap s'.heap ∧ s'.os = s₁.os ∧ AllBare s'.gens) (fun _ _ => False) s) :
    WalkO q loose XP YP l.row.toRowW d [] (fun f vs => PySem.call f vs) := by
  intro w s₀ s₁ mg mb G Y fa o pm cd doc dV kV ho hd hcd hD hmg hg args vals as hpre hlay hrd hwl hlo
  obtain rfl : dV = .none := Dflts.none hD hdf
  obtain rfl : kV = .none := Dflts.noKw hD
  obtain ⟨a, vs, ns, rfl, rfl, hobj, hints, hlen⟩ := script_of hn hpre hwl
  refine enter_call ?_
  refine call_cells_ret (o := o) (by rw [depth_caller]; decide) ho (fd_plain hd) G.T.nolimit hcd (hbind pm cd doc (.ref a)) (fun y hy => ?_) (fun h₁ tk F X => ?_) hco hgen hk
  · obtain rfl : y = (x, Value.ref a) := List.mem_singleton.mp hy
    rcases hx with e | e
    · exact .inl e
    · exact .inr ⟨e, cellsFrom_some _ _ _ (.inl e)⟩
  · refine wpAny_mono (body w s₀ s₁ { s₁ with heap := h₁, toks := tk } mg mb fa o pm cd doc a vs ns G Y ho (fd_plain hd) hcd hmg hobj hints hlen hg rfl F X) (fun f s' hq => ?_) (fun _ _ hq => hq)
    obtain ⟨rfl, h2, h3, h4⟩ := hq
    exact ⟨.inl ⟨.bool true, .bool true, [], rfl, fun _ => rfl, .bool true, post_true l _, fun _ => ⟨List.Pairwise.nil, fun _ hm => (nomatch hm)⟩⟩, h2, h3, h4⟩

/-- the same from a codeAny of the CALL (for a layer whose function contracts speak of calls) -/
theorem attach_call {l : OpenLaw} {n : Nat} {q : Program} {loose : List Str} {XP : (Str → Option Value) → Heap → Prop} {YP : World → Heap → Prop} {d : DefRec}
    (hn : l.most = some n) (hdf : d.params.defaults = [])
    (call : ∀ (w : World) (s₀ s₁ : Shared) (mg mb : Str → Option Value) (fa : Addr) (o : Obj) (pm cd doc : Value) (a : Addr) (vs : List Value) (ns : List Int),
      Ground q loose [] XP w s₀ mg mb s₁.heap → YP w s₁.heap →
      s₁.heap.get? fa = some o → o.data = .func (docDef d.name d.params d.body d.scope pm cd doc) → s₁.heap.CodeRec cd d.name → mg d.name = some (.ref fa) →
      s₁.heap.get? a = some { cls := .type "list", data := .seq vs.toArray } → IntsAre vs ns → ns.length ≤ n → s₁.gens = #[] →
      codeAny (model l.prog w) callerA (.call (.ref fa) ⟨[.ref a], []⟩) (fun r s' => r = .ok (.ret (.bool true)) ∧ OldK s₁.heap s'.heap ∧ s'.os = s₁.os ∧ AllBare s'.gens) s₁) :
    WalkO q loose XP YP l.row.toRowW d [] (fun f vs => PySem.call f vs) := by
  intro w s₀ s₁ mg mb G Y fa o pm cd doc dV kV ho hd hcd hD hmg hg args vals as hpre hlay hrd hwl hlo
  obtain rfl : dV = .none := Dflts.none hD hdf
  obtain rfl : kV = .none := Dflts.noKw hD
  obtain ⟨a, vs, ns, rfl, rfl, hobj, hints, hlen⟩ := script_of hn hpre hwl
  refine enter_call (codeAny_mono (call w s₀ s₁ mg mb fa o pm cd doc a vs ns G Y ho (fd_plain hd) hcd hmg hobj hints hlen hg) fun r s' hq => ?_)
  obtain ⟨rfl, h2, h3, h4⟩ := hq
  exact ⟨.inl ⟨.bool true, .bool true, [], rfl, fun _ => rfl, .bool true, post_true l _, fun _ => ⟨List.Pairwise.nil, fun _ hm => (nomatch hm)⟩⟩, h2, h3, h4⟩

/-- the same where the top left finished generators (o_head chose holds_openN): nothing may have changed at all and no generator may be left -/
theorem attachN {l : OpenLaw} {n : Nat} {q : Program} {loose : List Str} {XP : (Str → Option Value) → Heap → Prop} {YP : World → Heap → Prop} {d : DefRec} {x : Str}
    (hn : l.most = some n) (hdf : d.params.defaults = [])
    (hbind : ∀ pm cd doc v : Value, bindArgs (docDef d.name d.params d.body d.scope pm cd doc) ⟨[v], []⟩ = pure [(x, v)])
    (hx : d.scope.names.lookup x = some .local ∨ d.scope.names.lookup x = some .cell)
    (hk : d.scope.kind = .function) (hco : d.scope.isCoroutine = false) (hgen : d.scope.isGenerator = false)
    (body : ∀ (w : World) (s₀ s₁ s : Shared) (mg mb : Str → Option Value) (fa : Addr) (o : Obj) (pm cd doc : Value) (a : Addr) (vs : List Value) (ns : List Int),
      Ground q loose [] XP w s₀ mg mb s₁.heap → YP w s₁.heap →
      s₁.heap.get? fa = some o → o.data = .func (docDef d.name d.params d.body d.scope pm cd doc) → s₁.heap.CodeRec cd d.name → mg d.name = some (.ref fa) →
      s₁.heap.get? a = some { cls := .type "list", data := .seq vs.toArray } → IntsAre vs ns → ns.length ≤ n →
      s.gens = #[] → s.os = s₁.os →
      Fr s₁.heap s₁.heap.objs.size s.heap (bindL (envOfC d.name d.scope s₁.heap.objs.size fa cd).kindOf [(x, .ref a)] fun _ => none) →
      Cl s₁.heap.objs.size (cellsFrom (s₁.heap.objs.size + 1) d.scope.names []) s.heap (bindC (envOfC d.name d.scope s₁.heap.objs.size fa cd).kindOf [(x, .ref a)] fun _ => none) →
      wpAny (model l.prog w) (callerA.deeper (envOfC d.name d.scope s₁.heap.objs.size fa cd)) (execs d.body (envOfC d.name d.scope s₁.heap.objs.size fa cd))
        (fun f s' => f = .ret (.bool true) ∧ (∀ b o, s₁.heap.get? b = some o → s'.heap.get? b = some o) ∧ s'.os = s₁.os ∧ s'.gens = #[]) (fun _ _ => False) s) :
    WalkN q loose XP YP l.row.toRowW d [] (fun f vs => PySem.call f vs) := by
  intro w s₀ s₁ mg mb G Y fa o pm cd doc dV kV ho hd hcd hD hmg hg args vals as hpre hlay hrd hwl hlo
  obtain rfl : dV = .none := Dflts.none hD hdf
  obtain rfl : kV = .none := Dflts.noKw hD
  obtain ⟨a, vs, ns, rfl, rfl, hobj, hints, hlen⟩ := script_of hn hpre hwl
  refine enter_callW ?_
  refine call_cells_ret (o := o) (by rw [depth_caller]; decide) ho (fd_plain hd) G.T.nolimit hcd (hbind pm cd doc (.ref a)) (fun y hy => ?_) (fun h₁ tk F X => ?_) hco hgen hk
  · obtain rfl : y = (x, Value.ref a) := List.mem_singleton.mp hy
    rcases hx with e | e
    · exact .inl e
    · exact .inr ⟨e, cellsFrom_some _ _ _ (.inl e)⟩
  · refine wpAny_mono (body w s₀ s₁ { s₁ with heap := h₁, toks := tk } mg mb fa o pm cd doc a vs ns G Y ho (fd_plain hd) hcd hmg hobj hints hlen hg rfl F X) (fun f s' hq => ?_) (fun _ _ hq => hq)
    obtain ⟨rfl, h2, h3, h4⟩ := hq
    exact ⟨.inl ⟨.bool true, .bool true, [], rfl, fun _ => rfl, .bool true, post_true l _, fun _ => ⟨List.Pairwise.nil, fun _ hm => (nomatch hm)⟩⟩, h2, h3, h4⟩

/-! ### rules over ANY heap (no ledger) from facts about the written part K: the library's own take a ledger (News) for what they write -/
section
variable {prog : Program} {w : World} {A : Around} {E : Value → Shared → Prop} {s : Shared} {K : Frag}

/-- a def of the module, or a method (qual 'C.m'), entered: the frame is the next address; cells behind it -/
theorem call_fn {R : Result → Shared → Prop} {name qual : Str} {params : Arguments} {body : List Stmt} {scope : Scope} {dV kV doc pm cdv ct oc : Value} {an od : Option Addr} {osl : Array (Option Value)} {f : Addr} {args : Args} {binds : List (Str × Value)}
    (X : K.In s.heap) (hlim : s.heap.NoLimit) (ho : K.lookup f = some ⟨oc, od, .func (fnOf name qual params body scope dV kV doc pm an cdv ct), osl⟩) (hcd : codeIn K cdv qual = true) (hroom : A.depth < recursionLimit)
    (hbind : BindsTo s (fnOf name qual params body scope dV kV doc pm an cdv ct) args binds)
    (hkind : (binds.all fun y => scope.names.lookup y.1 == some .local || scope.names.lookup y.1 == some .cell) = true)
    (h : ∀ s₁, InCallC s s.heap.objs.size (bindL (envOfC qual scope s.heap.objs.size f cdv).kindOf binds fun _ => none) (cellsFrom (s.heap.objs.size + 1) scope.names [])
        (bindC (envOfC qual scope s.heap.objs.size f cdv).kindOf binds fun _ => none) s₁ →
      wpAny (model prog w) (A.deeper (envOfC qual scope s.heap.objs.size f cdv)) (execs body (envOfC qual scope s.heap.objs.size f cdv))
        (fun fl s' => R (.ok (.ret (match fl with | .ret v => v | _ => .none))) s')
        (fun e s' => wpAny (model prog w) (A.deeper (envOfC qual scope s.heap.objs.size f cdv)) (leaving (envOfC qual scope s.heap.objs.size f cdv) e) (fun _ s'' => R (.error e) s'') (fun e' s'' => R (.error e') s'') s') s₁)
    (hco : scope.isCoroutine = false) (hgen : scope.isGenerator = false) (hk : scope.kind = .function) : codeAny (model prog w) A (.call (.ref f) args) R s := by
  refine codeAny_call_function hroom (X _ _ ho) rfl hco hgen rfl (codeRec_of X hcd) (hbind _ _ _ _ ?_)
  refine wpAny_newFunctionEnv_cells hk (kindsX hkind _) fun env he s₁ x => ?_
  subst he
  exact ⟨hlim.keeps x.toInCall.keep, codeAny_func (h s₁ x)⟩

/-- C(..): dict at size, instance at size + 1, then __init__ -/
theorem make_obj {R : Result → Shared → Prop} {C fI : Addr} {rest : List Value} {kw : List (Str × Value)}
    (X : K.In s.heap) (hm : makesIn K C = true) (hi : findIn K (.ref C) "__init__" = some (some (.ref fI))) (hf : isFn K (.ref fI) = true)
    (h : codeAny (model prog w) (A.under (.builtin "type.__call__" ⟨.ref C :: rest, kw⟩)) (.call (.ref fI) ⟨.ref (s.heap.objs.size + 1) :: rest, kw⟩) (InitBack (s.heap.objs.size + 1) R)
      { s with heap := (s.heap.push emptyDict).push (instObj C s.heap.objs.size) }) : codeAny (model prog w) A (.call (.ref C) ⟨rest, kw⟩) R s := by
  obtain ⟨hh, g, d, t, os⟩ := s
  exact make_core (makes_of X hm) (looks_findIn X hi) (fun self => bind_fn X self (beq_iff_eq.mp hf)) (.inl rfl) h

/-- x.name where the instance's dict holds the name and the class does not -/
theorem get_field {x C : Addr} {ox : Obj} {es : List DictEntry} {n : Nat} {name : Str} {expr : Bool} {v : Value} {Q : Value → Shared → Prop}
    (X : K.In s.heap) (I : PySem.W.InstAt s.heap x ox C (some (dictOf es n))) (hg : plainGet K C name = true) (hh : hasDictIn K C = true) (ha : findIn K (.ref C) name = some none)
    (hl : getL name es = some (some v)) (hv : handedIn v = true) (h : Q v { s with toks := s.toks + 1 }) : wpAny (model prog w) A (getAttr (.ref x) name expr) Q E s :=
  get_value X I (plainGet_of hg).1 (findObj_own hh ha rfl hl) hv h

/-- x.m(..): the method found in the class -/
theorem get_method {x C f : Addr} {ox : Obj} {es : List DictEntry} {n : Nat} {name : Str} {pl : Sem Bool} {Q : Value × List Value → Shared → Prop}
    (X : K.In s.heap) (I : PySem.W.InstAt s.heap x ox C (some (dictOf es n))) (hg : plainGet K C name = true) (hf : findIn K (.ref C) name = some (some (.ref f))) (ht : isFn K (.ref f) = true)
    (hl : getL name es = some none) (h : Q (.ref f, [.ref x]) s) : wpAny (model prog w) A (getMethod (.ref x) name pl) Q E s :=
  method_fn X I (plainGet_of hg).1 (plainGet_of hg).2 hf (beq_iff_eq.mp ht) (by show (lookIn name (dictOf es n)).map _ = _; rw [lookIn_dict, hl]; rfl) h

/-! the whole heap as the ledger: makes every rule that writes through a ledger a rule over any heap -/
def noObjs (h : Heap) : Heap := { h with objs := #[] }
theorem noObjs_get (h : Heap) (b : Addr) : (noObjs h).get? b = none := by
  cases e : (noObjs h).get? b with
  | none => rfl
  | some o => exact absurd (Heap.lt_size e) (Nat.not_lt_zero _)
def ledger (h : Heap) (L d : Addr) : List (Addr × Obj) := (List.range h.objs.size).filterMap fun a => if a = L ∨ a = d then none else (h.get? a).map fun o => (a, o)
theorem mem_ledger {h : Heap} {L d a : Addr} {o : Obj} : (a, o) ∈ ledger h L d ↔ a ≠ L ∧ a ≠ d ∧ h.get? a = some o := by
  unfold ledger
  rw [List.mem_filterMap]
  constructor
  · rintro ⟨b, _, e⟩
    split at e
    · cases e
    · rename_i hb
      obtain ⟨o', ho, e'⟩ := Option.map_eq_some_iff.mp e
      cases e'
      exact ⟨fun q => hb (.inl q), fun q => hb (.inr q), ho⟩
  · rintro ⟨n1, n2, ho⟩
    refine ⟨a, List.mem_range.mpr (Heap.lt_size ho), ?_⟩
    rw [if_neg (show ¬ (a = L ∨ a = d) from fun q => q.elim n1 n2), ho] <;> rfl
theorem news_ledger {h : Heap} {L d : Addr} {od : Obj} (hne : d ≠ L) (ho : h.get? d = some od) : News (noObjs h) L h ([] ++ (d, od) :: ledger h L d) := by
  rintro ⟨a, o⟩ hp
  rcases List.mem_cons.mp hp with e | hp
  · cases e
    exact ⟨ho, hne, noObjs_get _ _⟩
  · obtain ⟨n1, n2, e⟩ := mem_ledger.mp hp
    exact ⟨e, n1, noObjs_get _ _⟩
theorem fr_all {h : Heap} {L : Addr} {m : Str → Option Value} (n : h.Ns L m) : Fr (noObjs h) L h m :=
  ⟨n, fun b o e => (by rw [noObjs_get] at e; cases e), Nat.zero_le _⟩
/-- Upd of the head entry (for append_K, setItem_K ..) -/
theorem upd_ledger {h : Heap} {L d : Addr} {o o' : Obj} : Upd d o o' ((d, o) :: ledger h L d) ((d, o') :: ledger h L d) :=
  .head fun ⟨_, _⟩ hp => (mem_ledger.mp hp).2.1

/-- x.name = v over any heap: L is any namespace of the heap (the frame's, say): its map stays, its object is not told; all else but the dict stays -/
theorem set_field {x C dx L : Addr} {ox : Obj} {m : Str → Option Value} {es es' : List DictEntry} {n n' : Nat} {name : Str} {v : Value} {Q : Unit → Shared → Prop}
    (X : K.In s.heap) (I : PySem.W.InstAt s.heap x ox C (some (dictOf es n))) (hd : ox.dict = some dx) (hL : s.heap.Ns L m) (hne : dx ≠ L)
    (hs : findIn K (.ref C) "__setattr__" = some (some (.builtin "object.__setattr__"))) (hp : plainOver K C = true) (ht : takerIn K C name = some none) (hh : hasDictIn K C = true) (hl : (getL name es).isSome = true)
    (e : (putL name (PyData.keyHash w.params name) (.str name (s.toks + 1)) v es, putN name es n) = (es', n')) (hz : es'.length ≤ 1000)
    (h : ∀ h' : Heap, h'.Ns L m → h'.get? dx = some (dictOf es' n') → (∀ b o, b ≠ dx → b ≠ L → s.heap.get? b = some o → h'.get? b = some o) → Q () { s with heap := h', toks := s.toks + 2 }) :
    wpAny (model prog w) A (setAttr (.ref x) name v) Q E s := by
  obtain ⟨e1, e2⟩ := Prod.mk.inj e
  have hdx : s.heap.get? dx = some (dictOf es n) := by
    have := I.dict
    rw [hd] at this
    exact this
  refine set_plain X I hs (osa_dict (s := { s with toks := s.toks + 1 }) (h₀ := noObjs s.heap) (L := L) (m := m) (od := dictOf es n) (od' := dictOf es' n') (es := es') (n := n') (pre := []) (post := ledger s.heap L dx)
    (fr_all hL) (news_ledger hne hdx) X I hd hp ht hh hl (fun _ q => nomatch q) (fun ⟨_, _⟩ q => (mem_ledger.mp q).2.1) (by rw [putName_dict, e1, e2]) rfl hz fun h' F' N' => ?_)
  exact h h' F'.ns (N'.get (List.Mem.head _)) fun b o n1 n2 ho => N'.get (List.Mem.tail _ (mem_ledger.mpr ⟨n2, n1, ho⟩))
end
end Att

namespace L2
open PySem PySem.Spec PyProof.Rows

theorem vals_ints : ∀ {vs : List Value} {ns : List Int}, IntsAre vs ns → Vals (ns.map V.int) vs
  | _, _, .nil => .nil
  | _, _, .cons n t h => .cons ⟨t, rfl⟩ (vals_ints h)

/-- nothing is tracked but the script, known to the object (or it is an object of the module) -/
def Only (H : Hp) : Prop := ∀ b, H b = none ∨ ∃ o xs, H b = some (.frz o (.lst xs))

/-- THE HEAD: the law's promise, at the heap behind the top. F, the promise of the law's def, may use that base is part of the heap (so K.In base, base.Ns mainGlobals mg stand in Mod) -/
theorem law_call {P : Program} {w : World} {K : PySem.W.Frag} {mg mb : Str → Option Value} {CX : CXT} {k : Nat} {fa a : Addr} {fd : FuncData} {x : Str} {sp : Sp} {s₁ : Shared} {vs : List Value} {ns : List Int}
    (KX : K.In s₁.heap) (hns : s₁.heap.Ns mainGlobals mg) (hb : s₁.heap.Ns builtinsNs mb) (hbb : ∀ x : Str, x ≠ "__name__" → mb x = bootBuiltins x) (hlim : s₁.heap.NoLimit) (hg : s₁.gens = #[])
    (ha : s₁.heap.get? a = some { cls := .type "list", data := .seq vs.toArray }) (hi : IntsAre vs ns) (hl : ns.length ≤ sizeLine) (hr : Room k callerA)
    (F : ∀ base : Heap, K.In base → base.Ns mainGlobals mg → FnOk P w K mg base CX k fa fd [x] sp) (hbind : ∀ (s : Shared) (u : Value), BindsTo s fd ⟨[u], []⟩ [(x, u)])
    (hsp : ∀ H : Hp, Only H → SqL K H a (ns.map V.int) → sp [.ref a] H (fun v _ => v = .bl true) fun _ _ _ => False)
    (hCX : ∀ H e s', CX [] H s₁ (fun _ _ _ => False) e s' → False) :
    codeAny (model P w) callerA (.call (.ref fa) ⟨[.ref a], []⟩) (fun r s' => r = .ok (.ret (.bool true)) ∧ OldK s₁.heap s'.heap ∧ s'.os = s₁.os ∧ AllBare s'.gens) s₁ := by
  have rv := vals_ints hi
  have lenV := hi.length
  -- from an abstract heap in which nothing but the script may be tracked
  have core : ∀ H : Hp, Only H → SqL K H a (ns.map V.int) → HOk P w H s₁.heap → (∀ b, H b ≠ none → b = a) → (H a ≠ none → K.lookup a = none) →
      codeAny (model P w) callerA (.call (.ref fa) ⟨[.ref a], []⟩) (fun r s' => r = .ok (.ret (.bool true)) ∧ OldK s₁.heap s'.heap ∧ s'.os = s₁.os ∧ AllBare s'.gens) s₁ := by
    intro H hO hS hok hA hK
    have base_of : ∀ {b : Addr} {o : Obj}, s₁.heap.get? b = some o → H b = none → (hidT s₁.heap H).get? b = some o := fun e n => hidT_get e n
    have noA : ∀ {b : Addr} {o : Obj} {es : Array DictEntry} {ep : Nat}, s₁.heap.get? b = some o → o.data = .dict es ep → H b = none := fun {b o es ep} e d => by
      cases q : H b with
      | none => rfl
      | some u =>
        have e' : b = a := hA b (by rw [q]; simp)
        subst e'
        rw [ha] at e; cases e
        have d' : Data.seq vs.toArray _ = Data.dict es ep := d
        cases d'
    have nsK : ∀ {b : Addr} {m : Str → Option Value}, s₁.heap.Ns b m → (hidT s₁.heap H).Ns b m := fun {b m} ⟨o, es, ep, e, d, r⟩ => ⟨o, es, ep, base_of e (noA e d), d, r⟩
    have hKb : K.In (hidT s₁.heap H) := fun b o e => base_of (KX b o e) (by
      cases q : H b with
      | none => rfl
      | some u =>
        have e' : b = a := hA b (by rw [q]; simp)
        subst e'
        rw [hK (by rw [q]; simp)] at e; cases e)
    have hM : Mod K mg (hidT s₁.heap H) := ⟨hKb, nsK hns, ⟨mb, nsK hb, hbb⟩, let ⟨mc, h1, h2⟩ := hlim; ⟨mc, nsK h1, h2⟩⟩
    have e0 : Env0 P w K mg (hidT s₁.heap H) callerA [] s₁ H := ⟨rfl, hM, fun b o e => of_hidT e, Nat.le_of_eq (hidT_size _ _), trivial, fun b hb => absurd (show b ∈ ([] : List Addr) from hb) (by simp), hok, .of_eq hg⟩
    refine codeAny_mono ((F _ hKb (nsK hns)).run callerA [] s₁ H ⟨[.ref a], []⟩ [.ref a] [.ref a] _ _ hr e0 (hbind s₁ (.ref a)) (.cons rfl .nil) (hsp H hO hS)) fun r s' h => ?_
    cases r with
    | error e => exact (hCX H e s' h).elim
    | ok fl =>
      cases fl with
      | next => exact False.elim h
      | brk => exact False.elim h
      | cont => exact False.elim h
      | ret u =>
        obtain ⟨v, H', os, bare, un, hok', r', q⟩ := h
        have q' : v = .bl true := q
        subst q'
        obtain rfl : u = Value.bool true := r'
        refine ⟨rfl, OldK.of_keep fun b o e => ?_, os, bare⟩
        cases q : H b with
        | none => exact un.keep b o e q (by intro z; exact absurd (show b ∈ ([] : List Addr) from z) (by simp)) (by simp)
        | some u =>
          rcases hO b with z | ⟨ob, xs, z⟩
          · rw [q] at z; cases z
          · have z2 := un.frzs b ob _ z
            obtain ⟨e1, _⟩ := hok b _ z
            obtain ⟨e2, _⟩ := hok' b _ z2
            rw [e] at e1; cases e1
            exact e2
  cases hk : K.lookup a with
  | some o =>
    -- the script is one of the module's own objects
    have e := KX a o hk
    rw [ha] at e
    cases e
    refine core (fun _ => none) (fun _ => .inl rfl) (.inr ⟨_, vs.toArray, _, hk, rfl, rfl, rfl, by rw [List.size_toArray, lenV]; exact hl, by simpa using rv⟩) (fun b u z => by have z' : (none : Option HO) = some u := z; cases z') (fun b z => absurd rfl z) fun z => absurd rfl z
  | none =>
    refine core (fun b => if b = a then some (.frz { cls := .type "list", data := .seq vs.toArray } (.lst (ns.map V.int))) else none) (fun b => ?_) (.inl (.inr ⟨{ cls := .type "list", data := .seq vs.toArray }, if_pos rfl⟩)) (fun b u z => ?_) (fun b z => ?_) fun _ => hk
    · by_cases hb : b = a
      · exact .inr ⟨_, _, if_pos hb⟩
      · exact .inl (if_neg hb)
    · by_cases hb : b = a
      · have z' := (if_pos hb).symm.trans z
        cases z'
        subst hb
        exact ⟨ha, by rw [List.length_map]; exact hl, vs, _, rv, ha⟩
      · have z' := (if_neg hb).symm.trans z
        cases z'
    · by_cases hb : b = a
      · exact hb
      · exact absurd (if_neg hb) z
end L2

namespace L2
open PySem PySem.Spec PyProof.Rows

abbrev KOf {K : PySem.W.Frag} {h : Heap} (_ : K.In h) : PySem.W.Frag := K

/-- the goal that k_head leaves (case hc), from the law's promise. F gives the function object fd (K's own) once, then the promise over every base -/
theorem walk_of {l : PySem.W.OpenLaw} {n k : Nat} {q : Program} {loose : List Str} {XP : (Str → Option Value) → Heap → Prop} {YP : World → Heap → Prop} {d : DefRec} {K : Params → PySem.W.Frag} {CX : World → CXT} {sp : World → Sp} {x : Str}
    (hn : l.most = some n) (hn2 : n ≤ sizeLine) (hdf : d.params.defaults = []) (hr : Room k callerA)
    (hY : ∀ (w : World) (h : Heap), YP w h → (K w.params).In h)
    (F : ∀ (w : World) (mg : Str → Option Value) (fa : Addr) (h : Heap), (K w.params).In h → h.Ns mainGlobals mg → mg d.name = some (.ref fa) →
      ∃ fd : FuncData, (∀ (s : Shared) (u : Value), BindsTo s fd ⟨[u], []⟩ [(x, u)]) ∧
        ∀ base : Heap, (K w.params).In base → base.Ns mainGlobals mg → FnOk l.prog w (K w.params) mg base (CX w) k fa fd [x] (sp w))
    (hsp : ∀ (w : World) (H : Hp) (a : Addr) (ns : List Int), ns.length ≤ n → Only H → SqL (K w.params) H a (ns.map V.int) → sp w [.ref a] H (fun v _ => v = .bl true) fun _ _ _ => False)
    (hCX : ∀ (w : World) (H : Hp) (s : Shared) (e : Value) (s' : Shared), CX w [] H s (fun _ _ _ => False) e s' → False) :
    PySem.W.WalkO q loose XP YP l.row.toRowW d [] (fun f vs => PySem.call f vs) := by
  refine Att.attach_call hn hdf fun w s₀ s₁ mg mb fa o pm cd doc a vs ns G Y ho hd hcd hmg hobj hints hlen hg => ?_
  have KX := hY w _ Y
  obtain ⟨fd, hb, hF⟩ := F w mg fa _ KX G.T.g hmg
  exact law_call KX G.T.g G.T.b G.T.builtins G.T.nolimit hg hobj hints (Nat.le_trans hlen hn2) hr hF hb (fun H hO hS => hsp w H a ns hlen hO hS) fun H e s' => hCX w H s₁ e s'
/-- the same where the promise hangs on the written part alone: (sp := My.sp_law), no hole under a binder -/
theorem walk_ofK {l : PySem.W.OpenLaw} {n k : Nat} {q : Program} {loose : List Str} {XP : (Str → Option Value) → Heap → Prop} {YP : World → Heap → Prop} {d : DefRec} {K : Params → PySem.W.Frag} {CX : CXT} {sp : PySem.W.Frag → Sp} {x : Str}
    (hn : l.most = some n) (hn2 : n ≤ sizeLine) (hdf : d.params.defaults = []) (hr : Room k callerA)
    (hY : ∀ (w : World) (h : Heap), YP w h → (K w.params).In h)
    (F : ∀ (w : World) (mg : Str → Option Value) (fa : Addr) (h : Heap), (K w.params).In h → h.Ns mainGlobals mg → mg d.name = some (.ref fa) →
      ∃ fd : FuncData, (∀ (s : Shared) (u : Value), BindsTo s fd ⟨[u], []⟩ [(x, u)]) ∧
        ∀ base : Heap, (K w.params).In base → base.Ns mainGlobals mg → FnOk l.prog w (K w.params) mg base CX k fa fd [x] (sp (K w.params)))
    (hsp : ∀ (K : PySem.W.Frag) (H : Hp) (a : Addr) (ns : List Int), ns.length ≤ n → Only H → SqL K H a (ns.map V.int) → sp K [.ref a] H (fun v _ => v = .bl true) fun _ _ _ => False)
    (hCX : ∀ (H : Hp) (s : Shared) (e : Value) (s' : Shared), CX [] H s (fun _ _ _ => False) e s' → False) :
    PySem.W.WalkO q loose XP YP l.row.toRowW d [] (fun f vs => PySem.call f vs) :=
  walk_of (K := K) (CX := fun _ => CX) (sp := fun w => sp (K w.params)) hn hn2 hdf hr hY F (fun w H a ns h1 h2 h3 => hsp (K w.params) H a ns h1 h2 h3) fun _ H s e s' => hCX H s e s'
end L2

/- THE LAST THEOREM (shape; LID, My.* are yours):
   My.Adr: a structure of the addresses that your layer names (classes, functions); My.Txt K t: a structure (Prop) of the equations over K;
   My.txt_mk : {K} {implicit addresses ..} (e1 : nsIn K mainGlobals "law" = some (some (.ref f))) (e2 : K.lookup f = some ⟨oc, od, .func (fnOf "law" "law" params body scope dV kV doc pm an cdv ct), sl⟩) (e3 : codeIn K cdv "law" = true) .. : ∃ t, My.Txt K t

set_option maxRecDepth 100000 in
set_option maxHeartbeats 0 in
theorem PySem.Challenge.cw_LID_holds : PySem.Challenge.rw_LID.Holds := by
  w_on; o_law; k_head; (case hw => w_witness2)
  k_fill
  refine L2.walk_of (l := PySem.Challenge.rw_LID) (n := 63) (k := 40) (x := "script") (CX := fun w => ..) (sp := fun _ => My.sp_law) rfl (by decide) rfl ⟨rfl, by decide, by decide⟩ (fun w h Y => PySem.W.kIn_of Y) ?F ?S ?C
  case F =>
    intro w mg fa h KX G hmg
    have T : ∃ t, My.Txt (L2.KOf KX) t := by
      dsimp only [L2.KOf]                          -- K must stand as «<heap const> w.params» for k_is
      refine' My.txt_mk ?e1 ?e2 ?e3 ..
      (case e1 => PySem.W.k_is)                    -- in the order: a name -> its address -> its object -> its parts
      (case e2 => PySem.W.k_is)
      ..
    obtain ⟨t, T⟩ := T
    have e0 := hmg.symm.trans (PySem.W.mg_of KX G T.law)
    cases e0                                       -- fa is the law's own address
    exact ⟨_, fun s u => .of_eq rfl, fun base kb nb => My.law_fn T kb nb⟩     -- if «.of_eq rfl» comes too early: refine' ⟨_, ?b, fun base kb nb => My.law_fn T kb nb⟩; exact fun s u => .of_eq rfl
  case S => exact fun w H a ns hl hO hS => ..
  case C => exact ..
(the tactic k_is has no namespace: write k_is) -/

/-! SHORT WORDS over the layer: a def of the text, its body, what a loop and a test want. -/
namespace L2
open PySem PySem.Spec PyProof.Rows

/-! ### the text by places -/
/-- the j-th statement of a class's body -/
def inClass (s : Stmt) (j : Nat) : Stmt := match s with
  | .ClassDef _ _ _ body _ _ _ _ _ _ _ => body.getD j (.Pass ⟨0, 0, 0, 0⟩)
  | _ => .Pass ⟨0, 0, 0, 0⟩
def defArgs (s : Stmt) : Arguments := match s with
  | .FunctionDef _ a _ _ _ _ _ _ _ _ => a
  | _ => { posonlyargs := [], args := [], vararg := none, kwonlyargs := [], kw_defaults := [], kwarg := none, defaults := [] }
def defBody (s : Stmt) : List Stmt := match s with
  | .FunctionDef _ _ b _ _ _ _ _ _ _ => b
  | _ => []
def defScope (s : Stmt) : Scope := match s with
  | .FunctionDef _ _ _ _ _ _ sc _ _ _ => sc
  | _ => { kind := .function, names := [], isGenerator := false, isCoroutine := false }

/-! ### no exception leaves a def -/
abbrev CX0 : CXT := fun _ _ _ _ _ _ => False
abbrev E0 : XK := fun _ _ _ => False
theorem pass0 {X : Cx} : Passes CX0 X E0 := fun _ _ _ _ _ _ _ h => h.elim

/-! ### a def (or method) of the text as it stands behind the top -/
structure Fun (K : PySem.W.Frag) (x qual : Str) (st : Stmt) (f : Addr) (fd : FuncData) : Prop where
  ex : ∃ (oc : Value) (od : Option Addr) (kV doc pm : Value) (an : Option Addr) (cdv ct : Value) (osl : Array (Option Value)),
    fd = PySem.W.fnOf x qual (defArgs st) (defBody st) (defScope st) .none kV doc pm an cdv ct ∧ K.lookup f = some ⟨oc, od, .func fd, osl⟩ ∧ PySem.W.codeIn K cdv qual = true
  kp : PySem.W.keepIn K (.ref f) = true
section
variable {P : Program} {w : World} {K : PySem.W.Frag} {mg : Str → Option Value} {base : Heap}
/-- THE RULE for a def: its body as a term of rules, and the reading of that term -/
theorem Fun.ok {x qual : Str} {st : Stmt} {f : Addr} {fd : FuncData} {N ps : List Str} {k : Nat} {sp : Sp} (F : Fun K x qual st f fd) (S : FnScope N ps (defScope st)) (len : ∀ vs H Q E, sp vs H Q E → vs.length = ps.length)
    (hbody : ∀ (cdv : Value) (A : Around) (outer : List Env) (s : Shared) (H : Hp) (vs : List V) (Q : VK) (E : XK), Room k (A.deeper (envOfC qual (defScope st) s.heap.objs.size f cdv)) → sp vs H Q E →
      ∃ t, PSs (cxOf CX0 P w K mg base N qual (defScope st) f cdv A outer s H E).nox (defBody st) t ∧ t { nx := fun _ H' => Q .non H', rt := Q } (start N vs) H) : FnOk P w K mg base CX0 (k + 1) f fd ps sp := by
  obtain ⟨oc, od, kV, doc, pm, an, cdv, ct, osl, rfl, lk, hcd⟩ := F.ex
  refine fn_of lk hcd S len fun A outer s H vs Q E hr hsp => ?_
  obtain ⟨t, h, q⟩ := hbody cdv A outer s H vs Q E hr hsp
  exact ⟨t, h.nox, q⟩
/-- how its arguments bind (no defaults): h is «fun _ _ _ _ _ _ us hl => match us, hl with | [_, _], _ => rfl», one _ a parameter -/
theorem Fun.binds {x qual : Str} {st : Stmt} {f : Addr} {fd : FuncData} {ps : List Str} (F : Fun K x qual st f fd)
    (h : ∀ (kV doc pm : Value) (an : Option Addr) (cdv ct : Value) (us : List Value), us.length = ps.length → bindArgs (PySem.W.fnOf x qual (defArgs st) (defBody st) (defScope st) .none kV doc pm an cdv ct) ⟨us, []⟩ = pure (ps.zip us)) : Binds K fd ps [] := by
  obtain ⟨oc, od, kV, doc, pm, an, cdv, ct, osl, rfl, lk, hcd⟩ := F.ex
  exact .all (h kV doc pm an cdv ct)
theorem fun_mk {x qual : Str} {st : Stmt} {f : Addr} {oc : Value} {od an : Option Addr} {osl : Array (Option Value)} {kV doc pm cdv ct : Value} (l : K.lookup f = some ⟨oc, od, .func (PySem.W.fnOf x qual (defArgs st) (defBody st) (defScope st) .none kV doc pm an cdv ct), osl⟩)
    (c : PySem.W.codeIn K cdv qual = true) (k : PySem.W.keepIn K (.ref f) = true) : Fun K x qual st f (PySem.W.fnOf x qual (defArgs st) (defBody st) (defScope st) .none kV doc pm an cdv ct) := ⟨⟨oc, od, kV, doc, pm, an, cdv, ct, osl, rfl, l, c⟩, k⟩
end
theorem hu_of {A : Around} {k : Nat} (hr : Room k A) : A.units + 1 < cLine := Nat.lt_of_le_of_lt (Nat.add_le_add_left (by decide : 1 ≤ 64) _) hr.units
theorem small1000 {n : Nat} (h : n ≤ 1000) : n < sizeLine := Nat.lt_of_le_of_lt h (by decide)

/-! ### expressions in short: the name that stands in the i-th slot -/
section
variable {X : Cx}
theorem pv (i : Nat) {x : Str} {pos : Pos} (hN : X.N[i]? = some x := by rfl) (hv : Vis X.env.scope x := by first | exact Or.inl rfl | exact Or.inr (Or.inl rfl) | exact Or.inr (Or.inr rfl)) (hd : (x == ("__debug__" : Str)) = false := by decide)
    (hcd : (x == ("__classdict__" : Str)) = false := by decide) : PE X (.Name x pos) (tVar i) := pe_var hN hv hd hcd
end

/-! ### tests -/
theorem iteF {A B : Prop} (h : B) : if false = true then A else B := by
  rw [if_neg Bool.false_ne_true]
  exact h
theorem iteT {A B : Prop} (h : A) : if true = true then A else B := by
  rw [if_pos rfl]
  exact h
theorem ite2 {c A B : Prop} [Decidable c] (h1 : c → A) (h2 : ¬ c → B) : if c then A else B := by
  by_cases h : c
  · rw [if_pos h]
    exact h1 h
  · rw [if_neg h]
    exact h2 h
theorem iteNS {c A B : Prop} [Decidable c] (hc : c) (h : B) : if (!decide c) = true then A else B := by
  rw [decide_eq_true hc]
  exact iteF h

/-! ### heaps -/
/-- all that was tracked is as it was -/
def Same (H H' : Hp) : Prop := ∀ b o, H b = some o → H' b = some o
theorem Same.refl (H : Hp) : Same H H := fun _ _ h => h
theorem Same.trans {H H1 H2 : Hp} (a : Same H H1) (b : Same H1 H2) : Same H H2 := fun c o h => b c o (a c o h)
theorem Same.free {H H' : Hp} (e : Same H H') {l : Addr} (h : H' l = Option.none) : H l = Option.none := by
  cases q : H l with
  | none => rfl
  | some o =>
    rw [e l o q] at h
    cases h
theorem Same.seq {K : PySem.W.Frag} {H H' : Hp} {a : Addr} {xs : List V} (e : Same H H') (h : SqL K H a xs) : SqL K H' a xs := by
  rcases h with (h | ⟨o, h⟩) | h
  · exact .inl (.inl (e _ _ h))
  · exact .inl (.inr ⟨o, e _ _ h⟩)
  · exact .inr h

end L2

set_option maxHeartbeats 4000000
/-! ### own rules over the layer: a list comprehension, isinstance, a def called by its name -/
namespace Q2
open PySem PySem.Spec PyProof.Rows L2
abbrev St := L2.St

/-! #### a comprehension's turn, no exception leaving it -/
abbrev noX : Value → Shared → Prop := fun _ _ => False
def testsOf (ifs : List Expr) (env : Env) : Sem Bool :=
  forIn ifs true fun c r => if r = true then do let ok ← isTrue c env (eval c env); pure (ForInStep.yield ok) else pure (ForInStep.yield r)
section
variable {prog : Program} {w : World} {A : Around} {R : Result → Shared → Prop} {s : Shared}
theorem compLoop_any {elt target iter : Expr} {ifs : List Expr} {scope : Scope} {pos : Pos} {it acc : Value} {env : Env} (I : Nat → Shared → Prop)
    (turn : ∀ n s, I n s → wpAny (model prog w) A (pyNext it) (fun r s₁ => match r with
      | none => R (.ok .next) s₁
      | some v => wpAny (model prog w) A (letOwnedTupleGo target it v) (fun _ s₂ => wpAny (model prog w) A (assign target env v) (fun _ s₃ =>
          wpAny (model prog w) A (testsOf ifs env) (fun ok s₄ =>
            if ok = true then wpAny (model prog w) A (eval elt env) (fun x s₅ => wpAny (model prog w) A (call (.builtin "list.append") [acc, x]) (fun _ s₆ => ∃ m, m < n ∧ I m s₆) noX s₅) noX s₄
            else ∃ m, m < n ∧ I m s₄) noX s₃) noX s₂) noX s₁) noX s)
    (n : Nat) (h : I n s) : codeAny (model prog w) A (.compLoop (.ListComp elt [⟨target, iter, ifs, 0⟩] scope pos) 0 it acc env) R s := by
  refine codeAny_loop rfl I (fun n s hI => ?_) n h
  show wpAny _ A ((compTurn (.ListComp elt [⟨target, iter, ifs, 0⟩] scope pos) 0 it acc env).onRaise (fun x => do noteFrame x env; theTreesLotGoes x)) _ _ s
  refine wpAny_noted ?_
  rw [compTurn_list]
  refine wpAny_bind (wpAny_standAt (wpAny_bind (wpAny_mono (turn n s hI) (fun r s₁ h₁ => ?_) fun _ _ z => z.elim)))
  cases r with
  | none => exact wpAny_pure h₁
  | some v =>
    refine wpAny_bind (wpAny_mono h₁ (fun _ s₂ h₂ => wpAny_bind (wpAny_mono h₂ (fun _ s₃ h₃ => wpAny_bind (wpAny_mono h₃ (fun ok s₄ h₄ => ?_) fun _ _ z => z.elim)) fun _ _ z => z.elim)) fun _ _ z => z.elim)
    cases ok with
    | false => exact wpAny_pure ⟨rfl, h₄⟩
    | true =>
      exact wpAny_bind (wpAny_bind (wpAny_mono h₄ (fun x s₅ h₅ => wpAny_bind (wpAny_mono h₅ (fun _ s₆ h₆ => wpAny_pure (wpAny_pure ⟨rfl, h₆⟩)) fun _ _ z => z.elim)) fun _ _ z => z.elim))
end

/-! #### the cells that a comprehension takes along -/
theorem closure_go {env : Env} : ∀ (names : List (Str × NameKind)) (acc : List (Str × Addr)), (∀ p ∈ names, p.2 = .free → ∃ c, env.cells.lookup p.1 = some c) →
    ∃ cl, (forIn names acc fun (x : Str × NameKind) cs => (if (x.2 == NameKind.free) = true then (do let c ← cellOf env x.1; pure (ForInStep.yield ((x.1, c) :: cs))) else pure (ForInStep.yield cs)) : Sem (List (Str × Addr))) = pure cl ∧
      (∀ y c, cl.lookup y = some c → acc.lookup y = some c ∨ env.cells.lookup y = some c) ∧ (∀ y c, (y, NameKind.free) ∈ names ∨ acc.lookup y = some c → env.cells.lookup y = some c → cl.lookup y = some c)
  | [], acc, _ => ⟨acc, rfl, fun y c h => .inl h, fun y c h _ => by
      rcases h with h | h
      · exact absurd h (by simp)
      · exact h⟩
  | (n, k) :: r, acc, h => by
    by_cases hk : k = .free
    · subst hk
      obtain ⟨c, hc⟩ := h (n, .free) List.mem_cons_self rfl
      obtain ⟨cl, e, h1, h2⟩ := closure_go (env := env) r ((n, c) :: acc) fun p hp => h p (List.mem_cons_of_mem _ hp)
      refine ⟨cl, ?_, fun y d hd => ?_, fun y d hd he => ?_⟩
      · rw [List.forIn_cons, ← e]
        have ec : cellOf env n = pure c := by unfold cellOf; rw [hc]
        simp [ec]
      · rcases h1 y d hd with z | z
        · rw [List.lookup_cons] at z
          cases q : y == n with
          | true =>
            rw [q] at z
            have : y = n := by simpa using q
            subst this
            have z' : some c = some d := z
            cases z'
            exact .inr hc
          | false => rw [q] at z; exact .inl z
        · exact .inr z
      · refine h2 y d ?_ he
        rcases hd with z | z
        · rcases List.mem_cons.mp z with z | z
          · have : y = n := congrArg Prod.fst z
            subst this
            rw [hc] at he; cases he
            exact .inr (by rw [List.lookup_cons, beq_self_eq_true])
          · exact .inl z
        · by_cases q : y = n
          · subst q
            rw [hc] at he; cases he
            exact .inr (by rw [List.lookup_cons, beq_self_eq_true])
          · have q' : (y == n) = false := by simpa using q
            exact .inr (by rw [List.lookup_cons, q']; exact z)
    · obtain ⟨cl, e, h1, h2⟩ := closure_go (env := env) r acc fun p hp => h p (List.mem_cons_of_mem _ hp)
      refine ⟨cl, ?_, h1, fun y d hd he => h2 y d ?_ he⟩
      · rw [List.forIn_cons, ← e]
        have : (k == NameKind.free) = false := by simpa using hk
        simp [this]
      · rcases hd with z | z
        · rcases List.mem_cons.mp z with z | z
          · exact absurd (congrArg Prod.snd z).symm hk
          · exact .inl z
        · exact .inr z
theorem closure_of {scope : Scope} {env : Env} (h : ∀ p ∈ scope.names, p.2 = .free → ∃ c, env.cells.lookup p.1 = some c) :
    ∃ cl, closureFor scope env = pure cl ∧ (∀ y c, cl.lookup y = some c → env.cells.lookup y = some c) ∧ (∀ y c, (y, NameKind.free) ∈ scope.names → env.cells.lookup y = some c → cl.lookup y = some c) := by
  obtain ⟨cl, e, h1, h2⟩ := closure_go (env := env) scope.names [] h
  refine ⟨cl, ?_, fun y c z => (h1 y c z).elim (fun q => absurd q (by simp)) id, fun y c z => h2 y c (.inl z)⟩
  unfold closureFor
  rw [← e]
  simp only [bind_pure]

end Q2
namespace Q2
open PySem PySem.Spec PyProof.Rows L2

/-! #### the block of a comprehension as a context -/
def compCx (X : Cx) (N' : List Str) (scope : Scope) (cl : List (Str × Addr)) (C : Addr) (s₀ : Shared) (H₀ : Hp) (fp : List Addr) : Cx where
  prog := X.prog
  w := X.w
  K := X.K
  mg := X.mg
  base := X.base
  A := X.A
  N := N'
  s₀ := s₀
  H₀ := H₀
  env := compEnvC scope cl C X.env
  outer := X.stack
  stack := X.stack
  ex := fp
  fn := fun _ => false
  calm := X.calm
  pn := []
  xe := noX
/-- the names: N the def's, xs the comprehension's own; sc the def's scope, scope the comprehension's -/
structure CompOk (N xs : List Str) (sc scope : Scope) : Prop where
  kind : scope.kind = .function
  sck : sc.kind = .function
  cell : ∀ y ∈ scope.names, y.2 ≠ .cell
  loc : ∀ y ∈ scope.names, y.2 = .local → scope.names.lookup y.1 = some .local
  free : ∀ y ∈ scope.names, y.2 = .free → sc.names.lookup y.1 = some .cell
  apart : ∀ y ∈ scope.names, y.2 = .local → y.1 ∉ N
/-- the def's names as the block sees them: one that the block has for its own is another there -/
structure Seen (N0 N : List Str) (scope : Scope) : Prop where
  len : N.length = N0.length
  get : ∀ (i : Nat) (y : Str), N[i]? = some y → scope.names.lookup y ≠ none → N0[i]? = some y
theorem Seen.of {N0 N : List Str} {scope : Scope} (h : N0 = N) : Seen N0 N scope := ⟨congrArg _ h.symm, fun _ _ e _ => by rw [h]; exact e⟩
def seenB (N0 N : List Str) (scope : Scope) : Bool := decide (N.length = N0.length) && (List.zip N0 N).all fun x => x.1 == x.2 || (scope.names.lookup x.2).isNone
theorem Seen.by_ {N0 N : List Str} {scope : Scope} (h : seenB N0 N scope = true) : Seen N0 N scope := by
  unfold seenB at h
  rw [Bool.and_eq_true, decide_eq_true_iff, List.all_eq_true] at h
  obtain ⟨h1, h2⟩ := h
  refine ⟨h1, fun i y e hy => ?_⟩
  have hi : i < N.length := (List.getElem?_eq_some_iff.mp e).1
  have e0 : N0[i]? = some (N0[i]'(by omega)) := List.getElem?_eq_getElem (by omega)
  have hm : (N0[i]'(by omega), y) ∈ List.zip N0 N := by
    refine List.mem_of_getElem? (i := i) ?_
    rw [List.getElem?_zip_eq_some]
    exact ⟨e0, e⟩
  have := h2 _ hm
  rw [Bool.or_eq_true] at this
  rcases this with q | q
  · have q' : N0[i]'(by omega) = y := beq_iff_eq.mp q
    rw [e0, q']
  · exact absurd (Option.isNone_iff_eq_none.mp q) hy
/-- the tests behind the if's -/
def PTs (X : Cx) (ifs : List Expr) (t : TT) : Prop :=
  ∀ (pins : List (Addr × Obj)) (s : Shared) (σ : St) (H : Hp) (Q : Bool → Hp → Prop), Inv X pins σ H s → t σ H Q → wpAny (model X.prog X.w) X.A (testsOf ifs X.env) (TP X pins σ Q) X.xe s
def tYes : TT := fun _ H Q => Q true H
theorem pts_nil {X : Cx} : PTs X [] tYes := fun _ _ _ H _ I h => wpAny_tests_nil ⟨H, I, h⟩
theorem pts_one {X : Cx} {c : Expr} {t : TT} (h : PT X c t) : PTs X [c] t := fun pins s σ H Q I hw => wpAny_tests_one (h pins s σ H Q I hw)
/-- the reading of a comprehension: D the list that grows -/
def tComp (wi : TI) (j : Nat) (g : TG) (tc : TT) (te : TE) : TE := fun σ H Q => wi σ H fun J H1 => ∀ D, H1 D = none →
  ∃ W : Nat → Nat → St → Hp → Prop, (∃ m, W 0 m (σ ++ List.replicate j none) (upd H1 D (.lst []))) ∧ ∀ i m σ1 H2, W i m σ1 H2 →
    (J.stop i H2 ∧ Q (.ref D) H2) ∨ (J.go i H2 ∧ ∃ N : St → Hp → Prop, (∀ σ' H', N σ' H' → ∃ m', m' < m ∧ W (i + 1) m' σ' H') ∧
      ∀ x H3, J.yld i H2 x H3 → g x σ1 H3 fun σ2 H4 => tc σ2 H4 fun b H5 => if b = true then te σ2 H5 fun y H6 => ∃ ys, H6 D = some (.lst ys) ∧ ys.length < sizeLine ∧ N σ2 (upd H6 D (.lst (ys ++ [y]))) else N σ2 H5)

theorem relabel_names (scope : Scope) (env : Env) : (relabel scope env).names = scope.names.map fun (n, k) => if (k == .free && env.scope.kind == .function && env.kindOf n == some .cell) then (n, .cell) else (n, k) := rfl
theorem look_none {β : Type} {x : Str} {v : β} : ∀ {l : List (Str × β)}, l.lookup x = none → (x, v) ∈ l → False
  | (a, b) :: r, h, hm => by
    rw [List.lookup_cons] at h
    cases e : x == a with
    | true => rw [e] at h; cases h
    | false =>
      rw [e] at h
      rcases List.mem_cons.mp hm with q | q
      · cases q
        rw [beq_self_eq_true] at e
        cases e
      · exact look_none h q
  | [], _, hm => absurd hm (by simp)
theorem lookup_mem {β : Type} {x : Str} {v : β} : ∀ {l : List (Str × β)}, l.lookup x = some v → (x, v) ∈ l := fun h => PySem.mem_of_lookup h
/-- a name that the block sees: its own, or a cell of the def's -/
theorem relabel_look {N xs : List Str} {sc scope : Scope} {env : Env} (ok : CompOk N xs sc scope) (hsc : env.scope = sc) {y : Str} {k : NameKind} (h : (relabel scope env).names.lookup y = some k) :
    (k = .local ∧ (y, NameKind.local) ∈ scope.names) ∨ (k = .cell ∧ (y, NameKind.free) ∈ scope.names ∧ env.kindOf y = some .cell) ∨ (k ≠ .local ∧ k ≠ .cell ∧ k ≠ .free) := by
  have hm := lookup_mem h
  rw [relabel_names] at hm
  obtain ⟨⟨n, q⟩, hq, e⟩ := List.mem_map.mp hm
  have e : (if (q == NameKind.free && env.scope.kind == .function && env.kindOf n == some .cell) = true then (n, NameKind.cell) else (n, q)) = (y, k) := e
  by_cases hf : q = .free
  · subst hf
    have h1 : env.kindOf n = some .cell := by
      show env.scope.names.lookup n = some .cell
      rw [hsc]
      exact ok.free _ hq rfl
    have h2 : env.scope.kind = .function := by rw [hsc]; exact ok.sck
    rw [h1, h2] at e
    have e2 : (n, NameKind.cell) = (y, k) := e
    cases e2
    exact .inr (.inl ⟨rfl, hq, h1⟩)
  · have hb : (q == NameKind.free) = false := by simpa using hf
    rw [hb] at e
    have e2 : (n, q) = (y, k) := e
    have en : n = y := congrArg Prod.fst e2
    have ek : q = k := congrArg Prod.snd e2
    rw [en, ek] at hq
    rw [ek] at hf
    by_cases hl : k = .local
    · subst hl; exact .inl ⟨rfl, hq⟩
    · exact .inr (.inr ⟨hl, ok.cell _ hq, hf⟩)

theorem Un.but {fs ex : List Addr} {H H' : Hp} {h h1 h2 : Heap} {C : Addr} (u : Un fs ex H H' h h1) (hs : Heap.SameBut C h1 h2) (hC : h.get? C = none) : Un fs ex H H' h h2 where
  keep := fun b o e n h3 h4 => (hs.2 b (by rintro rfl; rw [hC] at e; cases e)).trans (u.keep b o e n h3 h4)
  slot := fun b o e n h3 h4 => by
    obtain ⟨sl, q⟩ := u.slot b o e n h3 h4
    exact ⟨sl, (hs.2 b (by rintro rfl; rw [hC] at e; cases e)).trans q⟩
  free := u.free
  there := fun b o e h3 => by
    obtain ⟨o', q⟩ := u.there b o e h3
    exact ⟨o', (hs.2 b (by rintro rfl; rw [hC] at e; cases e)).trans q⟩
  tups := u.tups
  frzs := u.frzs
  tbls := u.tbls
theorem HOk.but {P : Program} {w : World} {H : Hp} {h1 h2 : Heap} {C : Addr} (ok : HOk P w H h1) (hs : Heap.SameBut C h1 h2) (hC : H C = none) : HOk P w H h2 := fun a o e =>
  (ok a o e).stay (fun b u hb q => (hs.2 b (by
    rintro rfl
    rcases hb with z | z
    · subst z; rw [hC] at e; cases e
    · rw [hC] at z; cases z)).trans q) (fun _ q => q) fun _ _ q => q

section
variable {X : Cx}
/-- a comprehension, whatever is done with its list at the end -/
theorem comp_gen {elt tg iter : Expr} {ifs : List Expr} {scope sc : Scope} {pos ipos : Pos} {wi : TI} {g : TG} {tc : TT} {te : TE} {N xs : List Str} {use : Option (Value → Sem Unit)} {QQ : Value → Shared → Prop} {Q : VK} {pins : List (Addr × Obj)} {s : Shared} {σ : St} {H : Hp}
    (hc : X.calm = true) (ok : CompOk N xs sc scope) (hsc : X.env.scope = sc) (hN : Seen X.N N scope) (hi : PI X tg iter wi)
    (hb : ∀ cl C s₀ H₀ fp, PG (compCx X (N ++ xs) scope cl C s₀ H₀ fp) tg g ∧ PTs (compCx X (N ++ xs) scope cl C s₀ H₀ fp) ifs tc ∧ PE (compCx X (N ++ xs) scope cl C s₀ H₀ fp) elt te)
    (hs : ∀ x, foldedSetIterable iter X.env x = pure x) (I : Inv X pins σ H s) (h : tComp wi xs.length g tc te σ H Q)
    (fin : ∀ (D C : Addr) (H3 : Hp) (s4 : Shared), Inv X pins σ H3 s4 → H3 C = none → X.s₀.heap.objs.size ≤ C → C ≠ X.env.locals → (∀ x c, X.env.cells.lookup x = some c → c ≠ C) → (∀ p ∈ X.pn ++ pins, p.1 ≠ C) → (∃ m, s4.heap.Ns C m) → Q (.ref D) H3 →
      compPost (model X.prog X.w) X.A X.xe use QQ (.ref D) C (.ok .next) s4) :
    wpAny (model X.prog X.w) X.A (comprehension (.ListComp elt [⟨tg, iter, ifs, 0⟩] scope pos) scope X.env ipos (newList []) false (eval iter X.env) use) QQ X.xe s := by
  have kindX : ∀ y, X.env.kindOf y = sc.names.lookup y := fun y => by
    show X.env.scope.names.lookup y = _
    rw [hsc]
  have hcells : ∀ p ∈ scope.names, p.2 = .free → ∃ c, X.env.cells.lookup p.1 = some c := fun p hp hf => I.ok.has p.1 (.inl (by rw [kindX]; exact ok.free p hp hf))
  obtain ⟨cl, hclos, hcl1, hcl2⟩ := closure_of (scope := scope) (env := X.env) hcells
  refine wpAny_comprehension_free rfl hs hclos ok.kind ok.loc ?_
  refine thn (hi pins s σ H _ I h) fun v s1 h1 => thn h1 fun itv s2 h2 => ?_
  obtain ⟨it, fp, tn, J, H2, e, I2, T, st2, f2, hW⟩ := h2
  subst e
  have fD : H2 s2.heap.objs.size = none := I2.fresh
  obtain ⟨W, ⟨m0, w0⟩, turn⟩ := hW _ fD
  refine wpAny_newObj_type (wpAny_newFunctionEnv ok.cell (by intro y hy; simp at hy) (fun h₁ hns₁ hsb₁ => ?_) ok.kind)
  dsimp only at hns₁ hsb₁ ⊢
  generalize hH2 : s2.heap.push { cls := .type "list", dict := none, data := .seq ([] : List Value).toArray } = hp2 at hns₁ hsb₁ ⊢
  have hC : hp2.objs.size = s2.heap.objs.size + 1 := by rw [← hH2, Heap.size_push]
  have hDC : s2.heap.objs.size ≠ hp2.objs.size := by rw [hC]; exact Nat.ne_of_lt (Nat.lt_succ_self _)
  have below : ∀ b, b < s2.heap.objs.size → b ≠ hp2.objs.size := fun b hb => by rw [hC]; exact Nat.ne_of_lt (Nat.lt_succ_of_lt hb)
  have old : ∀ b o, s2.heap.get? b = some o → h₁.get? b = some o := fun b o e => hsb₁.extBut b o (below b (Heap.lt_size e)) (Heap.get?_push_of_some _ (hH2 ▸ Heap.get?_push_of_some _ e))
  have hacc : h₁.get? s2.heap.objs.size = some { cls := .type "list", dict := none, data := .seq ([] : List Value).toArray } := hsb₁.extBut _ _ hDC (Heap.get?_push_of_some _ (hH2 ▸ Heap.get?_push_size _ rfl))
  have fresh : ∀ a, s2.heap.objs.size ≤ a → s2.heap.get? a = none := fun a ha => by
    cases e : s2.heap.get? a with
    | none => rfl
    | some o' => exact absurd (Heap.lt_size e) (Nat.not_lt.mpr ha)
  have hCn : s2.heap.get? hp2.objs.size = none := fresh _ (by rw [hC]; exact Nat.le_succ _)
  have fC : H2 hp2.objs.size = none := I2.hok.fresh (by rw [hC]; exact Nat.le_succ _)
  have fnum : ∀ b ∈ fp, b < s2.heap.objs.size := fun b hb => by
    obtain ⟨o, e, _⟩ := T.obj _ _ st2 b hb
    exact Heap.lt_size e
  -- the block's context and its facts
  have okC : (compCx X (N ++ xs) scope cl hp2.objs.size s2 H2 fp).Ok := by
    refine ⟨I2.ok.mod, ?_, I2.ok.glob, I2.ok.blt, (by show s2.heap.objs.size ≤ hp2.objs.size; rw [hC]; exact Nat.le_succ _), ?_, ?_, ?_, I2.ok.hd, I2.ok.frames, .inl rfl, ?_, I2.bs, Nat.le_trans I2.ok.bsz I2.sz, ?_, ?_, I2.stack, I2.stkFree⟩
    · show (relabel scope X.env).kind = .function
      exact ok.kind
    · intro x y c e1 e2
      exact I2.ok.inj x y c (hcl1 x c e1) (hcl1 y c e2)
    · intro y hy
      have hy : (relabel scope X.env).names.lookup y = some .cell ∨ (relabel scope X.env).names.lookup y = some .free := hy
      have key : ∀ k, (k = NameKind.cell ∨ k = NameKind.free) → (relabel scope X.env).names.lookup y = some k → ∃ c, cl.lookup y = some c := fun k hk e => by
        rcases relabel_look ok hsc e with ⟨z, _⟩ | ⟨_, z2, z3⟩ | ⟨_, z1, z2⟩
        · rcases hk with q | q <;> rw [q] at z <;> cases z
        · obtain ⟨c, hc'⟩ := I2.ok.has y (.inl z3)
          exact ⟨c, hcl2 y c z2 hc'⟩
        · rcases hk with q | q
          · exact absurd q z1
          · exact absurd q z2
      rcases hy with z | z
      · exact key _ (.inl rfl) z
      · exact key _ (.inr rfl) z
    · intro x c hf _
      cases (show false = true from hf)
    · intro b hb
      exact ⟨below b (fnum b hb), fun x c e => (f2 b hb).2.2.2.2.1 x c (hcl1 x c e)⟩
    · intro b o e hb
      rcases (f2 b hb).2.2.2.1 with z | z
      · exact I2.ok.noex b o e z
      · exact absurd (Nat.lt_of_lt_of_le (Heap.lt_size e) I2.ok.bsz) (Nat.not_lt.mpr z)
    · intro b hb hf
      rcases List.mem_cons.mp (I2.stkSub b hf) with z | z
      · exact (f2 b hb).2.1 z
      · exact (f2 b hb).2.2.1 z
  have lenσ : σ.length = N.length := by rw [hN.len]; exact I2.len
  have I0 : Inv (compCx X (N ++ xs) scope cl hp2.objs.size s2 H2 fp) [] (σ ++ List.replicate xs.length none) (upd H2 s2.heap.objs.size (.lst [])) { s2 with heap := h₁, toks := s2.toks + ([] : List (Str × Value)).length } := by
    refine ⟨okC, rfl, I2.bare, ?_, ⟨_, hns₁, fun i y u e1 e2 e3 => ?_⟩, fun y c e => ?_, ?_, fun y c e => ?_, fun p hp => absurd (show p ∈ ([] : List (Addr × Obj)) from hp) (by simp), ?_, ?_⟩
    · exact Un.laid old (Nat.le_refl _) fD
    · have e1 : (N ++ xs)[i]? = some y := e1
      have hiN : i < N.length := by
        refine Classical.byContradiction fun z => ?_
        rw [List.getElem?_append_right (by omega), List.getElem?_replicate] at e2
        split at e2 <;> cases e2
      rw [List.getElem?_append_left (by omega)] at e2
      rw [List.getElem?_append_left hiN] at e1
      have hyN : y ∈ N := List.mem_of_getElem? e1
      have e3 : (relabel scope X.env).names.lookup y = some .local ∨ (relabel scope X.env).names.lookup y = some .cell ∨ (relabel scope X.env).names.lookup y = some .free := e3
      have key : ∀ k, (k = NameKind.local ∨ k = NameKind.cell ∨ k = NameKind.free) → (relabel scope X.env).names.lookup y = some k → k = .cell ∧ (y, NameKind.free) ∈ scope.names ∧ X.env.kindOf y = some .cell := fun k hk e => by
        rcases relabel_look ok hsc e with ⟨z, z2⟩ | z | ⟨z0, z1, z2⟩
        · exact absurd hyN (ok.apart _ z2 rfl)
        · exact z
        · rcases hk with q | q | q
          · exact absurd q z0
          · exact absurd q z1
          · exact absurd q z2
      have all : (relabel scope X.env).names.lookup y = some .cell ∧ (y, NameKind.free) ∈ scope.names ∧ X.env.kindOf y = some .cell := by
        rcases e3 with z | z | z
        · have := (key _ (.inl rfl) z).1; cases this
        · exact ⟨z, (key _ (.inr (.inl rfl)) z).2⟩
        · have := (key _ (.inr (.inr rfl)) z).1; cases this
      obtain ⟨a1, a2, a3⟩ := all
      obtain ⟨m, hn, hl⟩ := I2.loc
      obtain ⟨u', r', l'⟩ := hl i y u (hN.get i y e1 fun z => look_none z a2) e2 (.inr (.inl a3))
      refine ⟨u', r', .inr ⟨.inl a1, ?_⟩⟩
      rcases l' with ⟨z, _⟩ | ⟨_, c, hc', hcell⟩
      · rw [a3] at z; cases z
      · refine ⟨c, hcl2 y c a2 hc', ?_⟩
        obtain ⟨o, ho, hd⟩ := hcell
        exact ⟨o, old _ _ ho, hd⟩
    · obtain ⟨v', o, ho, hd⟩ := I2.cell y c (hcl1 y c e)
      exact ⟨v', o, old _ _ ho, hd⟩
    · show upd H2 s2.heap.objs.size (.lst []) hp2.objs.size = none
      rw [upd_ne hDC.symm]
      exact fC
    · obtain ⟨v', o, ho, hd⟩ := I2.cell y c (hcl1 y c e)
      rw [upd_ne (Nat.ne_of_lt (Heap.lt_size ho))]
      exact I2.freeC y c (hcl1 y c e)
    · refine I2.hok.laid old (Nat.le_refl _) ⟨Nat.zero_le _, [], _, .nil, hacc⟩
    · show (σ ++ List.replicate xs.length none).length = (N ++ xs).length
      rw [List.length_append, List.length_replicate, List.length_append, lenσ]
  obtain ⟨hg, ht, he⟩ := hb cl hp2.objs.size s2 H2 fp
  have stat : ∀ {pl : List (Addr × Obj)} {H' : Hp}, pl = [] → (∀ b ∈ fp, H' b = none) → ∀ b ∈ fp, FpOk (compCx X (N ++ xs) scope cl hp2.objs.size s2 H2 fp) pl H' b := fun {pl H'} hpl hn b hb =>
    ⟨hn b hb, below b (fnum b hb), (okC.exfs b hb), .inl hb, fun x c e => (f2 b hb).2.2.2.2.1 x c (hcl1 x c e), fun p hp => absurd (show p ∈ ([] : List (Addr × Obj)) ++ pl from hp) (by rw [hpl]; simp)⟩
  have st0 : tn 0 h₁ := T.keep 0 _ _ st2 fun b _ o e => old b o e
  have fr0 : ∀ b ∈ fp, upd H2 s2.heap.objs.size (.lst []) b = none := fun b hb => by
    rw [upd_ne (Nat.ne_of_lt (fnum b hb))]
    exact (f2 b hb).1
  have loop : ∀ sx : Shared, sx = { s2 with heap := h₁, toks := s2.toks + ([] : List (Str × Value)).length } →
      codeAny (model X.prog X.w) X.A (.compLoop (.ListComp elt [⟨tg, iter, ifs, 0⟩] scope pos) 0 (.ref it) (.ref s2.heap.objs.size) (compEnvC scope cl hp2.objs.size X.env))
        (compPost (model X.prog X.w) X.A X.xe use QQ (.ref s2.heap.objs.size) hp2.objs.size) sx := by
    rintro sx rfl
    refine compLoop_any (fun n s' => ∃ i σ' H', Inv (compCx X (N ++ xs) scope cl hp2.objs.size s2 H2 fp) [] σ' H' s' ∧ tn i s'.heap ∧ (∀ b ∈ fp, H' b = none) ∧ W i n σ' H') ?_ m0 ⟨0, _, _, I0, st0, fr0, w0⟩
    rintro n s3 ⟨i, σ3, H3, I3, st3, fr3, w3⟩
    rcases turn i n σ3 H3 w3 with ⟨stop, qn⟩ | ⟨go, NN, hNN, step⟩
    · refine thn (T.done (compCx X (N ++ xs) scope cl hp2.objs.size s2 H2 fp) rfl rfl rfl hc i [] s3 σ3 H3 noX I3 (stat rfl fr3) st3 stop) fun r s4 ⟨hr, I4⟩ => ?_
      subst hr
      obtain ⟨m, hn, _⟩ := id I4.loc
      have IX : Inv X pins σ H3 s4 := I2.call' (s' := s4) (ch := fp) I4.os I4.base I4.hok I4.bare fun b hb => by
        obtain ⟨_, q1, _, q2, q3, q4⟩ := f2 b hb
        exact ⟨q2, q1, q3, q4⟩
      refine fin _ _ H3 s4 IX I4.free (Nat.le_trans I2.sz (by rw [hC]; exact Nat.le_succ _)) (below _ I2.lt).symm (fun y c e => ?_) (fun p hp => ?_) ⟨m, hn⟩ qn
      · obtain ⟨v', o, ho, _⟩ := I2.cell y c e
        exact below c (Heap.lt_size ho)
      · exact below p.1 (Heap.lt_size (I2.pin p hp).1)
    · refine thn (T.item (compCx X (N ++ xs) scope cl hp2.objs.size s2 H2 fp) rfl rfl rfl hc i [] s3 σ3 H3 noX I3 (stat rfl fr3) st3 go) fun r s4 ⟨u, hr, h4⟩ => ?_
      subst hr
      refine thn h4 fun _ s5 ⟨x, H5, I5, r5, y5, st5, fr5⟩ => ?_
      have I5' := I5.pinned (stat rfl fr5) (T.obj _ _ st5)
      have again : ∀ {σ7 : St} {H7 : Hp} {s7 : Shared}, Inv (compCx X (N ++ xs) scope cl hp2.objs.size s2 H2 fp) ([] ++ pinsAt fp s5.heap) σ7 H7 s7 → NN σ7 H7 →
          ∃ m, m < n ∧ ∃ i σ' H', Inv (compCx X (N ++ xs) scope cl hp2.objs.size s2 H2 fp) [] σ' H' s7 ∧ tn i s7.heap ∧ (∀ b ∈ fp, H' b = none) ∧ W i m σ' H' := fun {σ7 H7 s7} I7 n7 => by
        obtain ⟨m', hm, w7⟩ := hNN σ7 H7 n7
        refine ⟨m', hm, i + 1, σ7, H7, I7.unpinned, T.keep _ _ _ st5 fun b hb o e => (I7.pin (b, o) (List.mem_append_right _ (List.mem_append_right _ (mem_pinsAt hb e)))).1, fun b hb => ?_, w7⟩
        obtain ⟨o, e, d⟩ := T.obj _ _ st5 b hb
        exact (I7.pin (b, o) (List.mem_append_right _ (List.mem_append_right _ (mem_pinsAt hb e)))).2.1
      refine thn (hg _ s5 σ3 H5 x u _ I5' r5 (step x H5 y5)) fun _ s6 ⟨σ6, H6, I6, q6⟩ => ?_
      refine thn (ht _ s6 σ6 H6 _ I6 q6) fun b s7 ⟨H7, I7, q7⟩ => ?_
      cases b with
      | false => exact again I7 q7
      | true =>
        have q7 : te σ6 H7 _ := q7
        refine thn (he _ s7 σ6 H7 _ I7 q7) fun yv s8 ⟨y, H8, I8, r8, ys, hD8, hz8, q8⟩ => ?_
        refine thn (mt_append _ s8 σ6 H8 (.ref s2.heap.objs.size) [y] (.ref s2.heap.objs.size) [yv] (fun v H9 => NN σ6 H9) I8 rfl (.cons r8 .nil) ⟨_, ys, y, rfl, rfl, hD8, hz8, q8⟩) fun _ s9 ⟨_, H9, I9, _, q9⟩ => ?_
        exact again I9 q9
  exact codeAny_compStart_list (loop _ rfl) (T.self _ 0 _ _ _ st0 (loop _ rfl))
theorem pe_comp {elt tg iter : Expr} {ifs : List Expr} {scope sc : Scope} {pos : Pos} {wi : TI} {g : TG} {tc : TT} {te : TE} {N xs : List Str} (hc : X.calm = true) (ok : CompOk N xs sc scope) (hsc : X.env.scope = sc) (hN : Seen X.N N scope)
    (hi : PI X tg iter wi)
    (hb : ∀ cl C s₀ H₀ fp, PG (compCx X (N ++ xs) scope cl C s₀ H₀ fp) tg g ∧ PTs (compCx X (N ++ xs) scope cl C s₀ H₀ fp) ifs tc ∧ PE (compCx X (N ++ xs) scope cl C s₀ H₀ fp) elt te)
    (hs : ∀ x, foldedSetIterable iter X.env x = pure x := by intro _; rfl) :
    PE X (.ListComp elt [⟨tg, iter, ifs, 0⟩] scope pos) (tComp wi xs.length g tc te) := by
  intro pins s σ H Q I h
  rw [eval_ListComp]
  refine comp_gen hc ok hsc hN hi hb hs I h fun D C H3 s4 IX f1 f2 f3 f4 f5 ⟨m, hn⟩ q => ?_
  exact ⟨m, hn, fun h' hs' => ⟨.ref D, H3, IX.turned (t' := s4.toks) (fun b o hb e => (hs'.2 b hb).trans e) f1 f3 (.inr f2) f4 f5, rfl, q⟩⟩
/-- name = a comprehension: the name is bound while the block's own names still stand -/
theorem ps_setcomp {elt tg iter : Expr} {ifs : List Expr} {scope sc : Scope} {pos spos py : Pos} {wi : TI} {g : TG} {tc : TT} {te : TE} {N xs : List Str} {i : Nat} {y : Str} (hND : X.N.Nodup) (hyi : X.N[i]? = some y) (hy : X.env.scope.names.lookup y = some .local)
    (hc : X.calm = true) (ok : CompOk N xs sc scope) (hsc : X.env.scope = sc) (hN : Seen X.N N scope) (hi : PI X tg iter wi)
    (hb : ∀ cl C s₀ H₀ fp, PG (compCx X (N ++ xs) scope cl C s₀ H₀ fp) tg g ∧ PTs (compCx X (N ++ xs) scope cl C s₀ H₀ fp) ifs tc ∧ PE (compCx X (N ++ xs) scope cl C s₀ H₀ fp) elt te)
    (hsw : swapsWith (.ListComp elt [⟨tg, iter, ifs, 0⟩] scope pos) (some (.Name y py)) spos.line X.env = pure true) (hs : ∀ x, foldedSetIterable iter X.env x = pure x := by intro _; rfl) :
    PS X (.Assign [.Name y py] (.ListComp elt [⟨tg, iter, ifs, 0⟩] scope pos) spos) (tAsg (tComp wi xs.length g tc te) (gName i)) := by
  intro pins s σ H D I h
  rw [exec_Assign_Name_used _ _ _ _ hsw]
  refine wpAny_bind (wpAny_standAt (wpAny_bind ?_))
  show wpAny _ X.A (do let _ ← comprehension (.ListComp elt [⟨tg, iter, ifs, 0⟩] scope pos) scope X.env _ (newList []) false (eval iter X.env) (some (assign (.Name y py) X.env))) _ _ s
  refine wpAny_bind (thn (comp_gen (QQ := fun _ s' => SP X pins D .next s') (use := some (assign (.Name y py) X.env)) hc ok hsc hN hi hb hs I h ?_) fun _ s' hq => wpAny_pure (wpAny_pure hq))
  intro D' C H3 s4 IX f1 f2 f3 f4 f5 hm q
  obtain ⟨m, hn⟩ := hm
  show wpAny _ X.A (assign (.Name y py) X.env (.ref D')) _ _ _
  refine wpAny_assign_Name (store_ok2 (v := .ref D') IX hND hyi (.inl hy) rfl (fun s5 I5 hsb => ?_) (.inr hy))
  obtain ⟨a, sb, ha⟩ := hsb
  have hCa : C ≠ a := by
    rcases ha with z | z
    · rw [z]; exact f3
    · exact (f4 y a z).symm
  exact ⟨m, hn.sameBut sb hCa, fun h' hs' => ⟨_, H3, I5.turned (t' := s5.toks) (fun b o hb e => (hs'.2 b hb).trans e) f1 f3 (.inr f2) f4 f5, q⟩⟩
end

/-! #### the forms one uses -/
/-- over a range: Pv by the turn -/
theorem comp_range {lo : Int} {n j : Nat} {g : TG} {tc : TT} {te : TE} {Q : VK} {σ : St} {H : Hp} {D : Addr} (Pv : Nat → St → Hp → Prop) (h0 : Pv 0 (σ ++ List.replicate j none) (upd H D (.lst [])))
    (hs : ∀ i σ1 H1, i < n → Pv i σ1 H1 → g (.int (lo + i)) σ1 H1 fun σ2 H4 => tc σ2 H4 fun b H5 => if b = true then te σ2 H5 fun y H6 => ∃ ys, H6 D = some (.lst ys) ∧ ys.length < sizeLine ∧ Pv (i + 1) σ2 (upd H6 D (.lst (ys ++ [y]))) else Pv (i + 1) σ2 H5)
    (hd : ∀ σ1 H1, Pv n σ1 H1 → Q (.ref D) H1) :
    ∃ W : Nat → Nat → St → Hp → Prop, (∃ m, W 0 m (σ ++ List.replicate j none) (upd H D (.lst []))) ∧ ∀ i m σ1 H2, W i m σ1 H2 →
    ((Itr lo n).stop i H2 ∧ Q (.ref D) H2) ∨ ((Itr lo n).go i H2 ∧ ∃ N : St → Hp → Prop, (∀ σ' H', N σ' H' → ∃ m', m' < m ∧ W (i + 1) m' σ' H') ∧
      ∀ x H3, (Itr lo n).yld i H2 x H3 → g x σ1 H3 fun σ2 H4 => tc σ2 H4 fun b H5 => if b = true then te σ2 H5 fun y H6 => ∃ ys, H6 D = some (.lst ys) ∧ ys.length < sizeLine ∧ N σ2 (upd H6 D (.lst (ys ++ [y]))) else N σ2 H5) := by
  refine ⟨fun i m σ H => m = n - i ∧ i ≤ n ∧ Pv i σ H, ⟨n, by simp, Nat.zero_le _, h0⟩, ?_⟩
  rintro i m σ1 H2 ⟨rfl, hi, p⟩
  by_cases hlt : i < n
  · refine .inr ⟨hlt, Pv (i + 1), fun σ' H' p' => ⟨n - (i + 1), by omega, rfl, hlt, p'⟩, fun x H' y => ?_⟩
    obtain ⟨e, y⟩ := y
    subst e y
    exact hs i σ1 _ hlt p
  · have e : i = n := by omega
    subst e
    exact .inl ⟨Nat.le_refl _, hd σ1 H2 p⟩
/-- over a list that stays -/
theorem comp_list {K : PySem.W.Frag} {a : Addr} {xs : List V} {j : Nat} {g : TG} {tc : TT} {te : TE} {Q : VK} {σ : St} {H : Hp} {D : Addr} (Pv : Nat → St → Hp → Prop) (h0 : Pv 0 (σ ++ List.replicate j none) (upd H D (.lst [])))
    (hl : ∀ i σ H, i ≤ xs.length → Pv i σ H → SqL K H a xs)
    (hs : ∀ i x σ1 H1, xs[i]? = some x → Pv i σ1 H1 → g x σ1 H1 fun σ2 H4 => tc σ2 H4 fun b H5 => if b = true then te σ2 H5 fun y H6 => ∃ ys, H6 D = some (.lst ys) ∧ ys.length < sizeLine ∧ Pv (i + 1) σ2 (upd H6 D (.lst (ys ++ [y]))) else Pv (i + 1) σ2 H5)
    (hd : ∀ σ1 H1, Pv xs.length σ1 H1 → Q (.ref D) H1) :
    ∃ W : Nat → Nat → St → Hp → Prop, (∃ m, W 0 m (σ ++ List.replicate j none) (upd H D (.lst []))) ∧ ∀ i m σ1 H2, W i m σ1 H2 →
    ((Itl K a).stop i H2 ∧ Q (.ref D) H2) ∨ ((Itl K a).go i H2 ∧ ∃ N : St → Hp → Prop, (∀ σ' H', N σ' H' → ∃ m', m' < m ∧ W (i + 1) m' σ' H') ∧
      ∀ x H3, (Itl K a).yld i H2 x H3 → g x σ1 H3 fun σ2 H4 => tc σ2 H4 fun b H5 => if b = true then te σ2 H5 fun y H6 => ∃ ys, H6 D = some (.lst ys) ∧ ys.length < sizeLine ∧ N σ2 (upd H6 D (.lst (ys ++ [y]))) else N σ2 H5) := by
  refine ⟨fun i m σ H => m = xs.length - i ∧ i ≤ xs.length ∧ Pv i σ H, ⟨xs.length, by simp, Nat.zero_le _, h0⟩, ?_⟩
  rintro i m σ1 H2 ⟨rfl, hi, p⟩
  have q := hl i σ1 H2 hi p
  by_cases hlt : i < xs.length
  · refine .inr ⟨⟨xs, xs[i], q, by simp [hlt]⟩, Pv (i + 1), fun σ' H' p' => ⟨xs.length - (i + 1), by omega, rfl, hlt, p'⟩, fun x H' y => ?_⟩
    obtain ⟨e, y⟩ := y
    subst e
    exact hs i x σ1 _ (y xs q) p
  · have e : i = xs.length := by omega
    subst e
    exact .inl ⟨⟨xs, q, Nat.le_refl _⟩, hd σ1 H2 p⟩

/-! #### isinstance of one built-in class -/
def rIsi (K : PySem.W.Frag) : List V → Hp → VK → Prop := fun xs H Q => ∃ x T t b, xs = [x, .ty T] ∧ TyOf K H x t ∧ PySem.W.kitOne K t (.type T) = some b ∧ Q (.bl b) H
theorem call_isi {X : Cx} : CallR X (.builtin "isinstance") (rIsi X.K) := by
  intro pins s σ H xs us Q I r h
  obtain ⟨x, T, t, b, rfl, ty, e, q⟩ := h
  obtain ⟨u, v, rfl, rx, ry⟩ := r.two
  obtain rfl : v = Value.type T := ry
  exact isinst_ok I rx ty e fun tk => ⟨.bl b, H, I.tok _, rfl, q⟩

/-! #### a def of the text, known by its name -/
structure Cal (P : Program) (w : World) (K : PySem.W.Frag) (mg : Str → Option Value) (base : Heap) (CX : CXT) (k : Nat) (x : Str) (ps : List Str) (sp : Sp) : Prop where
  no : ∀ outer H s e s', CX outer H s E0 e s' → False
  ex : ∃ f fd, FnOk P w K mg base CX k f fd ps sp ∧ Binds K fd ps [] ∧ PySem.W.keepIn K (.ref f) = true ∧ mg x = some (.ref f)
theorem Cal.mk' {P : Program} {w : World} {K : PySem.W.Frag} {mg : Str → Option Value} {base : Heap} {CX : CXT} {k j : Nat} {x : Str} {ps : List Str} {sp : Sp} {f : Addr} {fd : FuncData} (no : ∀ outer H s e s', CX outer H s E0 e s' → False) (F : FnOk P w K mg base CX k f fd ps sp) (hb : Binds K fd ps [])
    (hk : PySem.W.keepIn K (.ref f) = true) (hm : mg x = some (.ref f)) (h : k ≤ j) : Cal P w K mg base CX j x ps sp := ⟨no, f, fd, F.mono h, hb, hk, hm⟩
theorem pe_cal {X : Cx} {CX : CXT} {k : Nat} {x : Str} {ps : List Str} {sp : Sp} {p pos : Pos} {e : Expr} {es : List Expr} {t : TA} (C : Cal X.prog X.w X.K X.mg X.base CX k x ps sp) (hr : Room k X.A) (hg : Gl X x) (ha : PA X (e :: es) t)
    (hdb : (x == ("__debug__" : Str)) = false := by decide) (he : starEach (e :: es) X.env = (false, eval e X.env) :: starEach es X.env := by rfl) (hpl : (backTo pos (starEach es X.env)).any (·.1) = false := by rfl) :
    PE X (.Call (.Name x p) (e :: es) [] pos) (tCall sp [] E0 t) := by
  obtain ⟨f, fd, F, hb, hk, hm⟩ := C.ex
  exact pe_call F hr hg hm hk hb .nil (fun _ _ _ _ _ _ _ h => (C.no _ _ _ _ _ h).elim) ha hdb he hpl
end Q2
namespace Q2
open PySem PySem.Spec PyProof.Rows L2

/-! #### the readings, applied: each an equation for simp -/
theorem tVar0 {v : V} {σ : St} {H : Hp} {Q : VK} : tVar 0 (some v :: σ) H Q = Q v H := by simp [tVar]
theorem tVar1 {x0 : Option V} {v : V} {σ : St} {H : Hp} {Q : VK} : tVar 1 (x0 :: some v :: σ) H Q = Q v H := by simp [tVar]
theorem tVar2 {x0 x1 : Option V} {v : V} {σ : St} {H : Hp} {Q : VK} : tVar 2 (x0 :: x1 :: some v :: σ) H Q = Q v H := by simp [tVar]
theorem tVar3 {x0 x1 x2 : Option V} {v : V} {σ : St} {H : Hp} {Q : VK} : tVar 3 (x0 :: x1 :: x2 :: some v :: σ) H Q = Q v H := by simp [tVar]
theorem tVar4 {x0 x1 x2 x3 : Option V} {v : V} {σ : St} {H : Hp} {Q : VK} : tVar 4 (x0 :: x1 :: x2 :: x3 :: some v :: σ) H Q = Q v H := by simp [tVar]
theorem tVar5 {x0 x1 x2 x3 x4 : Option V} {v : V} {σ : St} {H : Hp} {Q : VK} : tVar 5 (x0 :: x1 :: x2 :: x3 :: x4 :: some v :: σ) H Q = Q v H := by simp [tVar]
theorem tVar6 {x0 x1 x2 x3 x4 x5 : Option V} {v : V} {σ : St} {H : Hp} {Q : VK} : tVar 6 (x0 :: x1 :: x2 :: x3 :: x4 :: x5 :: some v :: σ) H Q = Q v H := by simp [tVar]
theorem tVar7 {x0 x1 x2 x3 x4 x5 x6 : Option V} {v : V} {σ : St} {H : Hp} {Q : VK} : tVar 7 (x0 :: x1 :: x2 :: x3 :: x4 :: x5 :: x6 :: some v :: σ) H Q = Q v H := by simp [tVar]
theorem tVar8 {x0 x1 x2 x3 x4 x5 x6 x7 : Option V} {v : V} {σ : St} {H : Hp} {Q : VK} : tVar 8 (x0 :: x1 :: x2 :: x3 :: x4 :: x5 :: x6 :: x7 :: some v :: σ) H Q = Q v H := by simp [tVar]
theorem tVar9 {x0 x1 x2 x3 x4 x5 x6 x7 x8 : Option V} {v : V} {σ : St} {H : Hp} {Q : VK} : tVar 9 (x0 :: x1 :: x2 :: x3 :: x4 :: x5 :: x6 :: x7 :: x8 :: some v :: σ) H Q = Q v H := by simp [tVar]
theorem tVar10 {x0 x1 x2 x3 x4 x5 x6 x7 x8 x9 : Option V} {v : V} {σ : St} {H : Hp} {Q : VK} : tVar 10 (x0 :: x1 :: x2 :: x3 :: x4 :: x5 :: x6 :: x7 :: x8 :: x9 :: some v :: σ) H Q = Q v H := by simp [tVar]
theorem tVar11 {x0 x1 x2 x3 x4 x5 x6 x7 x8 x9 x10 : Option V} {v : V} {σ : St} {H : Hp} {Q : VK} : tVar 11 (x0 :: x1 :: x2 :: x3 :: x4 :: x5 :: x6 :: x7 :: x8 :: x9 :: x10 :: some v :: σ) H Q = Q v H := by simp [tVar]
theorem tVar12 {x0 x1 x2 x3 x4 x5 x6 x7 x8 x9 x10 x11 : Option V} {v : V} {σ : St} {H : Hp} {Q : VK} : tVar 12 (x0 :: x1 :: x2 :: x3 :: x4 :: x5 :: x6 :: x7 :: x8 :: x9 :: x10 :: x11 :: some v :: σ) H Q = Q v H := by simp [tVar]
theorem tVar13 {x0 x1 x2 x3 x4 x5 x6 x7 x8 x9 x10 x11 x12 : Option V} {v : V} {σ : St} {H : Hp} {Q : VK} : tVar 13 (x0 :: x1 :: x2 :: x3 :: x4 :: x5 :: x6 :: x7 :: x8 :: x9 :: x10 :: x11 :: x12 :: some v :: σ) H Q = Q v H := by simp [tVar]
theorem tVar14 {x0 x1 x2 x3 x4 x5 x6 x7 x8 x9 x10 x11 x12 x13 : Option V} {v : V} {σ : St} {H : Hp} {Q : VK} : tVar 14 (x0 :: x1 :: x2 :: x3 :: x4 :: x5 :: x6 :: x7 :: x8 :: x9 :: x10 :: x11 :: x12 :: x13 :: some v :: σ) H Q = Q v H := by simp [tVar]
theorem tVar15 {x0 x1 x2 x3 x4 x5 x6 x7 x8 x9 x10 x11 x12 x13 x14 : Option V} {v : V} {σ : St} {H : Hp} {Q : VK} : tVar 15 (x0 :: x1 :: x2 :: x3 :: x4 :: x5 :: x6 :: x7 :: x8 :: x9 :: x10 :: x11 :: x12 :: x13 :: x14 :: some v :: σ) H Q = Q v H := by simp [tVar]
theorem gName0 {y : Option V} {v : V} {σ : St} {H : Hp} {Q : St → Hp → Prop} : gName 0 v (y :: σ) H Q = Q (some v :: σ) H := propext Iff.rfl
theorem gName1 {x0 : Option V} {y : Option V} {v : V} {σ : St} {H : Hp} {Q : St → Hp → Prop} : gName 1 v (x0 :: y :: σ) H Q = Q (x0 :: some v :: σ) H := propext Iff.rfl
theorem gName2 {x0 x1 : Option V} {y : Option V} {v : V} {σ : St} {H : Hp} {Q : St → Hp → Prop} : gName 2 v (x0 :: x1 :: y :: σ) H Q = Q (x0 :: x1 :: some v :: σ) H := propext Iff.rfl
theorem gName3 {x0 x1 x2 : Option V} {y : Option V} {v : V} {σ : St} {H : Hp} {Q : St → Hp → Prop} : gName 3 v (x0 :: x1 :: x2 :: y :: σ) H Q = Q (x0 :: x1 :: x2 :: some v :: σ) H := propext Iff.rfl
theorem gName4 {x0 x1 x2 x3 : Option V} {y : Option V} {v : V} {σ : St} {H : Hp} {Q : St → Hp → Prop} : gName 4 v (x0 :: x1 :: x2 :: x3 :: y :: σ) H Q = Q (x0 :: x1 :: x2 :: x3 :: some v :: σ) H := propext Iff.rfl
theorem gName5 {x0 x1 x2 x3 x4 : Option V} {y : Option V} {v : V} {σ : St} {H : Hp} {Q : St → Hp → Prop} : gName 5 v (x0 :: x1 :: x2 :: x3 :: x4 :: y :: σ) H Q = Q (x0 :: x1 :: x2 :: x3 :: x4 :: some v :: σ) H := propext Iff.rfl
theorem gName6 {x0 x1 x2 x3 x4 x5 : Option V} {y : Option V} {v : V} {σ : St} {H : Hp} {Q : St → Hp → Prop} : gName 6 v (x0 :: x1 :: x2 :: x3 :: x4 :: x5 :: y :: σ) H Q = Q (x0 :: x1 :: x2 :: x3 :: x4 :: x5 :: some v :: σ) H := propext Iff.rfl
theorem gName7 {x0 x1 x2 x3 x4 x5 x6 : Option V} {y : Option V} {v : V} {σ : St} {H : Hp} {Q : St → Hp → Prop} : gName 7 v (x0 :: x1 :: x2 :: x3 :: x4 :: x5 :: x6 :: y :: σ) H Q = Q (x0 :: x1 :: x2 :: x3 :: x4 :: x5 :: x6 :: some v :: σ) H := propext Iff.rfl
theorem gName8 {x0 x1 x2 x3 x4 x5 x6 x7 : Option V} {y : Option V} {v : V} {σ : St} {H : Hp} {Q : St → Hp → Prop} : gName 8 v (x0 :: x1 :: x2 :: x3 :: x4 :: x5 :: x6 :: x7 :: y :: σ) H Q = Q (x0 :: x1 :: x2 :: x3 :: x4 :: x5 :: x6 :: x7 :: some v :: σ) H := propext Iff.rfl
theorem gName9 {x0 x1 x2 x3 x4 x5 x6 x7 x8 : Option V} {y : Option V} {v : V} {σ : St} {H : Hp} {Q : St → Hp → Prop} : gName 9 v (x0 :: x1 :: x2 :: x3 :: x4 :: x5 :: x6 :: x7 :: x8 :: y :: σ) H Q = Q (x0 :: x1 :: x2 :: x3 :: x4 :: x5 :: x6 :: x7 :: x8 :: some v :: σ) H := propext Iff.rfl
theorem gName10 {x0 x1 x2 x3 x4 x5 x6 x7 x8 x9 : Option V} {y : Option V} {v : V} {σ : St} {H : Hp} {Q : St → Hp → Prop} : gName 10 v (x0 :: x1 :: x2 :: x3 :: x4 :: x5 :: x6 :: x7 :: x8 :: x9 :: y :: σ) H Q = Q (x0 :: x1 :: x2 :: x3 :: x4 :: x5 :: x6 :: x7 :: x8 :: x9 :: some v :: σ) H := propext Iff.rfl
theorem gName11 {x0 x1 x2 x3 x4 x5 x6 x7 x8 x9 x10 : Option V} {y : Option V} {v : V} {σ : St} {H : Hp} {Q : St → Hp → Prop} : gName 11 v (x0 :: x1 :: x2 :: x3 :: x4 :: x5 :: x6 :: x7 :: x8 :: x9 :: x10 :: y :: σ) H Q = Q (x0 :: x1 :: x2 :: x3 :: x4 :: x5 :: x6 :: x7 :: x8 :: x9 :: x10 :: some v :: σ) H := propext Iff.rfl
theorem gName12 {x0 x1 x2 x3 x4 x5 x6 x7 x8 x9 x10 x11 : Option V} {y : Option V} {v : V} {σ : St} {H : Hp} {Q : St → Hp → Prop} : gName 12 v (x0 :: x1 :: x2 :: x3 :: x4 :: x5 :: x6 :: x7 :: x8 :: x9 :: x10 :: x11 :: y :: σ) H Q = Q (x0 :: x1 :: x2 :: x3 :: x4 :: x5 :: x6 :: x7 :: x8 :: x9 :: x10 :: x11 :: some v :: σ) H := propext Iff.rfl
theorem gName13 {x0 x1 x2 x3 x4 x5 x6 x7 x8 x9 x10 x11 x12 : Option V} {y : Option V} {v : V} {σ : St} {H : Hp} {Q : St → Hp → Prop} : gName 13 v (x0 :: x1 :: x2 :: x3 :: x4 :: x5 :: x6 :: x7 :: x8 :: x9 :: x10 :: x11 :: x12 :: y :: σ) H Q = Q (x0 :: x1 :: x2 :: x3 :: x4 :: x5 :: x6 :: x7 :: x8 :: x9 :: x10 :: x11 :: x12 :: some v :: σ) H := propext Iff.rfl
theorem gName14 {x0 x1 x2 x3 x4 x5 x6 x7 x8 x9 x10 x11 x12 x13 : Option V} {y : Option V} {v : V} {σ : St} {H : Hp} {Q : St → Hp → Prop} : gName 14 v (x0 :: x1 :: x2 :: x3 :: x4 :: x5 :: x6 :: x7 :: x8 :: x9 :: x10 :: x11 :: x12 :: x13 :: y :: σ) H Q = Q (x0 :: x1 :: x2 :: x3 :: x4 :: x5 :: x6 :: x7 :: x8 :: x9 :: x10 :: x11 :: x12 :: x13 :: some v :: σ) H := propext Iff.rfl
theorem gName15 {x0 x1 x2 x3 x4 x5 x6 x7 x8 x9 x10 x11 x12 x13 x14 : Option V} {y : Option V} {v : V} {σ : St} {H : Hp} {Q : St → Hp → Prop} : gName 15 v (x0 :: x1 :: x2 :: x3 :: x4 :: x5 :: x6 :: x7 :: x8 :: x9 :: x10 :: x11 :: x12 :: x13 :: x14 :: y :: σ) H Q = Q (x0 :: x1 :: x2 :: x3 :: x4 :: x5 :: x6 :: x7 :: x8 :: x9 :: x10 :: x11 :: x12 :: x13 :: x14 :: some v :: σ) H := propext Iff.rfl
section
variable {t u : TS} {c : TT} {D : Ends} {σ : St} {H : Hp} {te ta tb : TE} {tA tB' : TT} {g : TG} {K : PySem.W.Frag} {Q : VK} {QB : Bool → Hp → Prop} {QA : List V → Hp → Prop} {as : TA}
theorem tNext_ap : tNext D σ H = D.nx σ H := propext Iff.rfl
theorem tSeq_ap : tSeq t u D σ H = t { D with nx := u D } σ H := propext Iff.rfl
theorem tBreak_ap : tBreak D σ H = D.bk σ H := propext Iff.rfl
theorem tCont_ap : tCont D σ H = D.ct σ H := propext Iff.rfl
theorem tDrop_ap : tDrop te D σ H = te σ H fun _ H1 => D.nx σ H1 := propext Iff.rfl
theorem tRet_ap : tRet te D σ H = te σ H D.rt := propext Iff.rfl
theorem tRetN_ap : tRetN D σ H = D.rt .non H := propext Iff.rfl
theorem tNever_ap : tNever D σ H = False := propext Iff.rfl
theorem tIfS_ap : tIfS c t u D σ H = c σ H fun b H1 => if b = true then t D σ H1 else u D σ H1 := propext Iff.rfl
theorem tAsg_ap : tAsg te g D σ H = te σ H fun x H1 => g x σ H1 D.nx := propext Iff.rfl
theorem tC_ap {v : V} : tC v σ H Q = Q v H := propext Iff.rfl
theorem tOp_ap {r : R2} : tOp r ta tb σ H Q = ta σ H fun x H1 => tb σ H1 fun y H2 => r x y H2 Q := propext Iff.rfl
theorem tUn_ap {r : V → Hp → VK → Prop} : tUn r ta σ H Q = ta σ H fun x H1 => r x H1 Q := propext Iff.rfl
theorem rI0_ap {f : Int → Int → V} {i j : Int} : rI0 f (.int i) (.int j) H Q = Q (f i j) H := by
  simp [rI0]
theorem rI_ap {C : Int → Int → Prop} {f : Int → Int → V} {i j : Int} : rI C f (.int i) (.int j) H Q = (C i j ∧ Q (f i j) H) := by
  simp [rI]
theorem rU_ap {f : Int → V} {i : Int} : rU f (.int i) H Q = Q (f i) H := by
  simp [rU]
theorem rEq_ap {i j : Int} : rEq (.int i) (.int j) H Q = Q (.bl (decide (i = j))) H := by
  simp [rEq, scal]
theorem rNe_ap {i j : Int} : rNe (.int i) (.int j) H Q = Q (.bl (!decide (i = j))) H := by
  simp [rNe, scal]
theorem rEqB_ap {i j : Bool} : rEq (.bl i) (.bl j) H Q = Q (.bl (decide (i = j))) H := by
  simp [rEq, scal]
theorem rNeB_ap {i j : Bool} : rNe (.bl i) (.bl j) H Q = Q (.bl (!decide (i = j))) H := by
  simp [rNe, scal]
theorem tTest_ap : tTest te σ H QB = te σ H fun x H1 => ∃ k, x = .bl k ∧ QB k H1 := propext Iff.rfl
theorem tB_ap : tB te σ H QB = te σ H fun x H1 => ∃ k, x = .bl k ∧ QB k H1 := propext Iff.rfl
theorem exBl {b : Bool} : (∃ k, V.bl b = V.bl k ∧ QB k H) = QB b H := by
  simp
theorem tAnd_ap : tAnd tA tB' σ H QB = tA σ H fun c H1 => if c = true then tB' σ H1 QB else QB false H1 := propext Iff.rfl
theorem tOr_ap : tOr tA tB' σ H QB = tA σ H fun c H1 => if c = true then QB true H1 else tB' σ H1 QB := propext Iff.rfl
theorem tNot_ap : tNot tA σ H QB = tA σ H fun c H1 => QB (!c) H1 := propext Iff.rfl
theorem tAndV_ap : tAndV ta tb σ H Q = ta σ H fun x H1 => ∃ c, x = .bl c ∧ if c = true then tb σ H1 Q else Q (.bl false) H1 := propext Iff.rfl
theorem tOrV_ap : tOrV ta tb σ H Q = ta σ H fun x H1 => ∃ c, x = .bl c ∧ if c = true then Q (.bl true) H1 else tb σ H1 Q := propext Iff.rfl
theorem tNotV_ap : tNotV ta σ H Q = ta σ H fun x H1 => ∃ c, x = .bl c ∧ Q (.bl (!c)) H1 := propext Iff.rfl
theorem exBlV {b : Bool} {P : Bool → Prop} : (∃ k, V.bl b = V.bl k ∧ P k) = P b := by
  simp
theorem tIf_ap : tIf tA ta tb σ H Q = tA σ H fun c H1 => if c = true then ta σ H1 Q else tb σ H1 Q := propext Iff.rfl
theorem tNil_ap : tNil σ H QA = QA [] H := propext Iff.rfl
theorem tCons_ap : tCons ta as σ H QA = ta σ H fun x H1 => as σ H1 fun xs H2 => QA (x :: xs) H2 := propext Iff.rfl
theorem tTup_ap : tTup as σ H Q = as σ H fun xs H1 => xs.length ≤ sizeLine ∧ ∀ p, H1 p = none → Q (.ref p) (upd H1 p (.tup xs)) := propext Iff.rfl
theorem tLst_ap : tLst as σ H Q = as σ H fun xs H1 => xs.length ≤ sizeLine ∧ ∀ p, H1 p = none → Q (.ref p) (upd H1 p (.lst xs)) := propext Iff.rfl
theorem tCall_ap {sp : Sp} {dvs : List V} {E : XK} : tCall sp dvs E as σ H Q = as σ H fun vs H1 => sp (vs ++ dvs) H1 Q E := propext Iff.rfl
theorem tCB_ap {r : List V → Hp → VK → Prop} : tCB r as σ H Q = as σ H fun vs H1 => r vs H1 Q := propext Iff.rfl
theorem tBM_ap {T : String} {r : V → List V → Hp → VK → Prop} : tBM K T r ta as σ H Q = ta σ H fun x H1 => tyV K T x H1 ∧ as σ H1 fun xs H2 => r x xs H2 Q := propext Iff.rfl
theorem tBM0_ap {T : String} {r : V → List V → Hp → VK → Prop} : tBM0 K T r ta σ H Q = ta σ H fun x H1 => tyV K T x H1 ∧ r x [] H1 Q := propext Iff.rfl
theorem gSub_ap {ti : TE} {ts : TSet} {v : V} {QS : St → Hp → Prop} : gSub ta ti ts v σ H QS = ta σ H fun o H1 => ti σ H1 fun i H2 => ts o i v H2 fun H3 => QS σ H3 := propext Iff.rfl
theorem rAppend_ap {l : Addr} {y : V} : rAppend (.ref l) [y] H Q = ∃ xs, H l = some (.lst xs) ∧ xs.length < sizeLine ∧ Q .non (upd H l (.lst (xs ++ [y]))) := by
  unfold rAppend
  apply propext
  constructor
  · rintro ⟨l', xs, y', e1, e2, h1, h2, h3⟩
    cases e1
    cases e2
    exact ⟨xs, h1, h2, h3⟩
  · rintro ⟨xs, h1, h2, h3⟩
    exact ⟨l, xs, y, rfl, rfl, h1, h2, h3⟩
theorem rIxL_ap {p : Addr} {i : Int} : rIxL K (.ref p) (.int i) H Q = ∃ xs v, SqL K H p xs ∧ atI xs i = some v ∧ Q v H := by
  unfold rIxL
  apply propext
  constructor
  · rintro ⟨p', xs, i', v, e1, e2, h1, h2, h3⟩
    cases e1
    cases e2
    exact ⟨xs, v, h1, h2, h3⟩
  · rintro ⟨xs, v, h1, h2, h3⟩
    exact ⟨p, xs, i, v, rfl, rfl, h1, h2, h3⟩
theorem rIxT_ap {p : Addr} {i : Int} : rIxT K (.ref p) (.int i) H Q = ∃ xs v, SqT K H p xs ∧ atI xs i = some v ∧ Q v H := by
  unfold rIxT
  apply propext
  constructor
  · rintro ⟨p', xs, i', v, e1, e2, h1, h2, h3⟩
    cases e1
    cases e2
    exact ⟨xs, v, h1, h2, h3⟩
  · rintro ⟨xs, v, h1, h2, h3⟩
    exact ⟨p, xs, i, v, rfl, rfl, h1, h2, h3⟩
theorem rSetL_ap {p : Addr} {k : Int} {v : V} {QH : Hp → Prop} : rSetL (.ref p) (.int k) v H QH = ∃ xs j, H p = some (.lst xs) ∧ ixN xs.length k = some j ∧ QH (upd H p (.lst (xs.set j v))) := by
  unfold rSetL
  apply propext
  constructor
  · rintro ⟨p', xs, k', j, e1, e2, h1, h2, h3⟩
    cases e1
    cases e2
    exact ⟨xs, j, h1, h2, h3⟩
  · rintro ⟨xs, j, h1, h2, h3⟩
    exact ⟨p, xs, k, j, rfl, rfl, h1, h2, h3⟩
theorem rIsi_ap {x : V} {T : String} : rIsi K [x, .ty T] H Q = ∃ t b, TyOf K H x t ∧ PySem.W.kitOne K t (.type T) = some b ∧ Q (.bl b) H := by
  unfold rIsi
  apply propext
  constructor
  · rintro ⟨x', T', t, b, e, h1, h2, h3⟩
    cases e
    exact ⟨t, b, h1, h2, h3⟩
  · rintro ⟨t, b, h1, h2, h3⟩
    exact ⟨x, T, t, b, rfl, h1, h2, h3⟩
end
/-! #### loops, with their parts kept closed -/
def ForR (lo : Int) (n : Nat) (g : TG) (tb : TS) (D : Ends) (σ : St) (H : Hp) : Prop := ∃ W : Nat → Nat → St → Hp → Prop, (∃ m, W 0 m σ H) ∧ ∀ i m σ H, W i m σ H →
  ((Itr lo n).stop i H ∧ D.nx σ H) ∨ ((Itr lo n).go i H ∧ ∃ N : St → Hp → Prop, (∀ σ' H', N σ' H' → ∃ m', m' < m ∧ W (i + 1) m' σ' H') ∧ ∀ x H', (Itr lo n).yld i H x H' → g x σ H' fun σ2 H2 => tb { D with nx := N, ct := N, bk := D.nx } σ2 H2)
theorem tFor1_ap {ta : TA} {g : TG} {tb : TS} {D : Ends} {σ : St} {H : Hp} : tFor (iRng1 ta) g tb D σ H = ta σ H fun vs H1 => ∃ j : Int, vs = [.int j] ∧ -(2 ^ 62) ≤ j ∧ j < 2 ^ 62 ∧ ForR 0 j.toNat g tb D σ H1 := propext Iff.rfl
theorem tFor2_ap {ta : TA} {g : TG} {tb : TS} {D : Ends} {σ : St} {H : Hp} : tFor (iRng2 ta) g tb D σ H = ta σ H fun vs H1 => ∃ i j : Int, vs = [.int i, .int j] ∧ (-(2 ^ 62) ≤ i ∧ i < 2 ^ 62 ∧ -(2 ^ 62) ≤ j ∧ j < 2 ^ 62) ∧ ForR i (j - i).toNat g tb D σ H1 := propext Iff.rfl
theorem ForR.of {lo : Int} {n : Nat} {g : TG} {tb : TS} {D : Ends} {σ : St} {H : Hp} (Pv : Nat → St → Hp → Prop) (h0 : Pv 0 σ H)
    (hs : ∀ i σ H, i < n → Pv i σ H → ∀ U : St → Hp → Prop, (∀ σ' H', Pv (i + 1) σ' H' → U σ' H') → g (.int (lo + i)) σ H fun σ2 H2 => tb { D with nx := U, ct := U, bk := D.nx } σ2 H2) (hd : ∀ σ H, Pv n σ H → D.nx σ H) : ForR lo n g tb D σ H :=
  for_range Pv h0 (fun i σ H hi p => hs i σ H hi p _ fun _ _ h => h) hd
def ForL (K : PySem.W.Frag) (a : Addr) (g : TG) (tb : TS) (D : Ends) (σ : St) (H : Hp) : Prop := ∃ W : Nat → Nat → St → Hp → Prop, (∃ m, W 0 m σ H) ∧ ∀ i m σ H, W i m σ H →
  ((Itl K a).stop i H ∧ D.nx σ H) ∨ ((Itl K a).go i H ∧ ∃ N : St → Hp → Prop, (∀ σ' H', N σ' H' → ∃ m', m' < m ∧ W (i + 1) m' σ' H') ∧ ∀ x H', (Itl K a).yld i H x H' → g x σ H' fun σ2 H2 => tb { D with nx := N, ct := N, bk := D.nx } σ2 H2)
theorem tForL_ap {K : PySem.W.Frag} {tl : TE} {g : TG} {tb : TS} {D : Ends} {σ : St} {H : Hp} : tFor (iList K tl) g tb D σ H = tl σ H fun x H1 => ∃ a, x = .ref a ∧ (∃ xs, SqL K H1 a xs) ∧ ForL K a g tb D σ H1 := propext Iff.rfl
theorem ForL.of {K : PySem.W.Frag} {a : Addr} {xs : List V} {g : TG} {tb : TS} {D : Ends} {σ : St} {H : Hp} (Pv : Nat → St → Hp → Prop) (h0 : Pv 0 σ H) (hl : ∀ i σ H, i ≤ xs.length → Pv i σ H → SqL K H a xs)
    (hs : ∀ i x σ H, xs[i]? = some x → Pv i σ H → ∀ U : St → Hp → Prop, (∀ σ' H', Pv (i + 1) σ' H' → U σ' H') → g x σ H fun σ2 H2 => tb { D with nx := U, ct := U, bk := D.nx } σ2 H2) (hd : ∀ σ H, Pv xs.length σ H → D.nx σ H) : ForL K a g tb D σ H :=
  for_list Pv h0 hl (fun i x σ H hi p => hs i x σ H hi p _ fun _ _ h => h) hd
theorem exRef {p : Addr} {P : Addr → Prop} : (∃ a, V.ref p = V.ref a ∧ P a) = P p := by
  simp
theorem ex1I {v : Int} {P : Int → Prop} : (∃ j, [V.int v] = [V.int j] ∧ P j) = P v := by
  simp
theorem ex2I {v w : Int} {P : Int → Int → Prop} : (∃ i j, [V.int v, V.int w] = [V.int i, V.int j] ∧ P i j) = P v w := by
  apply propext
  constructor
  · rintro ⟨i, j, e, h⟩
    cases e
    exact h
  · intro h
    exact ⟨v, w, rfl, h⟩
def NextW (W : Nat → St → Hp → Prop) (m : Nat) (tb : TS) (D : Ends) (σ : St) (H : Hp) : Prop := ∃ N : St → Hp → Prop, (∀ σ' H', N σ' H' → ∃ m', m' < m ∧ W m' σ' H') ∧ tb { D with nx := N, ct := N, bk := D.nx } σ H
theorem NextW.of {W : Nat → St → Hp → Prop} {m : Nat} {tb : TS} {D : Ends} {σ : St} {H : Hp} (h : ∀ U : St → Hp → Prop, (∀ m' σ' H', m' < m → W m' σ' H' → U σ' H') → tb { D with nx := U, ct := U, bk := D.nx } σ H) : NextW W m tb D σ H :=
  ⟨fun σ' H' => ∃ m', m' < m ∧ W m' σ' H', fun _ _ h => h, h _ fun m' _ _ h1 h2 => ⟨m', h1, h2⟩⟩
theorem While.of {c : TT} {tb : TS} {D : Ends} {σ : St} {H : Hp} (W : Nat → St → Hp → Prop) (m : Nat) (h0 : W m σ H) (hs : ∀ m σ H, W m σ H → c σ H fun b H1 => if b = true then NextW W m tb D σ H1 else D.nx σ H1) : tWhile c tb D σ H :=
  ⟨W, ⟨m, h0⟩, hs⟩
/-- a comprehension, kept closed -/
def CompR (lo : Int) (n j : Nat) (g : TG) (tc : TT) (te : TE) (σ : St) (H : Hp) (Q : VK) : Prop := ∀ D, H D = none → ∃ W : Nat → Nat → St → Hp → Prop, (∃ m, W 0 m (σ ++ List.replicate j none) (upd H D (.lst []))) ∧ ∀ i m σ1 H2, W i m σ1 H2 →
    ((Itr lo n).stop i H2 ∧ Q (.ref D) H2) ∨ ((Itr lo n).go i H2 ∧ ∃ N : St → Hp → Prop, (∀ σ' H', N σ' H' → ∃ m', m' < m ∧ W (i + 1) m' σ' H') ∧
      ∀ x H3, (Itr lo n).yld i H2 x H3 → g x σ1 H3 fun σ2 H4 => tc σ2 H4 fun b H5 => if b = true then te σ2 H5 fun y H6 => ∃ ys, H6 D = some (.lst ys) ∧ ys.length < sizeLine ∧ N σ2 (upd H6 D (.lst (ys ++ [y]))) else N σ2 H5)
theorem tComp1_ap {ta : TA} {j : Nat} {g : TG} {tc : TT} {te : TE} {σ : St} {H : Hp} {Q : VK} : tComp (iRng1 ta) j g tc te σ H Q = ta σ H fun vs H1 => ∃ k : Int, vs = [.int k] ∧ -(2 ^ 62) ≤ k ∧ k < 2 ^ 62 ∧ CompR 0 k.toNat j g tc te σ H1 Q := propext Iff.rfl
theorem tComp2_ap {ta : TA} {j : Nat} {g : TG} {tc : TT} {te : TE} {σ : St} {H : Hp} {Q : VK} : tComp (iRng2 ta) j g tc te σ H Q = ta σ H fun vs H1 => ∃ i k : Int, vs = [.int i, .int k] ∧ (-(2 ^ 62) ≤ i ∧ i < 2 ^ 62 ∧ -(2 ^ 62) ≤ k ∧ k < 2 ^ 62) ∧ CompR i (k - i).toNat j g tc te σ H1 Q := propext Iff.rfl
/-- the turn of a comprehension whose element leaves the heap as it is: what is put behind the list, if anything -/
theorem CompR.of {lo : Int} {n j : Nat} {g : TG} {tc : TT} {te : TE} {σ : St} {H : Hp} {Q : VK} (Pv : Addr → Nat → St → Hp → Prop) (h0 : ∀ D, H D = none → Pv D 0 (σ ++ List.replicate j none) (upd H D (.lst [])))
    (hs : ∀ D, H D = none → ∀ i σ1 H1, i < n → Pv D i σ1 H1 → ∀ U : St → Hp → Prop, (∀ σ' H', Pv D (i + 1) σ' H' → U σ' H') → g (.int (lo + i)) σ1 H1 fun σ2 H4 => tc σ2 H4 fun b H5 => if b = true then te σ2 H5 fun y H6 => ∃ ys, H6 D = some (.lst ys) ∧ ys.length < sizeLine ∧ U σ2 (upd H6 D (.lst (ys ++ [y]))) else U σ2 H5)
    (hd : ∀ D, H D = none → ∀ σ1 H1, Pv D n σ1 H1 → Q (.ref D) H1) : CompR lo n j g tc te σ H Q := fun D hD => comp_range (Pv D) (h0 D hD) (fun i σ1 H1 hi p => hs D hD i σ1 H1 hi p _ fun _ _ h => h) (hd D hD)
theorem tYes_ap {σ : St} {H : Hp} {QB : Bool → Hp → Prop} : tYes σ H QB = QB true H := propext Iff.rfl
/-- a def's entry, the names' values written out -/
theorem begin_ {t : TS} {D : Ends} {σ σ' : St} {H : Hp} (e : σ = σ') (h : t D σ' H) : t D σ H := by
  subst e
  exact h
/-- what stands between two statements, said once -/
theorem seq_cut {t u : TS} {D : Ends} {σ : St} {H : Hp} (R : St → Hp → Prop) (h2 : ∀ σ H, R σ H → u D σ H) (h1 : ∀ U : St → Hp → Prop, (∀ σ H, R σ H → U σ H) → t { D with nx := U } σ H) : tSeq t u D σ H := h1 (u D) h2
theorem atI_mem {α : Type} {xs : List α} {i : Int} (h0 : 0 ≤ i) (h1 : i < xs.length) : ∃ v, atI xs i = some v ∧ v ∈ xs := by
  have hk : i.toNat < xs.length := by omega
  have ek : ((i.toNat : Nat) : Int) = i := by omega
  have q := atI_nat (List.getElem?_eq_getElem hk)
  rw [ek] at q
  exact ⟨xs[i.toNat], q, List.getElem_mem hk⟩
theorem isi_int_int (K : PySem.W.Frag) : PySem.W.kitOne K (.type "int") (.type "int") = some true := by kernel_rfl
theorem isi_int_bool (K : PySem.W.Frag) : PySem.W.kitOne K (.type "int") (.type "bool") = some false := by kernel_rfl
theorem isi_list_list (K : PySem.W.Frag) : PySem.W.kitOne K (.type "list") (.type "list") = some true := by kernel_rfl
theorem isi_tuple_tuple (K : PySem.W.Frag) : PySem.W.kitOne K (.type "tuple") (.type "tuple") = some true := by kernel_rfl
section
variable {σ : St} {H : Hp} {Q : VK} {K : PySem.W.Frag}
theorem tSl_ap {r : V → Option Int → Option Int → Hp → VK → Prop} {te : TE} {tl th : TO} : tSl r te tl th σ H Q = te σ H fun x H1 => tl σ H1 fun l H2 => th σ H2 fun u H3 => r x l u H3 Q := propext Iff.rfl
theorem tNoPart_ap {QO : Option Int → Hp → Prop} : tNoPart σ H QO = QO none H := propext Iff.rfl
theorem tPart_ap {te : TE} {QO : Option Int → Hp → Prop} : tPart te σ H QO = te σ H fun x H1 => ∃ i, x = .int i ∧ QO (some i) H1 := propext Iff.rfl
theorem exInt {i : Int} {P : Int → Prop} : (∃ k, V.int i = V.int k ∧ P k) = P i := by
  simp
theorem rSlL_ap {a : Addr} {lo hi : Option Int} : rSlL K (.ref a) lo hi H Q = ∃ xs, SqL K H a xs ∧ ∀ p, H p = none → Q (.ref p) (upd H p (.lst (cutV xs lo hi))) := by
  unfold rSlL
  apply propext
  constructor
  · rintro ⟨a', xs, e, h⟩
    cases e
    exact ⟨xs, h⟩
  · rintro ⟨xs, h⟩
    exact ⟨a, xs, rfl, h⟩
theorem cut_to {xs : List V} {m : Nat} : cutV xs none (some (m : Int)) = xs.take m := by
  unfold cutV
  rw [HT.sIx_none, HT.sIx_nat, List.drop_zero, Nat.sub_zero]
  rcases Nat.le_total m xs.length with h | h
  · rw [Nat.min_eq_left h]
  · rw [Nat.min_eq_right h, List.take_length, List.take_of_length_le h]
end
/-! #### arguments are no starred ones, by the kind of the expression -/
section
variable {env : Env} {es : List Expr} {pos : Pos}
theorem star_c {c : Const} {k : Nat} {p : Pos} : starEach (.Constant c k p :: es) env = (false, eval (.Constant c k p) env) :: starEach es env := by rfl
theorem star_n {x : Str} {p : Pos} : starEach (.Name x p :: es) env = (false, eval (.Name x p) env) :: starEach es env := by rfl
theorem star_b {a b : Expr} {op : Operator} {p : Pos} : starEach (.BinOp a op b p :: es) env = (false, eval (.BinOp a op b p) env) :: starEach es env := by rfl
theorem star_u {a : Expr} {op : UnaryOp} {p : Pos} : starEach (.UnaryOp op a p :: es) env = (false, eval (.UnaryOp op a p) env) :: starEach es env := by rfl
theorem star_call {f : Expr} {as : List Expr} {ks : List Keyword} {p : Pos} : starEach (.Call f as ks p :: es) env = (false, eval (.Call f as ks p) env) :: starEach es env := by rfl
theorem star_s {a b : Expr} {p : Pos} : starEach (.Subscript a b p :: es) env = (false, eval (.Subscript a b p) env) :: starEach es env := by rfl
theorem star_l {as : List Expr} {p : Pos} : starEach (.List as p :: es) env = (false, eval (.List as p) env) :: starEach es env := by rfl
theorem star_t {as : List Expr} {k : Nat} {p : Pos} : starEach (.Tuple as k p :: es) env = (false, eval (.Tuple as k p) env) :: starEach es env := by rfl
theorem star_cmp {a : Expr} {ops : List CmpOp} {cs : List Expr} {p : Pos} : starEach (.Compare a ops cs p :: es) env = (false, eval (.Compare a ops cs p) env) :: starEach es env := by rfl
theorem star_lc {a : Expr} {g : List Comprehension} {sc : Scope} {p : Pos} : starEach (.ListComp a g sc p :: es) env = (false, eval (.ListComp a g sc p) env) :: starEach es env := by rfl
theorem star_if {a b c : Expr} {p : Pos} : starEach (.IfExp a b c p :: es) env = (false, eval (.IfExp a b c p) env) :: starEach es env := by rfl
theorem any0 : (backTo pos (starEach [] env)).any (·.1) = false := by rfl
theorem anyS {e : Expr} (h : starEach (e :: es) env = (false, eval e env) :: starEach es env) (h2 : (backTo pos (starEach es env)).any (·.1) = false) : (backTo pos (starEach (e :: es) env)).any (·.1) = false := by
  rw [h]
  exact h2
theorem star1 {e : Expr} (h : starEach [e] env = (false, eval e env) :: starEach [] env) : starEach [e] env = [(false, eval e env)] := h
theorem star2 {a b : Expr} (h : starEach [a, b] env = (false, eval a env) :: starEach [b] env) (h2 : starEach [b] env = (false, eval b env) :: starEach [] env) : starEach [a, b] env = [(false, eval a env), (false, eval b env)] := by
  rw [h, h2]
  rfl
theorem few1 {e : Expr} {cpos : Pos} (h : starEach [e] env = (false, eval e env) :: starEach [] env) : ((backTo cpos (starEach [e] env)).all (fun x => !x.1) && (backToKw cpos (keywordEach [] env)).all (fun x => x.1.isSome)
      && decide (([e] : List Expr).length + ([] : List Keyword).length + (if ([] : List Keyword).isEmpty then 0 else 1) < 30)) = true := by
  rw [h]
  rfl
theorem tru_call {f : Expr} {as : List Expr} {ks : List Keyword} {p : Pos} (whole : Sem Value) : isTrue (.Call f as ks p) env whole = (do let v ← whole; standAt (Expr.pos (.Call f as ks p)); holding [v] (truthy v)) := by rfl
theorem tru_name {x : Str} {p : Pos} (whole : Sem Value) : isTrue (.Name x p) env whole = (do let v ← whole; standAt (Expr.pos (.Name x p)); holding [v] (truthy v)) := by rfl
end
end Q2
/-! ### the judgements as closed records: what the elaborator does not look into -/
namespace Q2
open PySem PySem.Spec PyProof.Rows L2
structure WE (X : Cx) (e : Expr) (t : TE) : Prop where
  run : PE X e t
structure WT (X : Cx) (e : Expr) (t : TT) : Prop where
  run : PT X e t
structure WW (X : Cx) (e : Expr) (t : TT) : Prop where
  run : PW X e t
structure WA (X : Cx) (es : List Expr) (t : TA) : Prop where
  run : PA X es t
structure WS (X : Cx) (st : Stmt) (t : TS) : Prop where
  run : PS X st t
structure WSs (X : Cx) (st : List Stmt) (t : TS) : Prop where
  run : PSs X st t
structure WI (X : Cx) (tg iter : Expr) (wi : TI) : Prop where
  run : PI X tg iter wi
structure WG (X : Cx) (tg : Expr) (g : TG) : Prop where
  run : PG X tg g
structure WGs (X : Cx) (tg : List Expr) (g : TGs) : Prop where
  run : PGs X tg g
structure WO (X : Cx) (e : Option Expr) (t : TO) : Prop where
  run : PO X e t
structure WTs (X : Cx) (ifs : List Expr) (t : TT) : Prop where
  run : PTs X ifs t
section
variable {X : Cx} {a b c e o : Expr} {es : List Expr} {st : Stmt} {sts rest body : List Stmt} {t u : TS} {te ta tb tl : TE} {tA tB' tc : TT} {as : TA} {g : TG} {gs : TGs} {wi : TI} {pos p apos cpos : Pos} {tg iter : Expr} {restE : List Expr}
theorem v (i : Nat) {x : Str} {pos : Pos} (hN : X.N[i]? = some x := by rfl) (hv : Vis X.env.scope x := by first | exact Or.inl rfl | exact Or.inr (Or.inl rfl) | exact Or.inr (Or.inr rfl)) (hd : (x == ("__debug__" : Str)) = false := by decide)
    (hcd : (x == ("__classdict__" : Str)) = false := by decide) : WE X (.Name x pos) (tVar i) := ⟨pe_var hN hv hd hcd⟩
theorem we_int {i : Int} {j : Nat} : WE X (.Constant (.int i) j pos) (tC (.int i)) := ⟨pe_int⟩
theorem we_bl {i : Bool} {j : Nat} : WE X (.Constant (.bool i) j pos) (tC (.bl i)) := ⟨pe_bl⟩
theorem we_non {j : Nat} : WE X (.Constant .none j pos) (tC .non) := ⟨pe_non⟩
theorem we_str {x : Str} {j : Nat} : WE X (.Constant (.str x) j pos) (tC (.str x)) := ⟨pe_str⟩
theorem we_bltn {x : Str} {v : V} {u : Value} (hg : Gl X x) (hm : X.mg x = none) (hv : bootBuiltins x = some u) (r : RelV v u) (hn : x ≠ "__name__" := by decide) (hd : (x == ("__debug__" : Str)) = false := by decide) : WE X (.Name x pos) (tC v) := ⟨pe_bltn hg hm hv r hn hd⟩
theorem we_op {op : Operator} {r : R2} (ho : OpR X (binaryOp op) r) (ha : WE X a ta) (hb : WE X b tb) : WE X (.BinOp a op b pos) (tOp r ta tb) := ⟨pe_op ho ha.run hb.run⟩
theorem we_un {op : UnaryOp} {r : V → Hp → VK → Prop} (ho : UnR X (unaryOp op) r) (ha : WE X a ta) : WE X (.UnaryOp op a pos) (tUn r ta) := ⟨pe_un ho ha.run⟩
theorem we_not (ha : WE X a ta) : WE X (.UnaryOp .Not a pos) (tNotV ta) := ⟨pe_not ha.run⟩
theorem we_cmp {op : CmpOp} {r : R2} (ho : OpR X (compareOp op) r) (ha : WE X a ta) (hb : WE X b tb) (hm : behindInMarks op b = false) : WE X (.Compare a [op] [b] pos) (tOp r ta tb) := ⟨pe_cmpR ho ha.run hb.run hm⟩
theorem wt_cmp {op : CmpOp} {r : R2} (ho : OpR X (compareOp op) r) (ha : WE X a ta) (hb : WE X b tb) (hm : behindInMarks op b = false) : WT X (.Compare a [op] [b] pos) (tTest (tOp r ta tb)) := ⟨pt_cmpR ho ha.run hb.run hm⟩
theorem we_one {op : BoolOp} (h : WE X a te) : WE X (.BoolOp op [a] pos) te := ⟨pe_one h.run⟩
theorem we_and (ha : WE X a ta) (hb : WE X (.BoolOp .And (b :: restE) pos) tb) : WE X (.BoolOp .And (a :: b :: restE) pos) (tAndV ta tb) := ⟨pe_and ha.run hb.run⟩
theorem we_or (ha : WE X a ta) (hb : WE X (.BoolOp .Or (b :: restE) pos) tb) : WE X (.BoolOp .Or (a :: b :: restE) pos) (tOrV ta tb) := ⟨pe_or ha.run hb.run⟩
theorem ww_and1 (ha : WT X a tA) : WW X (.BoolOp .And [a] pos) tA := ⟨pw_and1 ha.run⟩
theorem ww_or1 (ha : WT X a tA) : WW X (.BoolOp .Or [a] pos) tA := ⟨pw_or1 ha.run⟩
theorem ww_and (ha : WT X a tA) (hb : WW X (.BoolOp .And (b :: restE) pos) tB') : WW X (.BoolOp .And (a :: b :: restE) pos) (tAnd tA tB') := ⟨pw_and ha.run hb.run⟩
theorem ww_or (ha : WT X a tA) (hb : WW X (.BoolOp .Or (b :: restE) pos) tB') : WW X (.BoolOp .Or (a :: b :: restE) pos) (tOr tA tB') := ⟨pw_or ha.run hb.run⟩
theorem wt_w (h : WW X a tA) : WT X a tA := ⟨h.run.pt⟩
theorem wt_not (ha : WT X a tA) : WT X (.UnaryOp .Not a pos) (tNot tA) := ⟨pt_not ha.run⟩
theorem wt_val (h : WE X e te) (he : ∀ whole, isTrue e X.env whole = (do let v ← whole; standAt e.pos; holding [v] (truthy v))) : WT X e (tB te) := ⟨pt_val h.run he⟩
theorem we_ifExp (hc : WT X c tA) (ha : WE X a ta) (hb : WE X b tb) : WE X (.IfExp c a b pos) (tIf tA ta tb) := ⟨pe_ifExp hc.run ha.run hb.run⟩
theorem we_tup {x1 : Nat} (h : WA X es as) : WE X (.Tuple es x1 pos) (tTup as) := ⟨pe_tup h.run⟩
theorem we_lst (h : WA X es as) : WE X (.List es pos) (tLst as) := ⟨pe_lst h.run⟩
theorem wa_nil : WA X [] tNil := ⟨pa_nil⟩
theorem wa_cons (ha : WE X e te) (hr : WA X es as) (hs : starEach (e :: es) X.env = (false, eval e X.env) :: starEach es X.env) : WA X (e :: es) (tCons te as) := ⟨pa_cons ha.run hr.run hs⟩
theorem we_slice {r : V → Option Int → Option Int → Hp → VK → Prop} {lo hi : Option Expr} {tl th : TO} {p2 : Pos} (hr : SlR X r) (he : WE X e te) (hl : WO X lo tl) (hu : WO X hi th) : WE X (.Subscript e (.Slice lo hi none p2) pos) (tSl r te tl th) := ⟨pe_slice hr he.run hl.run hu.run⟩
theorem wo_none : WO X none tNoPart := ⟨po_none⟩
theorem wo_some (h : WE X e te) : WO X (some e) (tPart te) := ⟨po_some h.run⟩
theorem we_ix {r : R2} (hr : IxR X r) (ha : WE X a ta) (hb : WE X b tb) (hs : PlainIx b) : WE X (.Subscript a b pos) (tOp r ta tb) := ⟨pe_ix hr ha.run hb.run hs⟩
theorem ix_n {x : Str} {p : Pos} : PlainIx (.Name x p) := fun _ _ => rfl
theorem ix_c {c : Int} {k : Nat} {p : Pos} : PlainIx (.Constant (.int c) k p) := fun _ _ => rfl
theorem ix_b {op : Operator} {p : Pos} : PlainIx (.BinOp a op b p) := fun _ _ => rfl
theorem ix_call {f : Expr} {ks : List Keyword} {p : Pos} : PlainIx (.Call f es ks p) := fun _ _ => rfl
theorem we_comp {elt : Expr} {ifs : List Expr} {scope sc : Scope} {N xs : List Str} (hc : X.calm = true) (ok : CompOk N xs sc scope) (hsc : X.env.scope = sc) (hN : Seen X.N N scope) (hi : WI X tg iter wi)
    (hb : ∀ cl C s₀ H₀ fp, WG (compCx X (N ++ xs) scope cl C s₀ H₀ fp) tg g ∧ WTs (compCx X (N ++ xs) scope cl C s₀ H₀ fp) ifs tc ∧ WE (compCx X (N ++ xs) scope cl C s₀ H₀ fp) elt te)
    (hs : ∀ x, foldedSetIterable iter X.env x = pure x := by intro _; rfl) : WE X (.ListComp elt [⟨tg, iter, ifs, 0⟩] scope pos) (tComp wi xs.length g tc te) :=
  ⟨pe_comp hc ok hsc hN hi.run (fun cl C s₀ H₀ fp => ⟨(hb cl C s₀ H₀ fp).1.run, (hb cl C s₀ H₀ fp).2.1.run, (hb cl C s₀ H₀ fp).2.2.run⟩) hs⟩
theorem wts_nil : WTs X [] tYes := ⟨pts_nil⟩
theorem wts_one (h : WT X c tA) : WTs X [c] tA := ⟨pts_one h.run⟩
theorem we_cal {CX : CXT} {k : Nat} {x : Str} {ps : List Str} {sp : Sp} (C : Cal X.prog X.w X.K X.mg X.base CX k x ps sp) (hr : Room k X.A) (hg : Gl X x) (ha : WA X (e :: es) as) (he : starEach (e :: es) X.env = (false, eval e X.env) :: starEach es X.env)
    (hpl : (backTo pos (starEach es X.env)).any (·.1) = false) (hdb : (x == ("__debug__" : Str)) = false := by decide) : WE X (.Call (.Name x p) (e :: es) [] pos) (tCall sp [] E0 as) := ⟨pe_cal C hr hg ha.run hdb he hpl⟩
theorem we_callB {x : Str} {id : String} {r : List V → Hp → VK → Prop} (hc : CallR X (.builtin id) r) (hg : Gl X x) (hm : X.mg x = none) (hv : bootBuiltins x = some (.builtin id)) (ha : WA X (e :: es) as) (he : starEach (e :: es) X.env = (false, eval e X.env) :: starEach es X.env)
    (hpl : (backTo pos (starEach es X.env)).any (·.1) = false) (hn : x ≠ "__name__" := by decide) (hdb : (x == ("__debug__" : Str)) = false := by decide) : WE X (.Call (.Name x p) (e :: es) [] pos) (tCB r as) := ⟨pe_callB hc hg hm hv ha.run hn hdb he hpl⟩
theorem we_callTy {x : Str} {T : String} {r : List V → Hp → VK → Prop} (hc : CallR X (.type T) r) (hg : Gl X x) (hm : X.mg x = none) (hv : bootBuiltins x = some (.type T)) (ha : WA X (e :: es) as) (he : starEach (e :: es) X.env = (false, eval e X.env) :: starEach es X.env)
    (hpl : (backTo pos (starEach es X.env)).any (·.1) = false) (hn : x ≠ "__name__" := by decide) (hdb : (x == ("__debug__" : Str)) = false := by decide) : WE X (.Call (.Name x p) (e :: es) [] pos) (tCB r as) := ⟨pe_callTy hc hg hm hv ha.run hn hdb he hpl⟩
theorem we_bm {T id : String} {name : Str} {r : V → List V → Hp → VK → Prop} (pa : PlainAttrs T) (slot : Slot T name id) (hty : typeOf (.builtin id) = pure (.type "method_descriptor")) (hm : MtR X id r) (ho : WE X o te) (ha : WA X [e] as)
    (hs : starEach [e] X.env = (false, eval e X.env) :: starEach [] X.env) (hbase : attributeBase o name X.env (eval o X.env) = eval o X.env) (hline : (apos.endLine == cpos.line) = true := by rfl) :
    WE X (.Call (.Attribute o name apos) [e] [] cpos) (tBM X.K T r te as) := ⟨pe_bm pa slot hty hm ho.run ha.run hbase (few1 hs) hline hs any0⟩
theorem we_bm0 {T id : String} {name : Str} {r : V → List V → Hp → VK → Prop} (pa : PlainAttrs T) (slot : Slot T name id) (hty : typeOf (.builtin id) = pure (.type "method_descriptor")) (hm : MtR X id r) (ho : WE X o te)
    (hbase : attributeBase o name X.env (eval o X.env) = eval o X.env) (hline : (apos.endLine == cpos.line) = true := by rfl) : WE X (.Call (.Attribute o name apos) [] [] cpos) (tBM0 X.K T r te) := ⟨pe_bm0 pa slot hty hm ho.run hbase hline⟩
theorem ab_n {x name : Str} {env : Env} {whole : Sem Value} {p : Pos} : attributeBase (.Name x p) name env whole = whole := rfl
/-! targets, walks -/
theorem wg_name {i : Nat} {x : Str} (hN : X.N.Nodup) (hi : X.N[i]? = some x) (hx : Loc X.env.scope x) (hf : X.fn x = true ∨ X.env.scope.names.lookup x = some .local := by first | exact .inl rfl | exact .inr rfl | assumption) : WG X (.Name x pos) (gName i) := ⟨pg_name hN hi hx hf⟩
theorem wgs_nil : WGs X [] gNil := ⟨pgs_nil⟩
theorem wgs_cons (h1 : WG X e g) (h2 : WGs X es gs) (hs : (assignEach (e :: es) X.env).map (·.2) = assign e X.env :: (assignEach es X.env).map (·.2) := by rfl) : WGs X (e :: es) (gCons g gs) := ⟨pgs_cons h1.run h2.run hs⟩
theorem wg_tup {k n : Nat} (hc : X.calm = true) (h : WGs X es gs) (hn : (assignEach es X.env).length = n := by rfl) (hst : (assignEach es X.env).findIdx? (·.1) = none := by rfl) : WG X (.Tuple es k pos) (gTup X.K n gs) := ⟨pg_tup hc h.run hn hst⟩
theorem asg_sub {env : Env} (v : Value) : assign (.Subscript o a pos) env v = (do
      let ov ← holding [v] (eval o env)
      let iv ← holding [v, ov] (eval a env)
      standAt pos
      holding [v, ov, iv] (setItem ov iv v)
      release [v, ov, iv] []) ∨ True := .inr trivial
theorem wg_sub {ti : TE} {ts : TSet} (ho : WE X o te) (hi : WE X a ti) (hs : PSet X ts)
    (ha : ∀ v, assign (.Subscript o a pos) X.env v = (do
      let ov ← holding [v] (eval o X.env)
      let iv ← holding [v, ov] (eval a X.env)
      standAt pos
      holding [v, ov, iv] (setItem ov iv v)
      release [v, ov, iv] []) := by intro _; rfl) : WG X (.Subscript o a pos) (gSub te ti ts) := ⟨pg_sub ho.run hi.run hs ha⟩
theorem wi_list {l : Expr} (hl : WE X l tl) : WI X tg l (iList X.K tl) := ⟨pi_list hl.run⟩
theorem wi_range1 (hg : Gl X "range") (hm : X.mg "range" = none) (ha : WA X [a] as) (hs : starEach [a] X.env = [(false, eval a X.env)]) : WI X tg (.Call (.Name "range" p) [a] [] pos) (iRng1 as) := ⟨pi_range1 hg hm ha.run hs⟩
theorem wi_range2 (hg : Gl X "range") (hm : X.mg "range" = none) (ha : WA X [a, b] as) (hs : starEach [a, b] X.env = [(false, eval a X.env), (false, eval b X.env)]) (hs2 : starEach [b] X.env = [(false, eval b X.env)]) : WI X tg (.Call (.Name "range" p) [a, b] [] pos) (iRng2 as) := ⟨pi_range2 hg hm ha.run hs hs2⟩
/-! statements -/
theorem wss_nil : WSs X [] tNext := ⟨pss_nil⟩
theorem wss_cons (h1 : WS X st t) (h2 : WSs X rest u) : WSs X (st :: rest) (tSeq t u) := ⟨pss_cons h1.run h2.run⟩
theorem wss_one (h1 : WS X st t) : WSs X [st] t := ⟨pss_one h1.run⟩
theorem ws_pass : WS X (.Pass pos) tNext := ⟨ps_pass⟩
theorem ws_break : WS X (.Break pos) tBreak := ⟨ps_break⟩
theorem ws_continue : WS X (.Continue pos) tCont := ⟨ps_continue⟩
theorem ws_doc {x : Str} {j : Nat} {pos' : Pos} : WS X (.Expr (.Constant (.str x) j pos) pos') tNext := ⟨ps_doc⟩
theorem ws_expr {f : Expr} {ks : List Keyword} (he : WE X (.Call f es ks p) te) : WS X (.Expr (.Call f es ks p) pos) (tDrop te) := ⟨ps_expr he.run rfl⟩
theorem ws_ret (he : WE X e te) : WS X (.Return (some e) pos) (tRet te) := ⟨ps_ret he.run⟩
theorem ws_retN : WS X (.Return none pos) tRetN := ⟨ps_retN⟩
theorem ws_if {a b : List Stmt} (hc : WT X c tc) (ha : WSs X a t) (hb : WSs X b u) : WS X (.If c a b pos) (tIfS tc t u) := ⟨ps_if hc.run ha.run hb.run⟩
theorem ws_never : WS X st tNever := ⟨ps_never⟩
theorem wss_never : WSs X sts tNever := ⟨pss_never⟩
theorem ws_while (hp : PassesOwn (model X.prog X.w) X.A X.env X.xe) (hc : WT X c tc) (hb : WSs X body t) : WS X (.While c body [] pos) (tWhile tc t) := ⟨ps_while hp hc.run hb.run⟩
theorem ws_for (hp : PassesOwn (model X.prog X.w) X.A X.env X.xe) (hc : X.calm = true) (hi : WI X tg iter wi) (hg : WG X tg g) (hb : WSs X body t) (hs : ∀ x, foldedSetIterable iter X.env x = pure x) : WS X (.For tg iter body [] pos) (tFor wi g t) := ⟨ps_for hp hc hi.run hg.run hb.run hs⟩
theorem fs_call {f : Expr} {ks : List Keyword} {env : Env} (x : Value) : foldedSetIterable (.Call f es ks p) env x = pure x := rfl
theorem fs_name {y : Str} {env : Env} (x : Value) : foldedSetIterable (.Name y p) env x = pure x := rfl
theorem fs_sub {env : Env} (x : Value) : foldedSetIterable (.Subscript a b p) env x = pure x := rfl
theorem fs_bin {op : Operator} {env : Env} (x : Value) : foldedSetIterable (.BinOp a op b p) env x = pure x := rfl
theorem fs_list {env : Env} (x : Value) : foldedSetIterable (.List es p) env x = pure x := rfl
theorem ws_set {i : Nat} {x : Str} {pos' : Pos} (hN : X.N.Nodup) (hi : X.N[i]? = some x) (hx : Loc X.env.scope x) (he : WE X e te) (hs : swapsWith e (some (.Name x pos')) pos.line X.env = pure false) (hf : X.fn x = true ∨ X.env.scope.names.lookup x = some .local := by first | exact .inl rfl | exact .inr rfl | assumption) :
    WS X (.Assign [.Name x pos'] e pos) (tAsg te (gName i)) := ⟨ps_set hN hi hx he.run hs hf⟩
theorem ws_asg {e2 : Expr} (he : WE X e te) (hg : WG X e2 g) (hs : swapsWithSole [e2] e pos.line X.env = pure false) (hw : swappedStores [e2] e X.env = pure none) (h1 : (assignEach [e2] X.env).map (·.2) = [assign e2 X.env] := by rfl) : WS X (.Assign [e2] e pos) (tAsg te g) := ⟨ps_asg he.run hg.run hs hw h1⟩
end
section
variable {env : Env} {tgt : Option Expr} {line : Nat} {a b c : Expr} {es : List Expr} {p : Pos}
theorem sw_c {k : Const} {j : Nat} : swapsWith (.Constant k j p) tgt line env = pure false := rfl
theorem sw_n {x : Str} : swapsWith (.Name x p) tgt line env = pure false := rfl
theorem sw_b {op : Operator} : swapsWith (.BinOp a op b p) tgt line env = pure false := rfl
theorem sw_u {op : UnaryOp} : swapsWith (.UnaryOp op a p) tgt line env = pure false := rfl
theorem sw_call {f : Expr} {ks : List Keyword} : swapsWith (.Call f es ks p) tgt line env = pure false := rfl
theorem sw_s : swapsWith (.Subscript a b p) tgt line env = pure false := rfl
theorem sw_l : swapsWith (.List es p) tgt line env = pure false := rfl
theorem sw_t {k : Nat} : swapsWith (.Tuple es k p) tgt line env = pure false := rfl
theorem sw_cmp {ops : List CmpOp} : swapsWith (.Compare a ops es p) tgt line env = pure false := rfl
theorem sw_if : swapsWith (.IfExp a b c p) tgt line env = pure false := rfl
theorem sw_bo {op : BoolOp} : swapsWith (.BoolOp op es p) tgt line env = pure false := rfl
theorem ss_sub {e : Expr} : swappedStores [.Subscript a b p] e env = pure none := rfl
theorem ss_call {ts : List Expr} {k : Nat} {p2 : Pos} {f : Expr} {ks : List Keyword} : swappedStores [.Tuple ts k p2] (.Call f es ks p) env = pure none := rfl
end
theorem ws_setcomp {X : Cx} {elt tg iter : Expr} {ifs : List Expr} {scope sc : Scope} {pos spos py : Pos} {wi : TI} {g : TG} {tc : TT} {te : TE} {N xs : List Str} {i : Nat} {y : Str} (hND : X.N.Nodup) (hyi : X.N[i]? = some y) (hy : X.env.scope.names.lookup y = some .local)
    (hc : X.calm = true) (ok : CompOk N xs sc scope) (hsc : X.env.scope = sc) (hN : Seen X.N N scope) (hi : WI X tg iter wi)
    (hb : ∀ cl C s₀ H₀ fp, WG (compCx X (N ++ xs) scope cl C s₀ H₀ fp) tg g ∧ WTs (compCx X (N ++ xs) scope cl C s₀ H₀ fp) ifs tc ∧ WE (compCx X (N ++ xs) scope cl C s₀ H₀ fp) elt te)
    (hsw : swapsWith (.ListComp elt [⟨tg, iter, ifs, 0⟩] scope pos) (some (.Name y py)) spos.line X.env = pure true) (hs : ∀ x, foldedSetIterable iter X.env x = pure x := by intro _; rfl) :
    WS X (.Assign [.Name y py] (.ListComp elt [⟨tg, iter, ifs, 0⟩] scope pos) spos) (tAsg (tComp wi xs.length g tc te) (gName i)) :=
  ⟨ps_setcomp hND hyi hy hc ok hsc hN hi.run (fun cl C s₀ H₀ fp => ⟨(hb cl C s₀ H₀ fp).1.run, (hb cl C s₀ H₀ fp).2.1.run, (hb cl C s₀ H₀ fp).2.2.run⟩) hsw hs⟩
/-- a def, its body by a closed record; no error leaves it -/
theorem okW {P : Program} {w : World} {K : PySem.W.Frag} {mg : Str → Option Value} {base : Heap} {CX : CXT} {x qual : Str} {st : Stmt} {f : Addr} {fd : FuncData} {N ps : List Str} {k : Nat} {sp : Sp} (F : Fun K x qual st f fd) (S : FnScope N ps (defScope st)) (len : ∀ vs H Q E, sp vs H Q E → vs.length = ps.length)
    (hbody : ∀ (cdv : Value) (A : Around) (outer : List Env) (s : Shared) (H : Hp) (vs : List V) (Q : VK) (E : XK), Room k (A.deeper (envOfC qual (defScope st) s.heap.objs.size f cdv)) → sp vs H Q E →
      ∃ t, WSs (cxOf CX P w K mg base N qual (defScope st) f cdv A outer s H E).nox (defBody st) t ∧ t { nx := fun _ H' => Q .non H', rt := Q } (start N vs) H) : FnOk P w K mg base CX (k + 1) f fd ps sp := by
  obtain ⟨oc, od, kV, doc, pm, an, cdv, ct, osl, e, lk, hcd⟩ := F.ex
  subst e
  refine fn_of lk hcd S len fun A outer s H vs Q E hr hsp => ?_
  obtain ⟨t, h, q⟩ := hbody cdv A outer s H vs Q E hr hsp
  exact ⟨t, h.run.nox, q⟩
/-- .. where an error may leave it -/
theorem okE {P : Program} {w : World} {K : PySem.W.Frag} {mg : Str → Option Value} {base : Heap} {CX : CXT} {x qual : Str} {st : Stmt} {f : Addr} {fd : FuncData} {N ps : List Str} {k : Nat} {sp : Sp} (F : Fun K x qual st f fd) (S : FnScope N ps (defScope st)) (len : ∀ vs H Q E, sp vs H Q E → vs.length = ps.length)
    (hbody : ∀ (cdv : Value) (A : Around) (outer : List Env) (s : Shared) (H : Hp) (vs : List V) (Q : VK) (E : XK), Room k (A.deeper (envOfC qual (defScope st) s.heap.objs.size f cdv)) → sp vs H Q E →
      ∃ t, WSs (cxOf CX P w K mg base N qual (defScope st) f cdv A outer s H E) (defBody st) t ∧ t { nx := fun _ H' => Q .non H', rt := Q } (start N vs) H) : FnOk P w K mg base CX (k + 1) f fd ps sp := by
  obtain ⟨oc, od, kV, doc, pm, an, cdv, ct, osl, e, lk, hcd⟩ := F.ex
  subst e
  refine fn_of lk hcd S len fun A outer s H vs Q E hr hsp => ?_
  obtain ⟨t, h, q⟩ := hbody cdv A outer s H vs Q E hr hsp
  exact ⟨t, h.run, q⟩
theorem wss_nox {X : Cx} {sts : List Stmt} {t : TS} (h : WSs X.nox sts t) : WSs X sts t := ⟨h.run.nox⟩
end Q2
/-! ### refusals: an error raised in a def, passed on by its callers, taken by a handler -/
namespace Q2
open PySem PySem.Spec PyProof.Rows L2
theorem ObjOk.ex {P : Program} {w : World} {H : Hp} {h : Heap} {a : Addr} {o : HO} (x : ObjOk P w H h a o) : ∃ u, h.get? a = some u := by
  induction o with
  | lst xs => obtain ⟨_, _, _, _, e⟩ := x; exact ⟨_, e⟩
  | tup xs => obtain ⟨_, _, _, p⟩ := x; obtain ⟨u, e, _⟩ := p; exact ⟨u, e⟩
  | dK kvs => obtain ⟨_, _, _, _, o, _, _, e, _⟩ := x; exact ⟨_, e⟩
  | dT kvs => obtain ⟨_, _, _, _, o, _, _, e, _⟩ := x; exact ⟨_, e⟩
  | set S n => obtain ⟨o, _, _, _, e, _⟩ := x; exact ⟨_, e⟩
  | ins C dx fs => obtain ⟨_, _, _, e, _⟩ := x; exact ⟨_, e⟩
  | own y => exact x
  | xd fs => obtain ⟨_, ⟨_, _, _, e, _⟩, _⟩ := x; exact ⟨_, e⟩
  | rng lo hi => obtain ⟨_, _, _, e⟩ := x; exact ⟨_, e⟩
  | frz ob u _ => obtain ⟨e, _⟩ := x; exact ⟨_, e⟩
  | tbl ps => exact ⟨_, (show h.get? a = some _ from x)⟩
  | met f y => exact ⟨_, (show h.get? a = some _ from x)⟩
  | ext φ => obtain ⟨_, e, _⟩ := x; exact e

/-- an error is under way: B what stays as it is while it passes through the frames of outer -/
structure Fly (P : Program) (w : World) (outer : List Env) (H : Hp) (s : Shared) (H' : Hp) (x : Addr) (cls : Value) (s' : Shared) : Prop where
  os : s'.os = s.os
  bare : AllBare s'.gens
  un : Un (frs outer) [] H H' s.heap s'.heap
  hok : HOk P w H' s'.heap
  fly : ∃ B a0, Heap.FlyingW B outer x cls a0 s'.heap ∧ (∀ b o, s.heap.get? b = some o → H b = none → b ∉ frs outer → B.get? b = some o) ∧ (∀ b o, s.heap.get? b = some o → b ∉ frs outer → ∃ o', B.get? b = some o') ∧
    (∀ b u o, H' b = some u → s'.heap.get? b = some o → B.get? b = some o)
/-- how an error lies behind a call -/
def CX1 (P : Program) (w : World) : CXT := fun outer H s E e s' => ∃ x cls H', e = .ref x ∧ Fly P w outer H s H' x cls s' ∧ E cls none H'
/-- what is kept by B is kept by the heap; so what is tracked is held -/
theorem hok_of {P : Program} {w : World} {H' : Hp} {h h' B : Heap} (ok : HOk P w H' h) (k2 : ∀ b u o, H' b = some u → h.get? b = some o → B.get? b = some o) (st : B.StaysIn h') : HOk P w H' h' := fun a o e =>
  (ok a o e).stay (fun b u hb q => by
    rcases hb with z | z
    · subst z; exact st _ _ (k2 _ _ _ e q)
    · exact st _ _ (k2 _ _ _ z q)) (fun _ q => q) fun _ _ q => q
theorem k2_of {P : Program} {w : World} {H' : Hp} {h h' B : Heap} (ok : HOk P w H' h) (k2 : ∀ b u o, H' b = some u → h.get? b = some o → B.get? b = some o) (st : B.StaysIn h') : ∀ b u o, H' b = some u → h'.get? b = some o → B.get? b = some o := fun b u o e q => by
  obtain ⟨o0, e0⟩ := Q2.ObjOk.ex (ok b u e)
  have z := k2 b u o0 e e0
  have z2 := st _ _ z
  rw [q] at z2
  cases z2
  exact z
section
variable {P : Program} {w : World} {K : PySem.W.Frag} {mg : Str → Option Value} {base : Heap} {N : List Str} {qual : Str} {scope : Scope} {f : Addr} {cd : Value} {A : Around} {outer : List Env} {s : Shared} {H : Hp} {E : XK}
/-- a callee's error leaves this frame too -/
theorem pass1 : Passes (CX1 P w) (cxOf (CX1 P w) P w K mg base N qual scope f cd A outer s H E) E := by
  intro pins σ H1 s1 e s' I hcx
  obtain ⟨x, cls, H', rfl, F, hE⟩ := hcx
  obtain ⟨B, a0, fl, k1, k3, k2⟩ := F.fly
  have Ib : Un (frs outer) [] H H1 s.heap s1.heap := I.base
  have above : ∀ b o, s.heap.get? b = some o → b ∉ frs outer → b ∉ frs (envOfC qual scope s.heap.objs.size f cd :: outer) := fun b o e hb z => by
    rcases List.mem_cons.mp (I.stkSub b z) with q | q
    · have h1 : b < s.heap.objs.size := Heap.lt_size e
      have h2 : s.heap.objs.size ≤ b := by rw [q]; exact I.ok.above
      exact absurd h1 (Nat.not_lt.mpr h2)
    · exact hb q
  show wpAny (model P w) (A.deeper (envOfC qual scope s.heap.objs.size f cd)) (leaving (envOfC qual scope s.heap.objs.size f cd) (.ref x)) (fun _ s'' => CX1 P w outer H s E (.ref x) s'') (fun e' s'' => CX1 P w outer H s E e' s'') s'
  refine wpAny_leaves_onW I.ok.frames rfl fl fun h' fl' up => ?_
  refine ⟨x, cls, H', rfl, ⟨F.os.trans I.os, F.bare, ⟨fun b o e n hb _ => ?_, fun b o e n hb _ => ?_, fun b o e n _ => ?_, fun b o e _ => ?_, fun b xs e => F.un.tups b xs (Ib.tups b xs e), fun b o u e => F.un.frzs b o u (Ib.frzs b o u e), fun b ps e => ?_⟩,
    hok_of F.hok k2 fl'.1, B, a0, fl', fun b o e n hb => ?_, fun b o e hb => ?_, k2_of F.hok k2 fl'.1⟩, hE⟩
  · exact fl'.1 b o (k1 b o (Ib.keep b o e n hb (by simp)) (Ib.free b o e n (by simp)) (above b o e hb))
  · obtain ⟨sl, e1⟩ := Ib.slot b o e n hb (by simp)
    have hb2 : b ∈ frs (envOfC qual scope s.heap.objs.size f cd :: outer) := by
      unfold frs at hb ⊢
      obtain ⟨env, h1, h2⟩ := List.mem_filterMap.mp hb
      exact List.mem_filterMap.mpr ⟨env, List.mem_cons_of_mem _ h1, h2⟩
    obtain ⟨sl2, e2⟩ := F.un.slot b _ e1 (Ib.free b o e n (by simp)) hb2 (by simp)
    obtain ⟨_, o', e3, nf⟩ := fl.2.2.1.mem hb2
    rw [e2] at e3
    cases e3
    obtain ⟨sl3, e4⟩ := up b _ e2 nf
    exact ⟨sl3, e4⟩
  · obtain ⟨o', e1⟩ := Ib.there b o e (by simp)
    exact F.un.free b o' e1 (Ib.free b o e n (by simp)) (by simp)
  · obtain ⟨o', e1⟩ := Ib.there b o e (by simp)
    by_cases hb : b ∈ frs (envOfC qual scope s.heap.objs.size f cd :: outer)
    · obtain ⟨o2, e2⟩ := F.un.there b o' e1 (by simp)
      obtain ⟨_, o3, e3, nf⟩ := fl.2.2.1.mem hb
      obtain ⟨sl3, e4⟩ := up b _ e3 nf
      exact ⟨_, e4⟩
    · obtain ⟨o2, e2⟩ := k3 b o' e1 hb
      exact ⟨o2, fl'.1 b o2 e2⟩
  · obtain ⟨m1, e1⟩ := Ib.tbls b ps e
    obtain ⟨m2, e2⟩ := F.un.tbls b _ e1
    exact ⟨m1 ++ m2, by rw [e2, Array.append_assoc]⟩
  · exact k1 b o (Ib.keep b o e n hb (by simp)) (Ib.free b o e n (by simp)) (above b o e hb)
  · obtain ⟨o', e1⟩ := Ib.there b o e (by simp)
    exact k3 b o' e1 (above b o e hb)
/-- an error that is made here leaves this frame -/
theorem raise1 {pins : List (Addr × Obj)} {σ : St} {H1 : Hp} {s1 : Shared} {x : Addr} {cls : Value} {vs : List Value} {h1 : Heap} (I : Inv (cxOf (CX1 P w) P w K mg base N qual scope f cd A outer s H E) pins σ H1 s1)
    (hx : Heap.MadeExcOf s1.heap h1 x cls vs) (hE : E cls none H1) : (cxOf (CX1 P w) P w K mg base N qual scope f cd A outer s H E).xe (.ref x) { s1 with heap := h1 } := by
  have Ib : Un (frs outer) [] H H1 s.heap s1.heap := I.base
  have above : ∀ b o, s.heap.get? b = some o → b ∉ frs outer → b ∉ frs (envOfC qual scope s.heap.objs.size f cd :: outer) := fun b o e hb z => by
    rcases List.mem_cons.mp (I.stkSub b z) with q | q
    · have h1 : b < s.heap.objs.size := Heap.lt_size e
      have h2 : s.heap.objs.size ≤ b := by rw [q]; exact I.ok.above
      exact absurd h1 (Nat.not_lt.mpr h2)
    · exact hb q
  have hin : ∀ env ∈ (envOfC qual scope s.heap.objs.size f cd :: outer), ∀ b, env.frame = some b → b ∈ frs (envOfC qual scope s.heap.objs.size f cd :: outer) := fun env he b hb => List.mem_filterMap.mpr ⟨env, he, hb⟩
  have FF : s1.heap.FunFrames base (envOfC qual scope s.heap.objs.size f cd :: outer) := I.stack
  show wpAny (model P w) (A.deeper (envOfC qual scope s.heap.objs.size f cd)) (leaving (envOfC qual scope s.heap.objs.size f cd) (.ref x)) (fun _ s'' => CX1 P w outer H s E (.ref x) s'') (fun e' s'' => CX1 P w outer H s E e' s'') { s1 with heap := h1 }
  refine wpAny_leaves_madeW (base := PySem.W.hideAll s1.heap (frs (envOfC qual scope s.heap.objs.size f cd :: outer))) (h := s1.heap) I.ok.frames rfl (fun b o q => PySem.W.of_hideAll _ q) (PySem.W.funFrames_hide FF hin) hx fun h' t fl tup nt up => ?_
  have inB : ∀ b o, s1.heap.get? b = some o → b ∉ frs (envOfC qual scope s.heap.objs.size f cd :: outer) → (PySem.W.hideAll s1.heap (frs (envOfC qual scope s.heap.objs.size f cd :: outer))).get? b = some o := fun b o e hb => PySem.W.hideAll_get _ e hb
  have notfr : ∀ b u, H1 b = some u → b ∉ frs (envOfC qual scope s.heap.objs.size f cd :: outer) := fun b u e z => by
    have := I.stkFree b z
    rw [e] at this
    cases this
  have k2 : ∀ b u o, H1 b = some u → s1.heap.get? b = some o → (PySem.W.hideAll s1.heap (frs (envOfC qual scope s.heap.objs.size f cd :: outer))).get? b = some o := fun b u o e q => inB b o q (notfr b u e)
  have st : (PySem.W.hideAll s1.heap (frs (envOfC qual scope s.heap.objs.size f cd :: outer))).StaysIn h' := fl.1
  refine ⟨x, cls, H1, rfl, ⟨I.os, I.bare, ⟨fun b o e n hb _ => ?_, fun b o e n hb _ => ?_, Ib.free, fun b o e _ => ?_, Ib.tups, Ib.frzs, Ib.tbls⟩, hok_of I.hok k2 st, _, _, fl, fun b o e n hb => ?_, fun b o e hb => ?_, k2_of I.hok k2 st⟩, hE⟩
  · exact st b o (inB b o (Ib.keep b o e n hb (by simp)) (above b o e hb))
  · obtain ⟨sl, e1⟩ := Ib.slot b o e n hb (by simp)
    have hb2 : b ∈ frs (envOfC qual scope s.heap.objs.size f cd :: outer) := by
      unfold frs at hb ⊢
      obtain ⟨env, h1, h2⟩ := List.mem_filterMap.mp hb
      exact List.mem_filterMap.mpr ⟨env, List.mem_cons_of_mem _ h1, h2⟩
    obtain ⟨_, o', e3, nf⟩ := FF.mem hb2
    rw [e1] at e3
    cases e3
    obtain ⟨sl3, e4⟩ := up b _ (hx.keeps b _ e1) nf
    exact ⟨sl3, e4⟩
  · obtain ⟨o', e1⟩ := Ib.there b o e (by simp)
    by_cases hb : b ∈ frs (envOfC qual scope s.heap.objs.size f cd :: outer)
    · obtain ⟨_, o3, e3, nf⟩ := FF.mem hb
      obtain ⟨sl3, e4⟩ := up b _ (hx.keeps b _ e3) nf
      exact ⟨_, e4⟩
    · exact ⟨o', st b o' (inB b o' e1 hb)⟩
  · exact inB b o (Ib.keep b o e n hb (by simp)) (above b o e hb)
  · obtain ⟨o', e1⟩ := Ib.there b o e (by simp)
    exact ⟨o', inB b o' e1 (above b o e hb)⟩
end

/-! #### the raise statement -/
/-- an error class of the text under ValueError -/
def errIn (K : PySem.W.Frag) (C : Addr) : Bool := PySem.W.excIn K C [.type "ValueError", .type "Exception", .type "BaseException", .type "object"] "ValueError.__new__"
theorem err_obj {K : PySem.W.Frag} {h : Heap} {C : Addr} {bmB : List Value} {newId : String} (X : K.In h) (q : PySem.W.excIn K C bmB newId = true) :
    ∃ bm N nm qn bs hdct sn sub ab col dd k0 k1 k2 k3 k5 mN, h.get? C = some (excClassObj nm qn C N bs bm hdct sn sub ab col dd k0 k1 k2 k3 k5 newId) ∧ h.Ns N mN ∧ mN "__init__" = none ∧ OwnTail h bmB bm := by
  unfold PySem.W.excIn at q
  split at q
  case h_2 => cases q
  case h_1 dd cd sl ho =>
    split at q
    case h_2 => cases q
    case h_1 C' bm k0 k1 k2 k3 n k5 hm hs =>
      rw [Bool.and_eq_true, Bool.and_eq_true, Bool.and_eq_true, Bool.and_eq_true, Bool.and_eq_true] at q
      obtain ⟨⟨⟨⟨⟨q1, q2⟩, q3⟩, q4⟩, q5⟩, q6⟩ := q
      have e1 : C' = C := beq_iff_eq.mp q1
      have e2 : n = newId := beq_iff_eq.mp q2
      have e3 : cd.hasDel = false := by simpa using q3
      have e6 := beq_iff_eq.mp q6
      subst e1; subst e2
      cases cd with
      | mk nm bs mro ns qn hd sn sub ab col del =>
        have e3' : del = false := e3
        have hm' : mro = .ref C' :: bm := hm
        subst e3'; subst hm'
        cases sl with
        | mk ls =>
          have hs' : ls = [k0, k1, k2, k3, some (.builtin n), k5] := hs
          subst hs'
          exact ⟨bm, ns, nm, qn, bs, hd, sn, sub, ab, col, dd, k0, k1, k2, k3, k5, _, X _ _ ho, .of_isNs (PySem.W.isNs_of_in X q5), PySem.W.nsMap_none_of_in X q5 e6, PySem.W.tail_of_in X q4⟩
def tRaise (C : Addr) (E : XK) (as : TA) : TS := fun _ σ H => as σ H fun vs H1 => vs.length ≤ sizeLine ∧ E (.ref C) none H1
section
variable {P : Program} {w : World} {K : PySem.W.Frag} {mg : Str → Option Value} {base : Heap} {N : List Str} {qual : Str} {scope : Scope} {f : Addr} {cd : Value} {A : Around} {outer : List Env} {s : Shared} {H : Hp} {E : XK}
theorem ps_raise {c : Str} {C : Addr} {e₀ : Expr} {rest : List Expr} {as : TA} {np cpos pos : Pos} (hg : Gl (cxOf (CX1 P w) P w K mg base N qual scope f cd A outer s H E) c) (hm : mg c = some (.ref C)) (hq : errIn K C = true)
    (ha : PA (cxOf (CX1 P w) P w K mg base N qual scope f cd A outer s H E) (e₀ :: rest) as) (he : starEach (e₀ :: rest) (envOfC qual scope s.heap.objs.size f cd) = (false, eval e₀ (envOfC qual scope s.heap.objs.size f cd)) :: starEach rest (envOfC qual scope s.heap.objs.size f cd))
    (hpl : (backTo cpos (starEach rest (envOfC qual scope s.heap.objs.size f cd))).any (·.1) = false) (hd : (c == ("__debug__" : Str)) = false := by decide) :
    PS (cxOf (CX1 P w) P w K mg base N qual scope f cd A outer s H E) (.Raise (some (.Call (.Name c np) (e₀ :: rest) [] cpos)) none pos) (tRaise C E as) := by
  intro pins s1 σ H1 D I h
  obtain ⟨tl, N', nm, q, bs, hdct, sn, sub, ab, col, dd, k0, k1, k2, k3, k5, mN, hC, hN, hni, T⟩ := err_obj (h := base) I.ok.mod.kin hq
  refine wpAny_Raise_call_subT (C := C) (nm := nm) (q := q) (N := N') (bs := bs) (bm := tl) (hdct := hdct) (sn := sn) (sub := sub) (ab := ab) (col := col) (dd := dd) (k0 := k0) (k1 := k1) (k2 := k2) (k3 := k3) (k5 := k5)
    PySem.F.excBase_ValueError (mN := mN) (T.hasType PySem.F.excBase_ValueError.hasBase) (I.ok.hd rfl) (anyS he hpl) hni (ld_glob I hg hm ⟨rfl, ?_⟩ hd)
  have hA := ha cpos pins s1 σ H1 _ I h
  rw [show starEach (e₀ :: rest) (cxOf (CX1 P w) P w K mg base N qual scope f cd A outer s H E).env = (false, eval e₀ (envOfC qual scope s.heap.objs.size f cd)) :: starEach rest (envOfC qual scope s.heap.objs.size f cd) from he] at hA ⊢
  refine Calls.evalArgs_plain (thn hA fun us s2 ⟨vs, H2, I2, r, hz, hE⟩ => ⟨rfl, by rw [← r.length]; exact hz, I2.bk _ _ hC, hN.keeps I2.bk, T.keeps I2.bk, fun h' e hx => raise1 I2 hx hE⟩)
end

/-! #### calls whose error is wished for by the names' values -/
def tCallS (sp : Sp) (E : St → XK) (t : TA) : TE := fun σ H Q => t σ H fun vs H1 => sp vs H1 Q (E σ)
theorem tCallS_ap {sp : Sp} {E : St → XK} {as : TA} {σ : St} {H : Hp} {Q : VK} : tCallS sp E as σ H Q = as σ H fun vs H1 => sp vs H1 Q (E σ) := propext Iff.rfl
def PassesS (CX : CXT) (X : Cx) (E : St → XK) : Prop := ∀ (pins : List (Addr × Obj)) (σ : St) (H : Hp) (s : Shared) (e : Value) (s' : Shared), Inv X pins σ H s → CX X.stack H s (E σ) e s' → X.xe e s'
theorem pe_callS {X : Cx} {CX : CXT} {k : Nat} {f : Addr} {fd : FuncData} {ps : List Str} {sp : Sp} {E : St → XK} {x : Str} {p pos : Pos} {e : Expr} {es : List Expr} {t : TA} (F : FnOk X.prog X.w X.K X.mg X.base CX k f fd ps sp) (hr : Room k X.A) (hg : Gl X x) (hm : X.mg x = some (.ref f))
    (hk : PySem.W.keepIn X.K (.ref f) = true) (hb : Binds X.K fd ps []) (hx : PassesS CX X E) (ha : PA X (e :: es) t) (hdb : (x == ("__debug__" : Str)) = false) (he : starEach (e :: es) X.env = (false, eval e X.env) :: starEach es X.env)
    (hpl : (backTo pos (starEach es X.env)).any (·.1) = false) : PE X (.Call (.Name x p) (e :: es) [] pos) (tCallS sp E t) := by
  intro pins s σ H Q I h
  refine wpAny_Call_Name_kw (ld_glob I hg hm ?_ hdb)
  refine PySem.W.callWith_K (h₀ := X.base) I.ok.mod.kin hk (thn (ha pos pins s σ H _ I h) fun us s1 ⟨vs, H1, I1, r, q⟩ => ⟨I1.kIn, ?_⟩) he hpl
  have hl : us.length = ps.length := by rw [← r.length]; exact F.len _ _ _ _ q
  have hb' : BindsTo s1 fd ⟨us, []⟩ (ps.zip us) := by
    have := hb s1 us I1.kIn (by rw [List.append_nil]; exact hl)
    rwa [List.append_nil] at this
  refine wpAny_call (codeAny_mono (F.run X.A X.stack s1 H1 ⟨us, []⟩ us vs Q (E σ) hr I1.env0 hb' r q) fun r s' hq => ?_)
  cases r with
  | error e => exact hx pins σ H1 s1 e s' I1 hq
  | ok fl =>
    cases fl with
    | ret u => exact I1.after hq
    | next => exact False.elim hq
    | brk => exact False.elim hq
    | cont => exact False.elim hq

/-! #### try .. except C: .., no name -/
/-- the handlers, read: the classes as values, their suites -/
def tHand (K : PySem.W.Frag) (cls : Value) : List (Value × TS) → TS
  | [], _, _, _ => False
  | (c, t) :: r, D, σ, H => ∃ b, PySem.W.exmOne K cls c = some b ∧ if b = true then t D σ H else tHand K cls r D σ H
/-- within a handler's suite -/
def mkCx (X : Cx) (x : Addr) : Cx := { X with A := X.A.mark (some (.ref x)), calm := false, xe := noX }
inductive PH (X : Cx) : List ExceptHandler → List (Value × TS) → Prop where
  | nil : PH X [] []
  | cons {c : Str} {v : Value} {np pos : Pos} {b₀ : Stmt} {suite : List Stmt} {t : TS} {hs : List ExceptHandler} {l : List (Value × TS)} (hg : Gl X c) (hm : X.mg c = some v) (hd : (c == ("__debug__" : Str)) = false)
      (hb : ∀ x, PSs (mkCx X x) (b₀ :: suite) t) (r : PH X hs l) : PH X (.ExceptHandler (some (.Name c np)) none (b₀ :: suite) pos :: hs) ((v, t) :: l)
theorem Inv.mk' {X : Cx} {pins : List (Addr × Obj)} {σ : St} {H : Hp} {s : Shared} (I : Inv X pins σ H s) (x : Addr) : Inv (mkCx X x) pins σ H s :=
  ⟨⟨I.ok.mod, I.ok.kind, I.ok.glob, I.ok.blt, I.ok.above, I.ok.inj, I.ok.has, I.ok.cab, fun z => absurd z (by show ¬ (false = true); decide), I.ok.frames, I.ok.stk, I.ok.exf, I.ok.bs, I.ok.bsz, I.ok.noex, I.ok.exfs, I.ok.funs, I.ok.frf⟩, I.os, I.bare, I.base, I.loc, I.cell, I.free, I.freeC, I.pin, I.hok, I.len⟩
theorem SP.unmk {X : Cx} {x : Addr} {pins : List (Addr × Obj)} {D : Ends} {f : Flow} {s' : Shared} (h : SP (mkCx X x) pins D f s') (hd : X.calm = true → X.A.handled = none) : SP X pins D f s' := by
  have un : ∀ {σ : St} {H : Hp}, Inv (mkCx X x) pins σ H s' → Inv X pins σ H s' := fun I =>
    ⟨⟨I.ok.mod, I.ok.kind, I.ok.glob, I.ok.blt, I.ok.above, I.ok.inj, I.ok.has, I.ok.cab, hd, I.ok.frames, I.ok.stk, I.ok.exf, I.ok.bs, I.ok.bsz, I.ok.noex, I.ok.exfs, I.ok.funs, I.ok.frf⟩, I.os, I.bare, I.base, I.loc, I.cell, I.free, I.freeC, I.pin, I.hok, I.len⟩
  cases f with
  | next => obtain ⟨σ', H', I, q⟩ := h; exact ⟨σ', H', un I, q⟩
  | brk => obtain ⟨σ', H', I, q⟩ := h; exact ⟨σ', H', un I, q⟩
  | cont => obtain ⟨σ', H', I, q⟩ := h; exact ⟨σ', H', un I, q⟩
  | ret u => obtain ⟨v, σ', H', I, r, q⟩ := h; exact ⟨v, σ', H', un I, r, q⟩
/-- the error's own records turn, all else stays -/
theorem Fly.turn {P : Program} {w : World} {outer : List Env} {H H' : Hp} {s s' : Shared} {x : Addr} {cls : Value} (F : Fly P w outer H s H' x cls s') {B : Heap} {a0 : Value} {h' : Heap}
    (k1 : ∀ b o, s.heap.get? b = some o → H b = none → b ∉ frs outer → B.get? b = some o) (k3 : ∀ b o, s.heap.get? b = some o → b ∉ frs outer → ∃ o', B.get? b = some o') (k2 : ∀ b u o, H' b = some u → s'.heap.get? b = some o → B.get? b = some o)
    (fl0 : Heap.FlyingW B outer x cls a0 s'.heap) (st : B.StaysIn h') (up : s'.heap.UpToSlots h') (fl : Heap.FlyingW B outer x cls a0 h') : Fly P w outer H s H' x cls { s' with heap := h' } := by
  refine ⟨F.os, F.bare, ⟨fun b o e n hb _ => st b o (k1 b o e n hb), fun b o e n hb _ => ?_, F.un.free, fun b o e _ => ?_, F.un.tups, F.un.frzs, F.un.tbls⟩, hok_of F.hok k2 st, B, a0, fl, k1, k3, k2_of F.hok k2 st⟩
  · obtain ⟨sl, e1⟩ := F.un.slot b o e n hb (by simp)
    obtain ⟨_, o', e3, nf⟩ := fl0.2.2.1.mem hb
    rw [e1] at e3
    cases e3
    obtain ⟨sl3, e4⟩ := up b _ e1 nf
    exact ⟨sl3, e4⟩
  · by_cases hb : b ∈ frs outer
    · obtain ⟨_, o3, e3, nf⟩ := fl0.2.2.1.mem hb
      obtain ⟨sl3, e4⟩ := up b _ e3 nf
      exact ⟨_, e4⟩
    · obtain ⟨o2, e2⟩ := k3 b o e hb
      exact ⟨o2, st b o2 e2⟩

theorem fly_ty {M : Model} {B h : Heap} {l : List Env} {x : Addr} {cls a0 : Value} (fl : Heap.FlyingW B l x cls a0 h) : PySem.W.Looks M h (typeOf (.ref x)) cls := by
  obtain ⟨ob, hob, hc⟩ := fl.there
  subst hc
  exact (PySem.W.Looks.ld hob).andThen .now
theorem handle {X : Cx} : ∀ {hs : List ExceptHandler} {l : List (Value × TS)}, PH X hs l → ∀ {pins : List (Addr × Obj)} {σ : St} {H H' : Hp} {s s' : Shared} {x : Addr} {cls : Value} {D : Ends}, Inv X pins σ H s →
    Fly X.prog X.w X.stack H s H' x cls s' → tHand X.K cls l D σ H' → wpAny (model X.prog X.w) X.A (handleBy (.ref x) X.env hs) (SP X pins D) X.xe s' := by
  intro hs l ph
  induction ph with
  | nil => intro pins σ H H' s s' x cls D I F h; exact h.elim
  | @cons c v np pos b₀ suite t hs l hg hm hd hb r ih =>
    intro pins σ H H' s s' x cls D I F h
    obtain ⟨b, hx, h⟩ := h
    obtain ⟨B, a0, fl, k1, k3, k2⟩ := F.fly
    have I1 : Inv X pins σ H' s' := I.call' (ch := []) F.os F.un F.hok F.bare fun b z => absurd z (by simp)
    have I2 : Inv (mkCx X x) pins σ H' s' := Q2.Inv.mk' I1 x
    refine wpAny_handleBy_cons (codeAny_handlers_test ?_) (by intro q; cases q)
    refine ld_glob I2 (x := c) (u := v) hg hm ?_ hd
    refine (PySem.W.exm_one I2.kIn (fly_ty fl) hx).here ?_
    cases b with
    | false =>
      have h' : tHand X.K cls l D σ H' := h
      exact ih I F h'
    | true =>
      have h' : t D σ H' := h
      refine codeAny_handlers_suite ?_
      refine lands_againW fl fun h6 fl6 up6 => ?_
      have F6 : Fly X.prog X.w X.stack H s H' x cls { s' with heap := h6 } := F.turn k1 k3 k2 fl fl6.1 up6 fl6
      have I6 : Inv X pins σ H' { s' with heap := h6 } := I.call' (ch := []) F6.os F6.un F6.hok F6.bare fun b z => absurd z (by simp)
      refine wpAny_mono (hb x pins _ σ H' D (Q2.Inv.mk' I6 x) h') (fun f s7 q => ?_) fun _ _ z => z.elim
      exact Q2.SP.unmk q I.ok.hd
def bodyCx (X : Cx) (pn : List (Addr × Obj)) (Eb : Value → Shared → Prop) : Cx := { X with pn := pn, xe := Eb }
def tTry (tb : Ends → TS) : TS := fun D σ H => tb D D σ H
theorem tTry_ap {tb : Ends → TS} {D : Ends} {σ : St} {H : Hp} : tTry tb D σ H = tb D D σ H := propext Iff.rfl
theorem ps_try {X : Cx} {body : List Stmt} {h₀ : ExceptHandler} {hs : List ExceptHandler} {l : List (Value × TS)} {tb : Ends → TS} {pos : Pos} (hst : X.stack = X.env :: X.outer) (hfm : X.env.frame = some X.env.locals)
    (hb : ∀ D pn Eb, PassesS (CX1 X.prog X.w) (bodyCx X pn Eb) (fun σ cls _ H' => tHand X.K cls l D σ H') → PSs (bodyCx X pn Eb) body (tb D)) (ph : PH X (h₀ :: hs) l) :
    PS X (.Try body (h₀ :: hs) [] [] pos) (tTry tb) := by
  intro pins s σ H D I h
  have toX : ∀ {Eb : Value → Shared → Prop} {pl : List (Addr × Obj)} {σ' : St} {H' : Hp} {s' : Shared}, Inv (bodyCx X (X.pn ++ pins) Eb) pl σ' H' s' → Inv X pins σ' H' s' := fun J =>
    ⟨⟨J.ok.mod, J.ok.kind, J.ok.glob, J.ok.blt, J.ok.above, J.ok.inj, J.ok.has, J.ok.cab, J.ok.hd, J.ok.frames, J.ok.stk, J.ok.exf, J.ok.bs, J.ok.bsz, J.ok.noex, J.ok.exfs, J.ok.funs, J.ok.frf⟩, J.os, J.bare, J.base, J.loc, J.cell, J.free, J.freeC, fun p hp => J.pin p (List.mem_append_left _ hp), J.hok, J.len⟩
  refine wpAny_Try_except ?_
  generalize hEb : (fun (e : Value) (s₁ : Shared) => wpAny (model X.prog X.w) X.A (noteFrame e X.env) (fun _ s₂ => wpAny (model X.prog X.w) X.A (setFlight e none) (fun _ s₃ => wpAny (model X.prog X.w) X.A (handleBy e X.env (h₀ :: hs)) (SP X pins D) X.xe s₃) X.xe s₂) X.xe s₁) = Eb
  have pass : PassesS (CX1 X.prog X.w) (bodyCx X (X.pn ++ pins) Eb) (fun σ cls _ H' => tHand X.K cls l D σ H') := by
    intro pl σ1 H1 s1 e s' J hcx
    obtain ⟨x, cls, H', rfl, F, hE⟩ := hcx
    obtain ⟨B, a0, fl, k1, k3, k2⟩ := F.fly
    have IX : Inv X pins σ1 H1 s1 := toX J
    show Eb (.ref x) s'
    rw [← hEb]
    have fl' : Heap.FlyingW B (X.env :: X.outer) x cls a0 s'.heap := by rw [← hst]; exact fl
    refine wpAny_looks_onW (by rw [IX.ok.frames, hst]) hfm fl' fun h4 held up4 => ?_
    refine wpAny_landsW held fun h5 fl5 up5 => ?_
    have fl5' : Heap.FlyingW B X.stack x cls a0 h5 := by rw [hst]; exact fl5
    exact handle ph IX (F.turn (h' := h5) k1 k3 k2 fl fl5.1 (up4.trans up5) fl5') hE
  have J0 : Inv (bodyCx X (X.pn ++ pins) Eb) [] σ H s :=
    ⟨⟨I.ok.mod, I.ok.kind, I.ok.glob, I.ok.blt, I.ok.above, I.ok.inj, I.ok.has, I.ok.cab, I.ok.hd, I.ok.frames, I.ok.stk, I.ok.exf, I.ok.bs, I.ok.bsz, I.ok.noex, I.ok.exfs, I.ok.funs, I.ok.frf⟩, I.os, I.bare, I.base, I.loc, I.cell, I.free, I.freeC, fun p hp => I.pin p (by rw [List.append_nil] at hp; exact hp), I.hok, I.len⟩
  refine wpAny_mono (hb D (X.pn ++ pins) Eb pass [] s σ H D J0 h) (fun f s1 q => ?_) fun e s1 q => q
  cases f with
  | next =>
    obtain ⟨σ', H', J, q⟩ := q
    exact wpAny_execs_nil ⟨σ', H', toX J, q⟩
  | brk => obtain ⟨σ', H', J, q⟩ := q; exact ⟨σ', H', toX J, q⟩
  | cont => obtain ⟨σ', H', J, q⟩ := q; exact ⟨σ', H', toX J, q⟩
  | ret u => obtain ⟨v, σ', H', J, r, q⟩ := q; exact ⟨v, σ', H', toX J, r, q⟩
theorem no1 {P : Program} {w : World} : ∀ outer H s e s', CX1 P w outer H s E0 e s' → False := fun _ _ _ _ _ h => by
  obtain ⟨_, _, _, _, _, z⟩ := h
  exact z
end Q2
/-! ### more rules: == of lists of ints, a range with a step, isinstance with a tuple of classes -/
namespace Q2
open PySem PySem.Spec PyProof.Rows L2
def rEqL (K : PySem.W.Frag) : R2 := fun x y H Q => ∃ (a b : Addr) (ns ms : List Int), x = .ref a ∧ y = .ref b ∧ SqL K H a (ns.map V.int) ∧ SqL K H b (ms.map V.int) ∧ Q (.bl (decide (ns = ms))) H
def rNeL (K : PySem.W.Frag) : R2 := fun x y H Q => ∃ (a b : Addr) (ns ms : List Int), x = .ref a ∧ y = .ref b ∧ SqL K H a (ns.map V.int) ∧ SqL K H b (ms.map V.int) ∧ Q (.bl (!decide (ns = ms))) H
theorem op_eqL {X : Cx} (hu : X.A.units + 64 < cLine) : OpR X (compareOp .Eq) (rEqL X.K) := by
  intro pins s σ H x y v u Q I rx ry h
  obtain ⟨a, b, ns, ms, rfl, rfl, h1, h2, q⟩ := h
  cases rx
  cases ry
  obtain ⟨its, r1, p1, _⟩ := I.list h1
  obtain ⟨its2, r2, p2, _⟩ := I.list h2
  exact PySem.W.eq_intsK p1.isList (intsAre_of r1) p2.isList (intsAre_of r2) hu ⟨.bl _, H, I, rfl, q⟩
theorem op_neL {X : Cx} (hu : X.A.units + 64 < cLine) : OpR X (compareOp .NotEq) (rNeL X.K) := by
  intro pins s σ H x y v u Q I rx ry h
  obtain ⟨a, b, ns, ms, rfl, rfl, h1, h2, q⟩ := h
  cases rx
  cases ry
  obtain ⟨its, r1, p1, _⟩ := I.list h1
  obtain ⟨its2, r2, p2, _⟩ := I.list h2
  exact PySem.W.ne_intsK p1.isList (intsAre_of r1) p2.isList (intsAre_of r2) hu ⟨.bl _, H, I, rfl, q⟩
theorem rEqL_ap {K : PySem.W.Frag} {a b : Addr} {H : Hp} {Q : VK} : rEqL K (.ref a) (.ref b) H Q = ∃ ns ms : List Int, SqL K H a (ns.map V.int) ∧ SqL K H b (ms.map V.int) ∧ Q (.bl (decide (ns = ms))) H := by
  unfold rEqL
  apply propext
  constructor
  · rintro ⟨a', b', ns, ms, e1, e2, h⟩
    cases e1
    cases e2
    exact ⟨ns, ms, h⟩
  · rintro ⟨ns, ms, h⟩
    exact ⟨a, b, ns, ms, rfl, rfl, h⟩
theorem rNeL_ap {K : PySem.W.Frag} {a b : Addr} {H : Hp} {Q : VK} : rNeL K (.ref a) (.ref b) H Q = ∃ ns ms : List Int, SqL K H a (ns.map V.int) ∧ SqL K H b (ms.map V.int) ∧ Q (.bl (!decide (ns = ms))) H := by
  unfold rNeL
  apply propext
  constructor
  · rintro ⟨a', b', ns, ms, e1, e2, h⟩
    cases e1
    cases e2
    exact ⟨ns, ms, h⟩
  · rintro ⟨ns, ms, h⟩
    exact ⟨a, b, ns, ms, rfl, rfl, h⟩

/-! #### range(a, b, c), c from 1 on -/
def ItrS (lo c : Int) (n : Nat) : It := ⟨fun i _ => i < n, fun i H x H' => H' = H ∧ x = .int (lo + i * c), fun i _ => n ≤ i⟩
theorem turn_rangeS {P : Program} {w : World} {K : PySem.W.Frag} {tg : Expr} (it : Addr) (lo c : Int) (n : Nat) : Turn P w K tg (ItrS lo c n) [it] it (fun i h => IsRangeIter h it (lo + (i : Nat) * c) ((n : Int) - (i : Nat)) c) where
  mem := by simp
  obj := fun i h st b hb => by
    have e : b = it := by simpa using hb
    subst e
    exact ⟨_, st, fun v z => by cases (show Data.fields _ = Data.cell v from z)⟩
  keep := fun i h h' st k => k it (by simp) _ st
  item := by
    intro X hP hw hK hc i pins s σ H E I hf st hg
    subst hP hw hK
    obtain ⟨f0, f1, f2, f3, f4, f5⟩ := hf it (by simp)
    refine (Walks.range (prog := X.prog) (w := X.w) (I.ok.hd hc) it lo c n).item i s _ _ hg st fun v h' tk hv st' kk => ?_
    obtain ⟨t, rfl⟩ := hv
    have I1 : Inv X pins σ H { s with heap := h', toks := tk } := I.turned (fun b o hb e => kk b o (by simpa using hb) e) f0 f1 f3 f4 f5
    exact ⟨_, rfl, go_of (s := { s with heap := h', toks := tk }) (n := "range_iterator") st' rfl rfl (by decide) ⟨.int (lo + i * c), H, I1, ⟨t, rfl⟩, ⟨rfl, rfl⟩, st', fun b hb => (hf b hb).1⟩⟩
  done := by
    intro X hP hw hK hc i pins s σ H E I hf st hg
    subst hP hw hK
    obtain ⟨f0, f1, f2, f3, f4, f5⟩ := hf it (by simp)
    exact wpAny_pyNext_range_end (I.ok.hd hc) st (by have : n ≤ i := hg; omega) fun h' eb => ⟨rfl, I.turned (t' := s.toks) (fun b o hb e => eb b o hb e) f0 f1 f3 f4 f5⟩
  self := fun _ _ _ _ _ st h => wpAny_pyIter_rangeiter st h
/-- how many turns -/
def turnsS (a b c : Int) : Nat := (Builtin.Range.rangeSize a b c).toNat
theorem turnsS_eq {a b c : Int} (hc : 0 < c) : (turnsS a b c : Int) = if a < b then (b - a - 1) / c + 1 else 0 := by
  unfold turnsS Builtin.Range.rangeSize
  rw [if_pos hc]
  split
  · have := Int.ediv_nonneg (show (0 : Int) ≤ b - a - 1 by omega) (show (0 : Int) ≤ c by omega)
    omega
  · rfl
theorem small_S {a b c : Int} (h1 : 0 ≤ a) (h2 : a < 2 ^ 30) (h3 : 0 ≤ b) (h4 : b < 2 ^ 30) (h5 : 0 < c) (h6 : c < 2 ^ 30) : Builtin.Range.small a b c = true ∧ Builtin.Range.rangeSize a b c = (turnsS a b c : Int) := by
  have e : Builtin.Range.rangeSize a b c = (turnsS a b c : Int) := by
    rw [turnsS_eq h5]
    unfold Builtin.Range.rangeSize
    rw [if_pos h5]
  refine ⟨?_, e⟩
  unfold Builtin.Range.small
  rw [e, turnsS_eq h5]
  by_cases hab : a < b
  · rw [if_pos hab, if_pos h5]
    have d0 := Int.ediv_nonneg (show (0 : Int) ≤ b - a - 1 by omega) (show (0 : Int) ≤ c by omega)
    have d1 : (b - a - 1) / c ≤ b - a - 1 := Int.ediv_le_self _ (by omega)
    generalize (b - a - 1) / c = q at *
    simp only [Builtin.Range.rangeFitsLong, Bool.and_eq_true, Bool.or_eq_true, decide_eq_true_eq, beq_iff_eq]
    omega
  · rw [if_neg hab, if_pos h5]
    simp only [Builtin.Range.rangeFitsLong, Bool.and_eq_true, Bool.or_eq_true, decide_eq_true_eq, beq_iff_eq]
    omega
def iRng3 (ta : TA) : TI := fun σ H R => ta σ H fun vs H1 => ∃ i j c : Int, vs = [.int i, .int j, .int c] ∧ (0 ≤ i ∧ i < 2 ^ 30 ∧ 0 ≤ j ∧ j < 2 ^ 30 ∧ 0 < c ∧ c < 2 ^ 30) ∧ R (ItrS i c (turnsS i j c)) H1
theorem pi_range3 {X : Cx} {tg : Expr} {a b c : Expr} {ta : TA} {p pos : Pos} (hg : Gl X "range") (hm : X.mg "range" = none) (ha : PA X [a, b, c] ta) (hs : starEach [a, b, c] X.env = (false, eval a X.env) :: starEach [b, c] X.env) (hs2 : (backTo pos (starEach [b, c] X.env)).any (·.1) = false) :
    PI X tg (.Call (.Name "range" p) [a, b, c] [] pos) (iRng3 ta) := by
  intro pins s σ H R I h
  refine Call_ (ld_blt I hg hm boot_range (PyProof.Rows.callWith_type1 (thn (ha pos pins s σ H _ I h) fun us s1 ⟨vs, H1, I1, r1, q1⟩ => ?_) hs hs2))
  obtain ⟨i, j, k, e, ⟨q1, q2, q3, q4, q5, q6⟩, q⟩ := q1
  subst e
  cases r1 with
  | cons r rr =>
    cases rr with
    | cons r' rr =>
      cases rr with
      | cons r'' rr =>
        cases rr
        obtain ⟨t, rfl⟩ := r
        obtain ⟨t', rfl⟩ := r'
        obtain ⟨t'', rfl⟩ := r''
        refine call_range_3 (by omega) ?_ (Or.inl (PyProof.noPylong_small (by omega)))
        obtain ⟨hsm, hsz⟩ := small_S q1 q2 q3 q4 q5 q6
        refine wpAny_pyIter_range (IsRange.new ..) hsm ?_
        have I2 : Inv X pins σ H1 { s1 with heap := s1.heap.push { cls := .type "range", data := .fields #[.int i t, .int j t', .int k t''] }, toks := s1.toks } := I1.kept fun b o e => Heap.get?_push_of_some _ e
        refine ⟨(s1.heap.push { cls := .type "range", data := .fields #[.int i t, .int j t', .int k t''] }).objs.size, [(s1.heap.push { cls := .type "range", data := .fields #[.int i t, .int j t', .int k t''] }).objs.size], _, _, H1, rfl,
          I2.kept (t' := s1.toks) fun b o e => Heap.get?_push_of_some _ e, turn_rangeS _ i k (turnsS i j k), ?_, fun b hb => ?_, q⟩
        · show IsRangeIter _ _ (i + ((0 : Nat) : Int) * k) (((turnsS i j k : Nat) : Int) - ((0 : Nat) : Int)) k
          rw [← hsz, show i + ((0 : Nat) : Int) * k = i by simp, show Builtin.Range.rangeSize i j k - ((0 : Nat) : Int) = Builtin.Range.rangeSize i j k by simp]
          exact Heap.get?_push_size _ rfl
        · have e : b = (s1.heap.push { cls := .type "range", data := .fields #[.int i t, .int j t', .int k t''] }).objs.size := by simpa using hb
          subst e
          exact I2.fpOk (Nat.le_refl _) (I2.hok.fresh (Nat.le_refl _))
def ForS (lo c : Int) (n : Nat) (g : TG) (tb : TS) (D : Ends) (σ : St) (H : Hp) : Prop := ∃ W : Nat → Nat → St → Hp → Prop, (∃ m, W 0 m σ H) ∧ ∀ i m σ H, W i m σ H →
  ((ItrS lo c n).stop i H ∧ D.nx σ H) ∨ ((ItrS lo c n).go i H ∧ ∃ N : St → Hp → Prop, (∀ σ' H', N σ' H' → ∃ m', m' < m ∧ W (i + 1) m' σ' H') ∧ ∀ x H', (ItrS lo c n).yld i H x H' → g x σ H' fun σ2 H2 => tb { D with nx := N, ct := N, bk := D.nx } σ2 H2)
theorem tFor3_ap {ta : TA} {g : TG} {tb : TS} {D : Ends} {σ : St} {H : Hp} : tFor (iRng3 ta) g tb D σ H = ta σ H fun vs H1 => ∃ i j c : Int, vs = [.int i, .int j, .int c] ∧ (0 ≤ i ∧ i < 2 ^ 30 ∧ 0 ≤ j ∧ j < 2 ^ 30 ∧ 0 < c ∧ c < 2 ^ 30) ∧ ForS i c (turnsS i j c) g tb D σ H1 := propext Iff.rfl
theorem ex3I {v w u : Int} {P : Int → Int → Int → Prop} : (∃ i j k, [V.int v, V.int w, V.int u] = [V.int i, V.int j, V.int k] ∧ P i j k) = P v w u := by
  apply propext
  constructor
  · rintro ⟨i, j, k, e, h⟩
    cases e
    exact h
  · intro h
    exact ⟨v, w, u, rfl, h⟩
theorem ForS.of {lo c : Int} {n : Nat} {g : TG} {tb : TS} {D : Ends} {σ : St} {H : Hp} (Pv : Nat → St → Hp → Prop) (h0 : Pv 0 σ H)
    (hs : ∀ i σ H, i < n → Pv i σ H → ∀ U : St → Hp → Prop, (∀ σ' H', Pv (i + 1) σ' H' → U σ' H') → g (.int (lo + i * c)) σ H fun σ2 H2 => tb { D with nx := U, ct := U, bk := D.nx } σ2 H2) (hd : ∀ σ H, Pv n σ H → D.nx σ H) : ForS lo c n g tb D σ H := by
  refine ⟨fun i m σ H => m = n - i ∧ i ≤ n ∧ Pv i σ H, ⟨n, by simp, Nat.zero_le _, h0⟩, ?_⟩
  rintro i m σ H ⟨rfl, hi, p⟩
  by_cases hlt : i < n
  · refine .inr ⟨hlt, Pv (i + 1), fun σ' H' p' => ⟨n - (i + 1), by omega, rfl, hlt, p'⟩, fun x H' y => ?_⟩
    obtain ⟨e, y⟩ := y
    subst e y
    exact hs i σ _ hlt p _ fun _ _ h => h
  · have e : i = n := by omega
    subst e
    exact .inl ⟨Nat.le_refl _, hd σ H p⟩
theorem wi_range3 {X : Cx} {tg : Expr} {a b c : Expr} {as : TA} {p pos : Pos} (hg : Gl X "range") (hm : X.mg "range" = none) (ha : WA X [a, b, c] as) (hs : starEach [a, b, c] X.env = (false, eval a X.env) :: starEach [b, c] X.env) (hs2 : (backTo pos (starEach [b, c] X.env)).any (·.1) = false) :
    WI X tg (.Call (.Name "range" p) [a, b, c] [] pos) (iRng3 as) := ⟨pi_range3 hg hm ha.run hs hs2⟩

/-! #### isinstance(x, (A, B)) -/
theorem kit_of {X : Cx} {pins : List (Addr × Obj)} {σ : St} {H : Hp} {s : Shared} {x : V} {u t : Value} (I : Inv X pins σ H s) (rx : RelV x u) (ty : TyOf X.K H x t) : ∃ φ, PySem.W.KitX X.K u t φ ∧ φ s.heap ∧ u ≠ .builtin "__main__.__loader__#opaque" := by
  cases ty with
  | non => cases (show u = Value.none from rx); exact ⟨_, PySem.W.kitx_none, True.intro, fun z => nomatch z⟩
  | bl y => cases (show u = Value.bool y from rx); exact ⟨_, PySem.W.kitx_bool, True.intro, fun z => nomatch z⟩
  | int i => obtain ⟨t, q⟩ := (show ∃ t, u = Value.int i t from rx); cases q; exact ⟨_, PySem.W.kitx_int, True.intro, fun z => nomatch z⟩
  | str y => obtain ⟨t, q⟩ := (show ∃ t, u = Value.str y t from rx); cases q; exact ⟨_, PySem.W.kitx_str, True.intro, fun z => nomatch z⟩
  | flt y => obtain ⟨t, q⟩ := (show ∃ t, u = Value.float y t from rx); cases q; exact ⟨_, PySem.W.kitx_float, True.intro, fun z => nomatch z⟩
  | @lst a xs ea =>
    cases (show u = Value.ref a from rx)
    obtain ⟨_, _, n, _, h1⟩ := (show ObjOk X.prog X.w H s.heap a (.lst xs) from I.hok a _ ea)
    exact ⟨_, PySem.W.kitx_list, ⟨_, h1, rfl⟩, fun z => nomatch z⟩
  | @frz a ob xs ea =>
    cases (show u = Value.ref a from rx)
    obtain ⟨_, _, _, n, _, h1⟩ := (show ObjOk X.prog X.w H s.heap a (.frz ob (.lst xs)) from I.hok a _ ea)
    exact ⟨_, PySem.W.kitx_list, ⟨_, h1, rfl⟩, fun z => nomatch z⟩
  | @tup a xs ea =>
    cases (show u = Value.ref a from rx)
    obtain ⟨_, _, _, p⟩ := (show ObjOk X.prog X.w H s.heap a (.tup xs) from I.hok a _ ea)
    obtain ⟨o, h1, h2, _⟩ := p
    exact ⟨_, PySem.W.kitx_tuple, ⟨o, h1, h2⟩, fun z => nomatch z⟩
  | @dK a kvs ea =>
    cases (show u = Value.ref a from rx)
    obtain ⟨_, _, vs, _, p⟩ := (show ObjOk X.prog X.w H s.heap a (.dK kvs) from I.hok a _ ea)
    obtain ⟨o, es, ep, h1, h2, _⟩ := p
    exact ⟨_, PySem.W.kitx_dict, ⟨o, h1, h2.1⟩, fun z => nomatch z⟩
  | @dT a kvs ea =>
    cases (show u = Value.ref a from rx)
    obtain ⟨_, _, xs, _, o, es, ep, h1, h2, _⟩ := (show ObjOk X.prog X.w H s.heap a (.dT kvs) from I.hok a _ ea)
    exact ⟨_, PySem.W.kitx_dict, ⟨o, h1, h2.1⟩, fun z => nomatch z⟩
  | @ins a C dx fs ea cl ha hn htk hm =>
    cases (show u = Value.ref a from rx)
    obtain ⟨mA, O, _⟩ := ins_get I.hok ea
    obtain ⟨od, J, _⟩ := O.look
    exact ⟨_, PySem.W.kitx_own (cl.get _) cl.hd ha hn htk hm, J, fun z => nomatch z⟩
def rIsi2 (K : PySem.W.Frag) : List V → Hp → VK → Prop := fun xs H Q => ∃ x p T1 T2 t b, xs = [x, .ref p] ∧ H p = some (.tup [.ty T1, .ty T2]) ∧ TyOf K H x t ∧ PySem.W.kitAny K t [.type T1, .type T2] = some b ∧ Q (.bl b) H
theorem call_isi2 {X : Cx} : CallR X (.builtin "isinstance") (rIsi2 X.K) := by
  intro pins s σ H xs us Q I r h
  obtain ⟨x, p, T1, T2, t, b, rfl, hp, ty, e, q⟩ := h
  obtain ⟨u, v, rfl, rx, ry⟩ := r.two
  obtain rfl : v = Value.ref p := ry
  obtain ⟨φ, Z, hφ, ne⟩ := kit_of I rx ty
  obtain ⟨_, its, rv, o, h1, h2, n, h3⟩ := (show ObjOk X.prog X.w H s.heap p (.tup [.ty T1, .ty T2]) from I.hok p _ hp)
  obtain ⟨u1, u2, rfl, r1, r2⟩ := rv.two
  obtain rfl : u1 = Value.type T1 := r1
  obtain rfl : u2 = Value.type T2 := r2
  obtain ⟨oc, od, dt, sl⟩ := o
  have h2' : oc = Value.type "tuple" := h2
  have h3' : dt = .seq _ n := h3
  subst h2' h3'
  exact PySem.W.kia_tup Z I.kIn hφ h1 e ne fun tk => ⟨.bl b, H, I.tok _, rfl, q⟩
theorem rIsi2_ap {K : PySem.W.Frag} {x : V} {p : Addr} {H : Hp} {Q : VK} : rIsi2 K [x, .ref p] H Q = ∃ T1 T2 t b, H p = some (.tup [.ty T1, .ty T2]) ∧ TyOf K H x t ∧ PySem.W.kitAny K t [.type T1, .type T2] = some b ∧ Q (.bl b) H := by
  unfold rIsi2
  apply propext
  constructor
  · rintro ⟨x', p', T1, T2, t, b, e, h⟩
    cases e
    exact ⟨T1, T2, t, b, h⟩
  · rintro ⟨T1, T2, t, b, h⟩
    exact ⟨x, p, T1, T2, t, b, rfl, h⟩
theorem rEqS_ap {a b : Str} {H : Hp} {Q : VK} : rEq (.str a) (.str b) H Q = Q (.bl (decide (a = b))) H := by
  simp [rEq, scal]
theorem rNeS_ap {a b : Str} {H : Hp} {Q : VK} : rNe (.str a) (.str b) H Q = Q (.bl (!decide (a = b))) H := by
  simp [rNe, scal]
theorem rRep_ap {l : Addr} {k : Int} {H : Hp} {Q : VK} : rRep (.ref l) (.int k) H Q = ∃ xs, H l = some (.lst xs) ∧ -(2 ^ 63) ≤ k ∧ k < 2 ^ 63 ∧ xs.length * k.toNat ≤ sizeLine ∧ ∀ p, H p = none → Q (.ref p) (upd H p (.lst (List.replicate k.toNat xs).flatten)) := by
  unfold rRep
  apply propext
  constructor
  · rintro ⟨l', k', xs, e1, e2, h⟩
    cases e1
    cases e2
    exact ⟨xs, h⟩
  · rintro ⟨xs, h⟩
    exact ⟨l, k, xs, rfl, rfl, h⟩
theorem rCat_ap {l b : Addr} {H : Hp} {Q : VK} : rCat (.ref l) (.ref b) H Q = ∃ xs zs, H l = some (.lst xs) ∧ H b = some (.lst zs) ∧ xs.length + zs.length ≤ sizeLine ∧ ∀ p, H p = none → Q (.ref p) (upd H p (.lst (xs ++ zs))) := by
  unfold rCat
  apply propext
  constructor
  · rintro ⟨l', b', xs, zs, e1, e2, h⟩
    cases e1
    cases e2
    exact ⟨xs, zs, h⟩
  · rintro ⟨xs, zs, h⟩
    exact ⟨l, b, xs, zs, rfl, rfl, h⟩
theorem swS {e2 e : Expr} {line : Nat} {env : Env} (h : swapsWith e (some e2) line env = pure false) : swapsWithSole [e2] e line env = pure false := h
end Q2
/-! ### more rules: sum, list(range(..)), products of big ints, a comprehension over a list -/
namespace Q2
open PySem PySem.Spec PyProof.Rows L2
def rSum (K : PySem.W.Frag) : List V → Hp → VK → Prop := fun xs H Q => ∃ (p : Addr) (ns : List Int), xs = [.ref p] ∧ SqL K H p (ns.map V.int) ∧ Q (.int ns.sum) H
theorem call_sum {X : Cx} (hc : X.calm = true) : CallR X (.builtin "sum") (rSum X.K) := by
  intro pins s σ H xs us Q I r h
  obtain ⟨p, ns, rfl, hp, q⟩ := h
  obtain ⟨u, rfl, rx⟩ := vals1 r
  cases rx
  obtain ⟨its, r1, pl, _⟩ := I.list hp
  have hi : IntsAre its ns := intsAre_of r1
  obtain ⟨ys, hx⟩ := hi.allInts.items
  have hl' : s.heap.IsList p (intItems ys) := hx ▸ pl.isList
  refine sum_intListG (I.ok.hd hc) hl' fun h' tk t' hk => ?_
  have e1 : ns = ys.toList.map (·.1) := by
    rw [← nums_intItems, ← hx]
    exact (show numsOf its.toArray.toList = ns from hi.numsOf).symm
  have e2 : preSum (numAt ys) ys.size = ns.sum := by
    rw [preSum_eq, List.take_of_length_le (by simp), e1]
  rw [e2]
  exact ⟨.int ns.sum, H, I.kept hk, ⟨t', rfl⟩, q⟩
theorem rSum_ap {K : PySem.W.Frag} {p : Addr} {H : Hp} {Q : VK} : rSum K [.ref p] H Q = ∃ ns : List Int, SqL K H p (ns.map V.int) ∧ Q (.int ns.sum) H := by
  unfold rSum
  apply propext
  constructor
  · rintro ⟨p', ns, e, h⟩
    cases e
    exact ⟨ns, h⟩
  · rintro ⟨ns, h⟩
    exact ⟨p, ns, rfl, h⟩
def rRng : List V → Hp → VK → Prop := fun xs H Q => ∃ (i j : Int), xs = [.int i, .int j] ∧ ∀ p, H p = none → Q (.ref p) (upd H p (.rng i j))
theorem call_rng {X : Cx} : CallR X (.type "range") rRng := by
  intro pins s σ H xs us Q I r h
  obtain ⟨i, j, rfl, q⟩ := h
  obtain ⟨u, v, rfl, rx, ry⟩ := r.two
  obtain ⟨t, rfl⟩ := rx
  obtain ⟨t', rfl⟩ := ry
  refine call_range_2 ?_
  exact ⟨.ref s.heap.objs.size, _, I.laid (fun b o e => Heap.get?_push_of_some _ e) (Nat.le_refl _) (show ObjOk X.prog X.w _ _ _ (.rng i j) from ⟨t, t', _, Heap.get?_push_size _ rfl⟩), rfl, q _ (I.hok.fresh (Nat.le_refl _))⟩
theorem rRng_ap {i j : Int} {H : Hp} {Q : VK} : rRng [.int i, .int j] H Q = ∀ p, H p = none → Q (.ref p) (upd H p (.rng i j)) := by
  unfold rRng
  apply propext
  constructor
  · rintro ⟨i', j', e, h⟩
    cases e
    exact h
  · intro h
    exact ⟨i, j, rfl, h⟩
theorem vals_of {n : Nat} {a : Int} : ∀ (vs : List Value) (i : Nat), vs.length = n → (∀ (k : Nat) (v : Value), vs[k]? = some v → ∃ t, v = .int (a + ((i + k : Nat) : Int) * 1) t) → Vals ((List.range n).map fun k => V.int (a + ((i + k : Nat) : Int))) vs := by
  induction n with
  | zero =>
    intro vs i hl _
    have := List.eq_nil_of_length_eq_zero hl
    subst this
    exact .nil
  | succ n ih =>
    intro vs i hl h
    cases vs with
    | nil => cases hl
    | cons v r =>
      rw [List.range_succ_eq_map, List.map_cons, List.map_map]
      refine .cons ?_ ?_
      · obtain ⟨t, e⟩ := h 0 v rfl
        exact ⟨t, by rw [e, Int.mul_one]⟩
      · have := ih r (i + 1) (by simpa using hl) fun k v hk => by
          obtain ⟨t, e⟩ := h (k + 1) v hk
          exact ⟨t, by rw [e, show i + (k + 1) = i + 1 + k by omega]⟩
        have e : (fun k => V.int (a + ((i + 1 + k : Nat) : Int))) = (fun k => V.int (a + ((i + k : Nat) : Int))) ∘ Nat.succ := by
          funext k
          show _ = V.int (a + ((i + (k + 1) : Nat) : Int))
          rw [show i + 1 + k = i + (k + 1) by omega]
        rw [← e]
        exact this
def rLRng : List V → Hp → VK → Prop := fun xs H Q => ∃ (p : Addr) (i j : Int), xs = [.ref p] ∧ H p = some (.rng i j) ∧ (0 ≤ i ∧ i ≤ j ∧ j ≤ 100000) ∧ ∀ l, H l = none → Q (.ref l) (upd H l (.lst ((List.range (j - i).toNat).map fun k => V.int (i + (k : Nat)))))
theorem call_list_rng {X : Cx} (hc : X.calm = true) : CallR X (.type "list") rLRng := by
  intro pins s σ H xs us Q I r h
  obtain ⟨p, i, j, rfl, hp, ⟨h0, h1, h2⟩, q⟩ := h
  obtain ⟨u, rfl, rx⟩ := vals1 r
  cases rx
  obtain ⟨t, u, v, e⟩ := (show ObjOk X.prog X.w H s.heap p (.rng i j) from I.hok p _ hp)
  have hsz : Builtin.Range.rangeSize i j 1 = (((j - i).toNat : Nat) : Int) := by
    unfold Builtin.Range.rangeSize
    rw [if_pos (by decide)]
    split
    · rw [Int.ediv_one]; omega
    · omega
  obtain ⟨hsm, _⟩ := small_S (a := i) (b := j) (c := 1) h0 (by omega) (by omega) (by omega) (by decide) (by decide)
  refine call_list_range (I.ok.hd hc) (show IsRange s.heap p i j 1 t u v from e) hsm hsz (by omega) fun h' tk acc c hk hD hI => ?_
  have vv : Vals ((List.range (j - i).toNat).map fun k => V.int (i + (k : Nat))) acc.toList := by
    have := vals_of (n := (j - i).toNat) (a := i) acc.toList 0 (by rw [Array.length_toList]; exact hI.1) fun k v hv => by
      obtain ⟨t, e⟩ := hI.2 k v (by rw [← hv, Array.getElem?_toList])
      exact ⟨t, by rw [e, Nat.zero_add]⟩
    have e : (fun k => V.int (i + ((0 + k : Nat) : Int))) = fun (k : Nat) => V.int (i + (k : Nat)) := by
      funext k
      rw [Nat.zero_add]
    rw [e] at this
    exact this
  exact ⟨.ref s.heap.objs.size, _, I.laid hk (Nat.le_refl _) (show ObjOk X.prog X.w _ h' _ (.lst _) from ⟨by rw [List.length_map, List.length_range]; exact Nat.le_trans (show (j - i).toNat ≤ 100000 by omega) (by decide), acc.toList, c, vv, by rw [Array.toArray_toList]; exact hD⟩), rfl, q _ (I.hok.fresh (Nat.le_refl _))⟩
theorem rLRng_ap {p : Addr} {H : Hp} {Q : VK} : rLRng [.ref p] H Q = ∃ (i j : Int), H p = some (.rng i j) ∧ (0 ≤ i ∧ i ≤ j ∧ j ≤ 100000) ∧ ∀ l, H l = none → Q (.ref l) (upd H l (.lst ((List.range (j - i).toNat).map fun k => V.int (i + (k : Nat))))) := by
  unfold rLRng
  apply propext
  constructor
  · rintro ⟨p', i, j, e, h⟩
    cases e
    exact ⟨i, j, h⟩
  · rintro ⟨i, j, h⟩
    exact ⟨p, i, j, rfl, h⟩
/-- products of ints of many figures -/
theorem op_mulB {X : Cx} : OpR X (binaryOp .Mult) (rI IntMulOk fun i j => .int (i * j)) := opI fun _ _ _ _ _ _ _ hc q => mul_int q hc
/-- within a comprehension: the fragment by its name -/
theorem ix_listK {X : Cx} {K : PySem.W.Frag} (h : X.K = K) : IxR X (rIxL K) := h ▸ ix_list
/-! #### a comprehension over a list -/
def CompL (K : PySem.W.Frag) (a : Addr) (j : Nat) (g : TG) (tc : TT) (te : TE) (σ : St) (H : Hp) (Q : VK) : Prop := ∀ D, H D = none → ∃ W : Nat → Nat → St → Hp → Prop, (∃ m, W 0 m (σ ++ List.replicate j none) (upd H D (.lst []))) ∧ ∀ i m σ1 H2, W i m σ1 H2 →
    ((Itl K a).stop i H2 ∧ Q (.ref D) H2) ∨ ((Itl K a).go i H2 ∧ ∃ N : St → Hp → Prop, (∀ σ' H', N σ' H' → ∃ m', m' < m ∧ W (i + 1) m' σ' H') ∧
      ∀ x H3, (Itl K a).yld i H2 x H3 → g x σ1 H3 fun σ2 H4 => tc σ2 H4 fun b H5 => if b = true then te σ2 H5 fun y H6 => ∃ ys, H6 D = some (.lst ys) ∧ ys.length < sizeLine ∧ N σ2 (upd H6 D (.lst (ys ++ [y]))) else N σ2 H5)
theorem tCompL_ap {K : PySem.W.Frag} {tl : TE} {j : Nat} {g : TG} {tc : TT} {te : TE} {σ : St} {H : Hp} {Q : VK} : tComp (iList K tl) j g tc te σ H Q = tl σ H fun x H1 => ∃ a, x = .ref a ∧ (∃ xs, SqL K H1 a xs) ∧ CompL K a j g tc te σ H1 Q := propext Iff.rfl
theorem CompL.of {K : PySem.W.Frag} {a : Addr} {xs : List V} {j : Nat} {g : TG} {tc : TT} {te : TE} {σ : St} {H : Hp} {Q : VK} (Pv : Addr → Nat → St → Hp → Prop) (h0 : ∀ D, H D = none → Pv D 0 (σ ++ List.replicate j none) (upd H D (.lst [])))
    (hl : ∀ D, H D = none → ∀ i σ1 H1, i ≤ xs.length → Pv D i σ1 H1 → SqL K H1 a xs)
    (hs : ∀ D, H D = none → ∀ i x σ1 H1, xs[i]? = some x → Pv D i σ1 H1 → ∀ U : St → Hp → Prop, (∀ σ' H', Pv D (i + 1) σ' H' → U σ' H') → g x σ1 H1 fun σ2 H4 => tc σ2 H4 fun b H5 => if b = true then te σ2 H5 fun y H6 => ∃ ys, H6 D = some (.lst ys) ∧ ys.length < sizeLine ∧ U σ2 (upd H6 D (.lst (ys ++ [y]))) else U σ2 H5)
    (hd : ∀ D, H D = none → ∀ σ1 H1, Pv D xs.length σ1 H1 → Q (.ref D) H1) : CompL K a j g tc te σ H Q := fun D hD => comp_list (Pv D) (h0 D hD) (hl D hD) (fun i x σ1 H1 hi p => hs D hD i x σ1 H1 hi p _ fun _ _ h => h) (hd D hD)
end Q2
/-! ### refusals in the records' form -/
namespace Q2
open PySem PySem.Spec PyProof.Rows L2
theorem tRaise_ap {C : Addr} {E : XK} {as : TA} {D : Ends} {σ : St} {H : Hp} : tRaise C E as D σ H = as σ H fun vs H1 => vs.length ≤ sizeLine ∧ E (.ref C) none H1 := propext Iff.rfl
theorem tHandN_ap {K : PySem.W.Frag} {cls : Value} {D : Ends} {σ : St} {H : Hp} : tHand K cls [] D σ H = False := propext Iff.rfl
theorem tHandC_ap {K : PySem.W.Frag} {cls c : Value} {t : TS} {r : List (Value × TS)} {D : Ends} {σ : St} {H : Hp} : tHand K cls ((c, t) :: r) D σ H = ∃ b, PySem.W.exmOne K cls c = some b ∧ if b = true then t D σ H else tHand K cls r D σ H := propext Iff.rfl
section
variable {P : Program} {w : World} {K : PySem.W.Frag} {mg : Str → Option Value} {base : Heap} {N : List Str} {qual : Str} {scope : Scope} {f : Addr} {cd : Value} {A : Around} {outer : List Env} {s : Shared} {H : Hp} {E : XK}
theorem ws_raise {c : Str} {C : Addr} {e₀ : Expr} {rest : List Expr} {as : TA} {np cpos pos : Pos} (hg : Gl (cxOf (CX1 P w) P w K mg base N qual scope f cd A outer s H E) c) (hm : mg c = some (.ref C)) (hq : errIn K C = true)
    (ha : WA (cxOf (CX1 P w) P w K mg base N qual scope f cd A outer s H E) (e₀ :: rest) as) (he : starEach (e₀ :: rest) (envOfC qual scope s.heap.objs.size f cd) = (false, eval e₀ (envOfC qual scope s.heap.objs.size f cd)) :: starEach rest (envOfC qual scope s.heap.objs.size f cd))
    (hpl : (backTo cpos (starEach rest (envOfC qual scope s.heap.objs.size f cd))).any (·.1) = false) (hd : (c == ("__debug__" : Str)) = false := by decide) :
    WS (cxOf (CX1 P w) P w K mg base N qual scope f cd A outer s H E) (.Raise (some (.Call (.Name c np) (e₀ :: rest) [] cpos)) none pos) (tRaise C E as) := ⟨ps_raise hg hm hq ha.run he hpl hd⟩
end
theorem we_calE {X : Cx} {CX : CXT} {k : Nat} {x : Str} {ps : List Str} {sp : Sp} {E : XK} {p pos : Pos} {e : Expr} {es : List Expr} {as : TA} (C : Cal X.prog X.w X.K X.mg X.base CX k x ps sp) (hr : Room k X.A) (hg : Gl X x) (hx : Passes CX X E) (ha : WA X (e :: es) as)
    (he : starEach (e :: es) X.env = (false, eval e X.env) :: starEach es X.env) (hpl : (backTo pos (starEach es X.env)).any (·.1) = false) (hdb : (x == ("__debug__" : Str)) = false := by decide) : WE X (.Call (.Name x p) (e :: es) [] pos) (tCall sp [] E as) := by
  obtain ⟨f, fd, F, hb, hk, hm⟩ := C.ex
  exact ⟨pe_call F hr hg hm hk hb .nil hx ha.run hdb he hpl⟩
theorem we_calS {X : Cx} {CX : CXT} {k : Nat} {x : Str} {ps : List Str} {sp : Sp} {E : St → XK} {p pos : Pos} {e : Expr} {es : List Expr} {as : TA} (C : Cal X.prog X.w X.K X.mg X.base CX k x ps sp) (hr : Room k X.A) (hg : Gl X x) (hx : PassesS CX X E) (ha : WA X (e :: es) as)
    (he : starEach (e :: es) X.env = (false, eval e X.env) :: starEach es X.env) (hpl : (backTo pos (starEach es X.env)).any (·.1) = false) (hdb : (x == ("__debug__" : Str)) = false := by decide) : WE X (.Call (.Name x p) (e :: es) [] pos) (tCallS sp E as) := by
  obtain ⟨f, fd, F, hb, hk, hm⟩ := C.ex
  exact ⟨pe_callS F hr hg hm hk hb hx ha.run hdb he hpl⟩
theorem ph_cons {X : Cx} {c : Str} {v : Value} {np pos : Pos} {b₀ : Stmt} {suite : List Stmt} {t : TS} {hs : List ExceptHandler} {l : List (Value × TS)} (hg : Gl X c) (hm : X.mg c = some v) (hd : (c == ("__debug__" : Str)) = false)
    (hb : ∀ x, WSs (mkCx X x) (b₀ :: suite) t) (r : PH X hs l) : PH X (.ExceptHandler (some (.Name c np)) none (b₀ :: suite) pos :: hs) ((v, t) :: l) := .cons hg hm hd (fun x => (hb x).run) r
theorem ws_try {X : Cx} {body : List Stmt} {h₀ : ExceptHandler} {hs : List ExceptHandler} {l : List (Value × TS)} {tb : Ends → TS} {pos : Pos} (hst : X.stack = X.env :: X.outer) (hfm : X.env.frame = some X.env.locals)
    (ph : PH X (h₀ :: hs) l) (hb : ∀ D pn Eb, PassesS (CX1 X.prog X.w) (bodyCx X pn Eb) (fun σ cls _ H' => tHand X.K cls l D σ H') → WSs (bodyCx X pn Eb) body (tb D)) :
    WS X (.Try body (h₀ :: hs) [] [] pos) (tTry tb) := ⟨ps_try hst hfm (fun D pn Eb hx => (hb D pn Eb hx).run) ph⟩
theorem PS.nox' {X : Cx} {st : Stmt} {t : TS} (h : PS X.nox st t) : PS X st t := fun pins s σ H D I hw =>
  wpAny_mono (h pins s σ H D (I.wish _) hw) (fun _ _ q => q.unwish) fun _ _ z => False.elim z
theorem ws_nox {X : Cx} {st : Stmt} {t : TS} (h : WS X.nox st t) : WS X st t := ⟨Q2.PS.nox' h.run⟩
theorem nev {M : Model} {A : Around} {α : Type} {t : Sem α} {Q : α → Shared → Prop} {E : Value → Shared → Prop} {s : Shared} (h : wpAny M A t Q (fun _ _ => False) s) : wpAny M A t Q E s := wpAny_mono h (fun _ _ x => x) fun _ _ z => z.elim
/-- for: an error may leave what is walked, none leaves the body -/
theorem ps_forE {X : Cx} {tg iter : Expr} {body : List Stmt} {wi : TI} {g : TG} {tb : TS} {pos : Pos} (hc : X.calm = true) (hi : PI X tg iter wi) (hg : PG X.nox tg g) (hb : PSs X.nox body tb)
    (hs : ∀ x, foldedSetIterable iter X.env x = pure x) : PS X (.For tg iter body [] pos) (tFor wi g tb) := by
  intro pins s σ H D I h
  refine wpAny_For (thn (hi pins s σ H _ I h) fun v s1 h1 => thn h1 fun itv s2 h2 => ?_) hs
  obtain ⟨it, fp, tn, J, H2, e, I2, T, st2, f2, W, ⟨m0, w0⟩, turn⟩ := h2
  subst e
  have stat : ∀ {H' : Hp}, (∀ b ∈ fp, H' b = none) → ∀ b ∈ fp, FpOk X.nox pins H' b := fun hn b hb => ⟨hn b hb, (f2 b hb).2⟩
  refine codeAny_forLoop_any (fun n s' => ∃ i σ' H', Inv X.nox pins σ' H' s' ∧ tn i s'.heap ∧ (∀ b ∈ fp, H' b = none) ∧ W i n σ' H') ?_ m0 ⟨0, σ, H2, I2.wish _, st2, fun b hb => (f2 b hb).1, w0⟩
  rintro n s3 ⟨i, σ3, H3, I3, st3, fr3, w3⟩
  rcases turn i n σ3 H3 w3 with ⟨stop, qn⟩ | ⟨go, N, hN, step⟩
  · refine nev (thn (T.done X.nox rfl rfl rfl hc i pins s3 σ3 H3 (fun _ _ => False) I3 (stat fr3) st3 stop) fun r s4 ⟨hr, I4⟩ => ?_)
    subst hr
    exact wpAny_execs_nil ⟨σ3, H3, I4.unwish, qn⟩
  · refine nev (thn (T.item X.nox rfl rfl rfl hc i pins s3 σ3 H3 (fun _ _ => False) I3 (stat fr3) st3 go) fun r s4 ⟨u, hr, h4⟩ => ?_)
    subst hr
    refine nev (thn h4 fun _ s5 ⟨x, H5, I5, r5, y5, st5, fr5⟩ => ?_)
    have I5' := I5.pinned (stat fr5) (T.obj _ _ st5)
    refine nev (thn (hg _ s5 σ3 H5 x u _ I5' r5 (step x H5 y5)) fun _ s6 ⟨σ6, H6, I6, q6⟩ => ?_)
    refine nev (thn (hb _ s6 σ6 H6 _ I6 q6) fun f s7 q7 => ?_)
    have again : ∀ {σ7 : St} {H7 : Hp}, Inv X.nox (pins ++ pinsAt fp s5.heap) σ7 H7 s7 → N σ7 H7 → ∃ m, m < n ∧ ∃ i σ' H', Inv X.nox pins σ' H' s7 ∧ tn i s7.heap ∧ (∀ b ∈ fp, H' b = none) ∧ W i m σ' H' := fun {σ7 H7} I7 n7 => by
      obtain ⟨m', hm, w7⟩ := hN σ7 H7 n7
      refine ⟨m', hm, i + 1, σ7, H7, I7.unpinned, T.keep _ _ _ st5 fun b hb o e => (I7.pin (b, o) (List.mem_append_right _ (List.mem_append_right _ (mem_pinsAt hb e)))).1, fun b hb => ?_, w7⟩
      obtain ⟨o, e, d⟩ := T.obj _ _ st5 b hb
      exact (I7.pin (b, o) (List.mem_append_right _ (List.mem_append_right _ (mem_pinsAt hb e)))).2.1
    cases f with
    | next => obtain ⟨σ7, H7, I7, n7⟩ := q7; exact again I7 n7
    | cont => obtain ⟨σ7, H7, I7, n7⟩ := q7; exact again I7 n7
    | brk => obtain ⟨σ7, H7, I7, q7⟩ := q7; exact ⟨σ7, H7, I7.unpinned.unwish, q7⟩
    | ret v => obtain ⟨x7, σ7, H7, I7, r7, q7⟩ := q7; exact ⟨x7, σ7, H7, I7.unpinned.unwish, r7, q7⟩
theorem ws_forE {X : Cx} {tg iter : Expr} {body : List Stmt} {wi : TI} {g : TG} {t : TS} {pos : Pos} (hc : X.calm = true) (hi : WI X tg iter wi) (hg : WG X.nox tg g) (hb : WSs X.nox body t) (hs : ∀ x, foldedSetIterable iter X.env x = pure x) : WS X (.For tg iter body [] pos) (tFor wi g t) :=
  ⟨ps_forE hc hi.run hg.run hb.run hs⟩
end Q2
/-! ### an error that is held by a name: its class, asked by isinstance -/
namespace Q2
open PySem PySem.Spec PyProof.Rows L2 PySem.W PySem.Calls Builtin Builtin.ObjectAttr Builtin.Getset_descriptor
section
variable {prog : Program} {w : World} {A : Around} {E : Value → Shared → Prop} {s : Shared} {K : PySem.W.Frag} {x C : Addr}
theorem exc_class_get {tp : Value} {R : Result → Shared → Prop} (X : K.In s.heap) (L0 : Looks (model prog w) s.heap (typeOf (.ref x)) (.ref C)) (hm : mroIn K C (.type "object") = some true)
    (h : R (.ok (.ret (.ref C))) s) : codeAny (model prog w) A (.call (.builtin "getset_descriptor.__get__") ⟨[.builtin "object.__class__", .ref x, tp], []⟩) R s := by
  obtain ⟨hh, g, dr, t, os⟩ := s
  have L1 := looks_mroIn (M := model prog w) X hm
  refine codeAny_call_builtin KF.slot_gs.plain KF.entry_gs (KF.slot_gs.check _ _ _ _ _ _ _ _ KF.type_class (KF.args_gs _ _ _) ?_)
  unfold Builtin.«getset_descriptor.__get__» descrGet
  rw [dga_obj]
  refine wpAny_bind (wpAny_pure ?_)
  unfold descrGetter descrCheckInstance descrNameAndClass isInstance
  simp only [KF.owner_class]
  repeat lk
  refine ⟨Code.quiet_builtin _ (by decide +kernel), codeAny_builtin KF.entry_class ?_⟩
  unfold Builtin.«object.__class__» shownTypeOf
  repeat lk
  exact h
theorem exc_class_entry {tk : Tok} {Q : Fin → Shared → Prop} (X : K.In s.heap) (L0 : Looks (model prog w) s.heap (typeOf (.ref x)) (.ref C)) (hm : mroIn K C (.type "object") = some true)
    (ha : findIn K (.ref C) "__class__" = some (some (.builtin "object.__class__"))) (hq : Q (.done (.ret (.ref C))) s) :
    wpAny (model prog w) A (Builtin.«object.__getattribute__» ⟨[.ref x, .str "__class__" tk], []⟩) Q E s := by
  obtain ⟨hh, g, d, t, os⟩ := s
  have La := looks_findIn (M := model prog w) X ha
  have hT5 : (⟨hh, g, d, t, os⟩ : Shared).TypeIs (.builtin "object.__class__") "getset_descriptor" := F.typeOf_object_class
  have f5 := F.typeOf_object_class
  have f6 := F.slot_gs_get.lookup
  have f7 := F.slot_gs_set.lookup
  repeat (any_goals (first | assumption | with_reducible refine L0.at ?_ | with_reducible refine La.at ?_ | wp_step))
  refine exc_class_get (s := ⟨hh, g, d, t, os⟩) X L0 hm ?_
  repeat (any_goals (first | assumption | wp_step))
theorem exc_check_ga {nameV : Value} {Q : Unit → Shared → Prop} (X : K.In s.heap) (L0 : Looks (model prog w) s.heap (typeOf (.ref x)) (.ref C)) (hb : mroIn K C (.type "BaseException") = some true) (hq : Q () s) :
    wpAny (model prog w) A (checkBuiltinCall "BaseException.__getattribute__" ⟨[.ref x, nameV], []⟩) Q E s := by
  obtain ⟨hh, g, d, t, os⟩ := s
  have hk : builtinKind "BaseException.__getattribute__" = some .slot := by decide +kernel
  have hsplit : splitId "BaseException.__getattribute__" = some ("BaseException", "__getattribute__") := by decide +kernel
  have L1 := looks_mroIn (M := model prog w) X hb
  have ha := F.args_bexc_ga (.ref x) nameV
  simp only [checkBuiltinCall, hk, hsplit]
  refine wpAny_bind ?_
  unfold isInstance
  repeat (first | with_reducible refine L0.at ?_ | with_reducible refine L1.at ?_ | wp_step)
  exact hq
theorem exc_class_call {tk : Tok} {R : Result → Shared → Prop} (X : K.In s.heap) (L0 : Looks (model prog w) s.heap (typeOf (.ref x)) (.ref C)) (hm : mroIn K C (.type "object") = some true) (hb : mroIn K C (.type "BaseException") = some true)
    (ha : findIn K (.ref C) "__class__" = some (some (.builtin "object.__class__"))) (hq : R (.ok (.ret (.ref C))) s) :
    codeAny (model prog w) A (.call (.builtin "BaseException.__getattribute__") ⟨[.ref x, .str "__class__" tk], []⟩) R s :=
  codeAny_call_builtin PySem.F.attrBase_ValueError.ga.plain F.entry_bexc_ga (exc_check_ga X L0 hb (exc_class_entry X L0 hm ha hq))
theorem exc_class_by {tk : Tok} {Q : Value → Shared → Prop} (X : K.In s.heap) (L0 : Looks (model prog w) s.heap (typeOf (.ref x)) (.ref C)) (hm : mroIn K C (.type "object") = some true) (hb : mroIn K C (.type "BaseException") = some true)
    (ha : findIn K (.ref C) "__class__" = some (some (.builtin "object.__class__"))) (hg : findIn K (.ref C) "__getattribute__" = some (some (.builtin "BaseException.__getattribute__"))) (hk : findIn K (.ref C) "__getattr__" = some none) (hq : Q (.ref C) s) :
    wpAny (model prog w) A (getAttrBy (.ref x) (.str "__class__" tk) false) Q E s := by
  obtain ⟨hh, g, d, t, os⟩ := s
  have Lg := looks_findIn (M := model prog w) X hg
  have Lk := looks_findIn (M := model prog w) X hk
  have f3 := PySem.F.attrBase_ValueError.ga.bind (.ref x)
  have hx0 : (false && onTheHeap (Value.builtin "BaseException.__getattribute__")) = false := rfl
  have hx2 : (Value.builtin "BaseException.__getattribute__" == Value.builtin "object.__getattribute__") = false := by decide +kernel
  have hx1 : (onTheHeap (Value.ref C) && Value.builtin "BaseException.__getattribute__" == Value.builtin "object.__getattribute__") = false := by rw [hx2]; rfl
  repeat (any_goals (first | assumption | with_reducible refine L0.at ?_ | with_reducible refine Lg.at ?_ | with_reducible refine Lk.at ?_ | wp_step))
  refine exc_class_call (s := ⟨hh, g, d, t, os⟩) X L0 hm hb ha ?_
  repeat (any_goals (first | assumption | wp_step))
theorem exc_class_attr {Q : Option Value → Shared → Prop} (X : K.In s.heap) (L0 : Looks (model prog w) s.heap (typeOf (.ref x)) (.ref C)) (hm : mroIn K C (.type "object") = some true) (hb : mroIn K C (.type "BaseException") = some true)
    (ha : findIn K (.ref C) "__class__" = some (some (.builtin "object.__class__"))) (hg : findIn K (.ref C) "__getattribute__" = some (some (.builtin "BaseException.__getattribute__"))) (hk : findIn K (.ref C) "__getattr__" = some none) (hq : Q (some (.ref C)) { s with toks := s.toks + 1 }) :
    wpAny (model prog w) A (getAttr? (.ref x) "__class__") Q E s := by
  obtain ⟨hh, g, d, t, os⟩ := s
  unfold getAttr? getAttrBy?
  repeat (any_goals (first | assumption | with_reducible apply exc_class_by (s := ⟨hh, g, d, t + 1, os⟩) X L0 hm hb ha hg hk | wp_step))
/-- what isinstance wants of the error's class -/
structure ExcK (K : PySem.W.Frag) (C : Addr) : Prop where
  cls : (clsIn K C).isSome = true
  obj : mroIn K C (.type "object") = some true
  base : mroIn K C (.type "BaseException") = some true
  at_ : findIn K (.ref C) "__class__" = some (some (.builtin "object.__class__"))
  ga : findIn K (.ref C) "__getattribute__" = some (some (.builtin "BaseException.__getattribute__"))
  gt : findIn K (.ref C) "__getattr__" = some none
theorem kitx_exc (Z : ExcK K C) : KitX K (.ref x) (.ref C) (fun h => ∃ o, h.get? x = some o ∧ o.cls = .ref C) where
  ty := fun _ _ _ ⟨o, h1, h2⟩ => h2 ▸ (Looks.ld h1).andThen .now
  it := fun _ _ X _ => by
    obtain ⟨cdD, hcD⟩ := Option.isSome_iff_exists.mp Z.cls
    unfold clsIn at hcD
    split at hcD
    · rename_i c' d' cd' sl' ho
      intro A' Q' E' s' k q
      unfold isType loadHead
      exact wpAny_bind (wpAny_loadPart (k _ _ (X _ _ ho)) (wpAny_pure q))
    · cases hcD
  ne := fun h tp dd its n sl X htp => by
    obtain ⟨cdD, hcD⟩ := Option.isSome_iff_exists.mp Z.cls
    refine Bool.eq_false_iff.mpr fun q => ?_
    have e : C = tp := Value.ref.inj (beq_iff_eq.mp q)
    subst e
    unfold clsIn at hcD
    split at hcD
    · rename_i c' d' cd' sl' ho
      have z := (X _ _ ho).symm.trans htp
      cases z
    · cases hcD
  ca := fun X ⟨o, h1, h2⟩ k => exc_class_attr X (h2 ▸ (Looks.ld h1).andThen .now) Z.obj Z.base Z.at_ Z.ga Z.gt k
end
/-! #### isinstance of an error whose object is pinned -/
def rIsiE (K : PySem.W.Frag) (x C : Addr) : List V → Hp → VK → Prop := fun xs H Q => ExcK K C ∧ ((∃ d b, xs = [.ref x, .ref d] ∧ kitOne K (.ref C) (.ref d) = some b ∧ Q (.bl b) H) ∨ ∃ T b, xs = [.ref x, .ty T] ∧ kitOne K (.ref C) (.type T) = some b ∧ Q (.bl b) H)
theorem call_isiE {X : Cx} {x C : Addr} {ob : Obj} (hp : (x, ob) ∈ X.pn) (hc : ob.cls = .ref C) : CallR X (.builtin "isinstance") (rIsiE X.K x C) := by
  intro pins s σ H xs us Q I r h
  obtain ⟨Z, h⟩ := h
  have hx : ∃ o, s.heap.get? x = some o ∧ o.cls = .ref C := ⟨ob, (I.pin (x, ob) (List.mem_append_left _ hp)).1, hc⟩
  rcases h with ⟨d, b, rfl, e, q⟩ | ⟨T, b, rfl, e, q⟩
  · obtain ⟨u, v, rfl, rx, ry⟩ := r.two
    obtain rfl : u = Value.ref x := rx
    obtain rfl : v = Value.ref d := ry
    exact kia_one (kitx_exc Z) I.kIn hx e (fun z => nomatch z) fun tk => ⟨.bl b, H, I.tok _, rfl, q⟩
  · obtain ⟨u, v, rfl, rx, ry⟩ := r.two
    obtain rfl : u = Value.ref x := rx
    obtain rfl : v = Value.type T := ry
    exact kia_one (kitx_exc Z) I.kIn hx e (fun z => nomatch z) fun tk => ⟨.bl b, H, I.tok _, rfl, q⟩
theorem rIsiE1_ap {K : PySem.W.Frag} {x C d : Addr} {H : Hp} {Q : VK} : rIsiE K x C [.ref x, .ref d] H Q = (ExcK K C ∧ ∃ b, kitOne K (.ref C) (.ref d) = some b ∧ Q (.bl b) H) := by
  unfold rIsiE
  apply propext
  constructor
  · rintro ⟨Z, ⟨d', b, e, h⟩ | ⟨T, b, e, h⟩⟩
    · cases e
      exact ⟨Z, b, h⟩
    · cases e
  · rintro ⟨Z, b, h⟩
    exact ⟨Z, .inl ⟨d, b, rfl, h⟩⟩
theorem rIsiE2_ap {K : PySem.W.Frag} {x C : Addr} {T : String} {H : Hp} {Q : VK} : rIsiE K x C [.ref x, .ty T] H Q = (ExcK K C ∧ ∃ b, kitOne K (.ref C) (.type T) = some b ∧ Q (.bl b) H) := by
  unfold rIsiE
  apply propext
  constructor
  · rintro ⟨Z, ⟨d', b, e, h⟩ | ⟨T', b, e, h⟩⟩
    · cases e
    · cases e
      exact ⟨Z, b, h⟩
  · rintro ⟨Z, b, h⟩
    exact ⟨Z, .inr ⟨T, b, rfl, h⟩⟩
theorem boot_ValueError : bootBuiltins "ValueError" = some (.type "ValueError") := by decide +kernel
theorem we_glob {X : Cx} {x : Str} {v : V} {u : Value} {pos : Pos} (hg : Gl X x) (hm : X.mg x = some u) (r : RelV v u) (hd : (x == ("__debug__" : Str)) = false := by decide) : WE X (.Name x pos) (tC v) := ⟨pe_glob hg hm r hd⟩
/-! #### count over a list of bools -/
def rCountB (K : PySem.W.Frag) : V → List V → Hp → VK → Prop := fun x vs H Q => ∃ (l : Addr) (bs : List Bool) (k : Bool), x = .ref l ∧ vs = [.bl k] ∧ SqL K H l (bs.map V.bl) ∧ Q (.int ((bs.count k : Nat) : Int)) H
theorem bools_of : ∀ {bs : List Bool} {us : List Value}, Vals (bs.map V.bl) us → us = bs.map Value.bool
  | [], _, r => by cases r; rfl
  | b :: bs, _, r => by
    cases r with
    | cons r rr =>
      obtain rfl : _ = Value.bool b := r
      rw [bools_of rr]
      rfl
theorem count_bools (k : Bool) : ∀ bs : List Bool, (bs.map Value.bool).countP (isBoolOf k) = bs.count k
  | [] => rfl
  | b :: bs => by
    rw [List.map_cons, List.countP_cons, count_bools k bs, List.count_cons]
    rfl
theorem mt_countB {X : Cx} : MtR X "list.count" (rCountB X.K) := by
  intro pins s σ H x vs v us Q I rx rv h
  obtain ⟨l, bs, k, rfl, rfl, hl, q⟩ := h
  cases rx
  obtain ⟨u, rfl, ru⟩ := rv.one
  obtain rfl : u = Value.bool k := ru
  obtain ⟨its, r, pl, _⟩ := I.list hl
  have e := bools_of r
  subst e
  obtain ⟨⟨cls, dd, data, sl⟩, ho, hc, n, hd⟩ := pl.isList
  simp only at hc hd
  subst hc hd
  refine call_meets PySem.F.slot_list_count ⟨_, ho, rfl⟩ PySem.F.entry_list_count (PySem.F.args_list_count_2 _ _) (SeqAt.list_countAt l _ n dd sl (.bool k) (isBoolOf k)) ⟨ho, fun y hy => ?_, ?_⟩
  · obtain ⟨b, _, rfl⟩ := List.mem_map.mp (show y ∈ bs.map Value.bool by simpa using hy)
    exact SeqAt.EqAt.bool_bool b k
  · rw [show (bs.map Value.bool).toArray.toList = bs.map Value.bool from rfl, count_bools]
    exact ⟨.int _, H, I.tok _, ⟨_, rfl⟩, q⟩
theorem rCountB_ap {K : PySem.W.Frag} {l : Addr} {k : Bool} {H : Hp} {Q : VK} : rCountB K (.ref l) [.bl k] H Q = ∃ bs : List Bool, SqL K H l (bs.map V.bl) ∧ Q (.int ((bs.count k : Nat) : Int)) H := by
  unfold rCountB
  apply propext
  constructor
  · rintro ⟨l', bs, k', e1, e2, h⟩
    cases e1
    cases e2
    exact ⟨bs, h⟩
  · rintro ⟨bs, h⟩
    exact ⟨l, bs, k, rfl, rfl, h⟩
theorem rIn_ap {K : PySem.W.Frag} {x : V} {p : Addr} {H : Hp} {Q : VK} : rIn K false x (.ref p) H Q = ∃ xs, (SqL K H p xs ∨ SqT K H p xs) ∧ flatV x = true ∧ xs.all flatV = true ∧ Q (.bl (inV x xs)) H := by
  unfold rIn
  apply propext
  constructor
  · rintro ⟨p', xs, e, h⟩
    cases e
    exact ⟨xs, h⟩
  · rintro ⟨xs, h⟩
    exact ⟨p, xs, rfl, h⟩
/-! #### except C as n: a suite that ends with return -/
def asCx (X : Cx) (x : Addr) (ob : Obj) : Cx := { X with A := X.A.mark (some (.ref x)), calm := false, xe := noX, pn := X.pn ++ [(x, ob)] }
def tAs (K : PySem.W.Frag) (v : Value) (i : Nat) (t : Addr → Addr → TS) (cls : Value) : TS := fun D σ H => ∃ C, cls = .ref C ∧ ∃ b, exmOne K (.ref C) v = some b ∧ b = true ∧ ∀ x, t x C { nx := fun _ _ => False, rt := D.rt } (σ.set i (some (.ref x))) H
theorem Inv.goes {X : Cx} {pins : List (Addr × Obj)} {σ : St} {H : Hp} {s : Shared} {h' : Heap} {m' : Str → Option Value} {tk : Nat} (I : Inv X pins σ H s) (hn : h'.Ns X.env.locals m') (hs : Heap.SameBut X.env.locals s.heap h') :
    Inv X pins (List.replicate σ.length none) H { s with heap := h', toks := tk } := by
  obtain ⟨m, hn0, _⟩ := id I.loc
  obtain ⟨oL, _, _, hoL, _⟩ := id hn0
  have cne := I.cne
  refine ⟨I.ok, I.os, I.bare, ⟨fun b o e n hb hx => ?_, fun b o e n hb hx => ?_, I.base.free, fun b o e hx => ?_, I.base.tups, I.base.frzs, I.base.tbls⟩, ⟨_, hn, fun j y v' e1 e2 e3 => ?_⟩, fun y c e => ?_, I.free, I.freeC, fun p hp => ?_, fun b ob e => ?_, by rw [List.length_replicate]; exact I.len⟩
  · exact (hs.2 b (Nat.ne_of_lt (Nat.lt_of_lt_of_le (Heap.lt_size e) I.ok.above))).trans (I.base.keep b o e n hb hx)
  · obtain ⟨sl, e1⟩ := I.base.slot b o e n hb hx
    exact ⟨sl, (hs.2 b (Nat.ne_of_lt (Nat.lt_of_lt_of_le (Heap.lt_size e) I.ok.above))).trans e1⟩
  · obtain ⟨o', e1⟩ := I.base.there b o e hx
    exact ⟨o', (hs.2 b (Nat.ne_of_lt (Nat.lt_of_lt_of_le (Heap.lt_size e) I.ok.above))).trans e1⟩
  · rw [List.getElem?_replicate] at e2
    split at e2 <;> cases e2
  · obtain ⟨w', z⟩ := I.cell y c e
    exact ⟨w', z.sameBut hs (cne y c e)⟩
  · obtain ⟨e, n, ne, nf, d⟩ := I.pin p hp
    exact ⟨(hs.2 p.1 ne).trans e, n, ne, nf, d⟩
  · refine (I.hok b ob e).stay (fun c w' hc q => (hs.2 c ?_).trans q) (fun _ q => q) fun _ _ q => q
    rintro rfl
    have hfree := I.free
    rcases hc with rfl | hc
    · rw [hfree] at e; cases e
    · rw [hfree] at hc; cases hc
theorem handleAs {X : Cx} {c n : Str} {v : Value} {np pos : Pos} {b₀ : Stmt} {suite : List Stmt} {t : Addr → Addr → TS} {i : Nat} (hg : Gl X c) (hm : X.mg c = some v) (hd : (c == ("__debug__" : Str)) = false) (hN : X.N.Nodup) (hi : X.N[i]? = some n)
    (hl : X.env.scope.names.lookup n = some .local) (hst : X.stack = X.env :: X.outer) (hfm : X.env.frame = some X.env.locals) (hb : ∀ x C ob, ob.cls = .ref C → PSs (asCx X x ob) (b₀ :: suite) (t x C))
    {pins : List (Addr × Obj)} {σ : St} {H H' : Hp} {s s' : Shared} {x : Addr} {cls : Value} {D : Ends} (I : Inv X pins σ H s) (F : Fly X.prog X.w X.stack H s H' x cls s') (h : tAs X.K v i t cls D σ H') :
    wpAny (model X.prog X.w) X.A (handleBy (.ref x) X.env [.ExceptHandler (some (.Name c np)) (some n) (b₀ :: suite) pos]) (SP X pins D) X.xe s' := by
  obtain ⟨C, rfl, b, hx, rfl, ht⟩ := h
  obtain ⟨B, a0, fl, k1, k3, k2⟩ := F.fly
  have I1 : Inv X pins σ H' s' := I.call' (ch := []) F.os F.un F.hok F.bare fun b z => absurd z (by simp)
  have I2 : Inv (mkCx X x) pins σ H' s' := Q2.Inv.mk' I1 x
  refine wpAny_handleBy_cons (codeAny_handlers_test ?_) (by intro q; cases q)
  refine ld_glob I2 (x := c) (u := v) hg hm ?_ hd
  refine (PySem.W.exm_one I2.kIn (fly_ty fl) hx).here ?_
  refine codeAny_handlers_suite_as ?_
  refine lands_againW fl fun h6 fl6 up6 => ?_
  have F6 : Fly X.prog X.w X.stack H s H' x (.ref C) { s' with heap := h6 } := F.turn k1 k3 k2 fl fl6.1 up6 fl6
  have I6 : Inv X pins σ H' { s' with heap := h6 } := I.call' (ch := []) F6.os F6.un F6.hok F6.bare fun b z => absurd z (by simp)
  obtain ⟨oe, vs, T, oT, ts, he, hc, hdata, _⟩ := id fl6.2.2.2
  have notfr : ∀ a, a ∈ frs X.stack → x ≠ a := fun a ha e => by
    subst e
    obtain ⟨_, o', e3, nf⟩ := fl6.2.2.1.mem ha
    rw [he] at e3
    cases e3
    exact nf vs hdata
  have hHx : H' x = none := by
    cases e : H' x with
    | none => rfl
    | some u =>
      obtain ⟨ob, hob, _⟩ := fl.there
      have z := k2 x u ob e hob
      rw [fl.2.1] at z
      cases z
  have okA : (asCx X x oe).Ok := ⟨I6.ok.mod, I6.ok.kind, I6.ok.glob, I6.ok.blt, I6.ok.above, I6.ok.inj, I6.ok.has, I6.ok.cab, fun z => absurd z (by show ¬ (false = true); decide), I6.ok.frames, I6.ok.stk, I6.ok.exf, I6.ok.bs, I6.ok.bsz, I6.ok.noex, I6.ok.exfs, I6.ok.funs, I6.ok.frf⟩
  have IA : Inv (asCx X x oe) pins σ H' { s' with heap := h6 } := ⟨okA, I6.os, I6.bare, I6.base, I6.loc, I6.cell, I6.free, I6.freeC, fun p hp => by
    rcases List.mem_append.mp (show p ∈ (X.pn ++ [(x, oe)]) ++ pins from hp) with z | z
    · rcases List.mem_append.mp z with z | z
      · exact I6.pin p (List.mem_append_left _ z)
      · rw [List.mem_singleton.mp z]
        refine ⟨he, hHx, notfr _ ?_, fun hf => notfr x ?_ rfl, fun v e => ?_⟩
        · unfold frs
          rw [hst]
          exact List.mem_filterMap.mpr ⟨X.env, List.mem_cons_self, hfm⟩
        · have hf : x ∈ frs X.outer := hf
          unfold frs at hf ⊢
          obtain ⟨env, h1, h2⟩ := List.mem_filterMap.mp hf
          rw [hst]
          exact List.mem_filterMap.mpr ⟨env, List.mem_cons_of_mem _ h1, h2⟩
        · rw [hdata] at e
          cases e
    · exact I6.pin p (List.mem_append_right _ z), I6.hok, I6.len⟩
  refine store_ok (X := asCx X x oe) (v := .ref x) IA hN hi (.inl hl) rfl (fun s7 I7 => ?_) (.inr hl)
  refine wpAny_mono (hb x C oe hc.1 pins s7 _ H' _ I7 (ht x)) (fun f s8 q => ?_) (fun _ _ z => z.elim)
  cases f with
  | next => obtain ⟨_, _, _, z⟩ := q; exact z.elim
  | brk => obtain ⟨_, _, _, z⟩ := q; exact z.elim
  | cont => obtain ⟨_, _, _, z⟩ := q; exact z.elim
  | ret u =>
    obtain ⟨v8, σ8, H8, I8, r8, q8⟩ := q
    have I9 : Inv X pins σ8 H8 s8 := ⟨⟨I8.ok.mod, I8.ok.kind, I8.ok.glob, I8.ok.blt, I8.ok.above, I8.ok.inj, I8.ok.has, I8.ok.cab, I6.ok.hd, I8.ok.frames, I8.ok.stk, I8.ok.exf, I8.ok.bs, I8.ok.bsz, I8.ok.noex, I8.ok.exfs, I8.ok.funs, I8.ok.frf⟩,
      I8.os, I8.bare, I8.base, I8.loc, I8.cell, I8.free, I8.freeC, fun p hp => I8.pin p (by
        rcases List.mem_append.mp hp with z | z
        · exact List.mem_append_left _ (List.mem_append_left _ z)
        · exact List.mem_append_right _ z), I8.hok, I8.len⟩
    obtain ⟨m, hn, _⟩ := id I9.loc
    have hcls : (X.env.scope.kind == .class || (X.env.scope.kind == .module && X.env.locals != X.env.globals)) = false := by rw [I9.ok.kind]; rfl
    refine wpAny_nameGoes hl hn hcls fun h9 m9 hn9 hs9 => ?_
    exact ⟨v8, _, H8, Q2.Inv.goes I9 hn9 hs9, r8, q8⟩
theorem ps_tryAs {X : Cx} {body : List Stmt} {c n : Str} {v : Value} {np hpos pos : Pos} {b₀ : Stmt} {suite : List Stmt} {t : Addr → Addr → TS} {i : Nat} {tb : Ends → TS} (hst : X.stack = X.env :: X.outer) (hfm : X.env.frame = some X.env.locals)
    (hg : Gl X c) (hm : X.mg c = some v) (hd : (c == ("__debug__" : Str)) = false) (hN : X.N.Nodup) (hi : X.N[i]? = some n) (hl : X.env.scope.names.lookup n = some .local) (hs : ∀ x C ob, ob.cls = .ref C → PSs (asCx X x ob) (b₀ :: suite) (t x C))
    (hb : ∀ D pn Eb, PassesS (CX1 X.prog X.w) (bodyCx X pn Eb) (fun σ cls _ H' => tAs X.K v i t cls D σ H') → PSs (bodyCx X pn Eb) body (tb D)) :
    PS X (.Try body [.ExceptHandler (some (.Name c np)) (some n) (b₀ :: suite) hpos] [] [] pos) (tTry tb) := by
  intro pins s σ H D I h
  have toX : ∀ {Eb : Value → Shared → Prop} {pl : List (Addr × Obj)} {σ' : St} {H' : Hp} {s' : Shared}, Inv (bodyCx X (X.pn ++ pins) Eb) pl σ' H' s' → Inv X pins σ' H' s' := fun J =>
    ⟨⟨J.ok.mod, J.ok.kind, J.ok.glob, J.ok.blt, J.ok.above, J.ok.inj, J.ok.has, J.ok.cab, J.ok.hd, J.ok.frames, J.ok.stk, J.ok.exf, J.ok.bs, J.ok.bsz, J.ok.noex, J.ok.exfs, J.ok.funs, J.ok.frf⟩, J.os, J.bare, J.base, J.loc, J.cell, J.free, J.freeC, fun p hp => J.pin p (List.mem_append_left _ hp), J.hok, J.len⟩
  refine wpAny_Try_except ?_
  generalize hEb : (fun (e : Value) (s₁ : Shared) => wpAny (model X.prog X.w) X.A (noteFrame e X.env) (fun _ s₂ => wpAny (model X.prog X.w) X.A (setFlight e none) (fun _ s₃ => wpAny (model X.prog X.w) X.A (handleBy e X.env [.ExceptHandler (some (.Name c np)) (some n) (b₀ :: suite) hpos]) (SP X pins D) X.xe s₃) X.xe s₂) X.xe s₁) = Eb
  have pass : PassesS (CX1 X.prog X.w) (bodyCx X (X.pn ++ pins) Eb) (fun σ cls _ H' => tAs X.K v i t cls D σ H') := by
    intro pl σ1 H1 s1 e s' J hcx
    obtain ⟨x, cls, H', rfl, F, hE⟩ := hcx
    obtain ⟨B, a0, fl, k1, k3, k2⟩ := F.fly
    have IX : Inv X pins σ1 H1 s1 := toX J
    show Eb (.ref x) s'
    rw [← hEb]
    have fl' : Heap.FlyingW B (X.env :: X.outer) x cls a0 s'.heap := by rw [← hst]; exact fl
    refine wpAny_looks_onW (by rw [IX.ok.frames, hst]) hfm fl' fun h4 held up4 => ?_
    refine wpAny_landsW held fun h5 fl5 up5 => ?_
    have fl5' : Heap.FlyingW B X.stack x cls a0 h5 := by rw [hst]; exact fl5
    exact handleAs hg hm hd hN hi hl hst hfm hs IX (F.turn (h' := h5) k1 k3 k2 fl fl5.1 (up4.trans up5) fl5') hE
  have J0 : Inv (bodyCx X (X.pn ++ pins) Eb) [] σ H s :=
    ⟨⟨I.ok.mod, I.ok.kind, I.ok.glob, I.ok.blt, I.ok.above, I.ok.inj, I.ok.has, I.ok.cab, I.ok.hd, I.ok.frames, I.ok.stk, I.ok.exf, I.ok.bs, I.ok.bsz, I.ok.noex, I.ok.exfs, I.ok.funs, I.ok.frf⟩, I.os, I.bare, I.base, I.loc, I.cell, I.free, I.freeC, fun p hp => I.pin p (by rw [List.append_nil] at hp; exact hp), I.hok, I.len⟩
  refine wpAny_mono (hb D (X.pn ++ pins) Eb pass [] s σ H D J0 h) (fun f s1 q => ?_) fun e s1 q => q
  cases f with
  | next =>
    obtain ⟨σ', H', J, q⟩ := q
    exact wpAny_execs_nil ⟨σ', H', toX J, q⟩
  | brk => obtain ⟨σ', H', J, q⟩ := q; exact ⟨σ', H', toX J, q⟩
  | cont => obtain ⟨σ', H', J, q⟩ := q; exact ⟨σ', H', toX J, q⟩
  | ret u => obtain ⟨v, σ', H', J, r, q⟩ := q; exact ⟨v, σ', H', toX J, r, q⟩
theorem ws_tryAs {X : Cx} {body : List Stmt} {c n : Str} {v : Value} {np hpos pos : Pos} {b₀ : Stmt} {suite : List Stmt} {t : Addr → Addr → TS} {i : Nat} {tb : Ends → TS} (hst : X.stack = X.env :: X.outer) (hfm : X.env.frame = some X.env.locals)
    (hg : Gl X c) (hm : X.mg c = some v) (hd : (c == ("__debug__" : Str)) = false) (hN : X.N.Nodup) (hi : X.N[i]? = some n) (hl : X.env.scope.names.lookup n = some .local) (hs : ∀ x C ob, ob.cls = .ref C → WSs (asCx X x ob) (b₀ :: suite) (t x C))
    (hb : ∀ D pn Eb, PassesS (CX1 X.prog X.w) (bodyCx X pn Eb) (fun σ cls _ H' => tAs X.K v i t cls D σ H') → WSs (bodyCx X pn Eb) body (tb D)) :
    WS X (.Try body [.ExceptHandler (some (.Name c np)) (some n) (b₀ :: suite) hpos] [] [] pos) (tTry tb) := ⟨ps_tryAs hst hfm hg hm hd hN hi hl (fun x C ob h => (hs x C ob h).run) fun D pn Eb h => (hb D pn Eb h).run⟩
theorem tAs_ap {K : PySem.W.Frag} {v : Value} {i : Nat} {t : Addr → Addr → TS} {C : Addr} {D : Ends} {σ : St} {H : Hp} : tAs K v i t (.ref C) D σ H = ∃ b, exmOne K (.ref C) v = some b ∧ b = true ∧ ∀ x, t x C { nx := fun _ _ => False, rt := D.rt } (σ.set i (some (.ref x))) H := by
  unfold tAs
  apply propext
  constructor
  · rintro ⟨C', e, h⟩
    cases e
    exact h
  · intro h
    exact ⟨C, rfl, h⟩
/-! #### the fragment by its name -/
theorem call_isiEK {X : Cx} {K : PySem.W.Frag} {x C : Addr} {ob : Obj} (hK : X.K = K) (hp : (x, ob) ∈ X.pn) (hc : ob.cls = .ref C) : CallR X (.builtin "isinstance") (rIsiE K x C) := hK ▸ call_isiE hp hc
theorem mt_countBK {X : Cx} {K : PySem.W.Frag} (hK : X.K = K) : MtR X "list.count" (rCountB K) := hK ▸ mt_countB
theorem we_bmK {X : Cx} {K : PySem.W.Frag} {o e : Expr} {te : TE} {as : TA} {apos cpos : Pos} {T id : String} {name : Str} {r : V → List V → Hp → VK → Prop} (hK : X.K = K) (pa : PlainAttrs T) (slot : Slot T name id) (hty : typeOf (.builtin id) = pure (.type "method_descriptor")) (hm : MtR X id r) (ho : WE X o te) (ha : WA X [e] as)
    (hs : starEach [e] X.env = (false, eval e X.env) :: starEach [] X.env) (hbase : attributeBase o name X.env (eval o X.env) = eval o X.env) (hline : (apos.endLine == cpos.line) = true := by rfl) :
    WE X (.Call (.Attribute o name apos) [e] [] cpos) (tBM K T r te as) := hK ▸ we_bm pa slot hty hm ho ha hs hbase hline
end Q2
theorem Q2.W : type_of% (And.intro @Q2.tNext_ap (And.intro @Q2.tSeq_ap (And.intro @Q2.tBreak_ap (And.intro @Q2.tCont_ap (And.intro @Q2.tDrop_ap (And.intro @Q2.tRet_ap (And.intro @Q2.tRetN_ap (And.intro @Q2.tNever_ap (And.intro @Q2.tIfS_ap (And.intro @Q2.tAsg_ap (And.intro @Q2.tC_ap (And.intro @Q2.tOp_ap (And.intro @Q2.tUn_ap (And.intro @Q2.rI0_ap (And.intro @Q2.rI_ap (And.intro @Q2.rU_ap (And.intro @Q2.rEq_ap (And.intro @Q2.rNe_ap (And.intro @Q2.rEqB_ap (And.intro @Q2.rNeB_ap (And.intro @Q2.tTest_ap (And.intro @Q2.tB_ap (And.intro @Q2.tAnd_ap (And.intro @Q2.tOr_ap (And.intro @Q2.tNot_ap (And.intro @Q2.tAndV_ap (And.intro @Q2.tOrV_ap (And.intro @Q2.tNotV_ap (And.intro @Q2.tIf_ap (And.intro @Q2.tNil_ap (And.intro @Q2.tCons_ap (And.intro @Q2.tTup_ap (And.intro @Q2.tLst_ap (And.intro @Q2.tCall_ap (And.intro @Q2.tCB_ap (And.intro @Q2.tBM_ap (And.intro @Q2.tBM0_ap (And.intro @Q2.gSub_ap (And.intro @Q2.rAppend_ap (And.intro @Q2.rIxL_ap (And.intro @Q2.rIxT_ap (And.intro @Q2.rSetL_ap (And.intro @Q2.rIsi_ap (And.intro @Q2.tFor1_ap (And.intro @Q2.tFor2_ap (And.intro @Q2.tForL_ap (And.intro @Q2.tComp1_ap (And.intro @Q2.tComp2_ap (And.intro @Q2.tYes_ap (And.intro @Q2.tSl_ap (And.intro @Q2.tNoPart_ap (And.intro @Q2.tPart_ap (And.intro @Q2.rSlL_ap (And.intro @Q2.tFor3_ap (And.intro @Q2.rEqL_ap (And.intro @Q2.rNeL_ap (And.intro @Q2.rIsi2_ap (And.intro @Q2.rEqS_ap (And.intro @Q2.rNeS_ap (And.intro @Q2.tTry_ap (And.intro @Q2.tCallS_ap (And.intro @Q2.rRep_ap (And.intro @Q2.rCat_ap (And.intro @Q2.rSum_ap (And.intro @Q2.rRng_ap (And.intro @Q2.rLRng_ap (And.intro @Q2.tCompL_ap (And.intro @Q2.tRaise_ap (And.intro @Q2.tHandN_ap (And.intro @Q2.tHandC_ap (And.intro @Q2.rIsiE1_ap (And.intro @Q2.rIsiE2_ap (And.intro @Q2.rCountB_ap (And.intro @Q2.rIn_ap (And.intro @Q2.tAs_ap (And.intro @Q2.tVar0 (And.intro @Q2.tVar1 (And.intro @Q2.tVar2 (And.intro @Q2.tVar3 (And.intro @Q2.tVar4 (And.intro @Q2.tVar5 (And.intro @Q2.tVar6 (And.intro @Q2.tVar7 (And.intro @Q2.tVar8 (And.intro @Q2.tVar9 (And.intro @Q2.tVar10 (And.intro @Q2.tVar11 (And.intro @Q2.tVar12 (And.intro @Q2.tVar13 (And.intro @Q2.tVar14 (And.intro @Q2.tVar15 (And.intro @Q2.gName0 (And.intro @Q2.gName1 (And.intro @Q2.gName2 (And.intro @Q2.gName3 (And.intro @Q2.gName4 (And.intro @Q2.gName5 (And.intro @Q2.gName6 (And.intro @Q2.gName7 (And.intro @Q2.gName8 (And.intro @Q2.gName9 (And.intro @Q2.gName10 (And.intro @Q2.gName11 (And.intro @Q2.gName12 (And.intro @Q2.gName13 (And.intro @Q2.gName14 (And.intro @Q2.gName15 (And.intro @Q2.exBl (And.intro @Q2.exBlV (And.intro @Q2.exRef (And.intro @Q2.ex1I (And.intro @Q2.ex2I (And.intro @Q2.exInt (@Q2.ex3I)))))))))))))))))))))))))))))))))))))))))))))))))))))))))))))))))))))))))))))))))))))))))))))))))))))))))))))))))) :=
  And.intro @Q2.tNext_ap (And.intro @Q2.tSeq_ap (And.intro @Q2.tBreak_ap (And.intro @Q2.tCont_ap (And.intro @Q2.tDrop_ap (And.intro @Q2.tRet_ap (And.intro @Q2.tRetN_ap (And.intro @Q2.tNever_ap (And.intro @Q2.tIfS_ap (And.intro @Q2.tAsg_ap (And.intro @Q2.tC_ap (And.intro @Q2.tOp_ap (And.intro @Q2.tUn_ap (And.intro @Q2.rI0_ap (And.intro @Q2.rI_ap (And.intro @Q2.rU_ap (And.intro @Q2.rEq_ap (And.intro @Q2.rNe_ap (And.intro @Q2.rEqB_ap (And.intro @Q2.rNeB_ap (And.intro @Q2.tTest_ap (And.intro @Q2.tB_ap (And.intro @Q2.tAnd_ap (And.intro @Q2.tOr_ap (And.intro @Q2.tNot_ap (And.intro @Q2.tAndV_ap (And.intro @Q2.tOrV_ap (And.intro @Q2.tNotV_ap (And.intro @Q2.tIf_ap (And.intro @Q2.tNil_ap (And.intro @Q2.tCons_ap (And.intro @Q2.tTup_ap (And.intro @Q2.tLst_ap (And.intro @Q2.tCall_ap (And.intro @Q2.tCB_ap (And.intro @Q2.tBM_ap (And.intro @Q2.tBM0_ap (And.intro @Q2.gSub_ap (And.intro @Q2.rAppend_ap (And.intro @Q2.rIxL_ap (And.intro @Q2.rIxT_ap (And.intro @Q2.rSetL_ap (And.intro @Q2.rIsi_ap (And.intro @Q2.tFor1_ap (And.intro @Q2.tFor2_ap (And.intro @Q2.tForL_ap (And.intro @Q2.tComp1_ap (And.intro @Q2.tComp2_ap (And.intro @Q2.tYes_ap (And.intro @Q2.tSl_ap (And.intro @Q2.tNoPart_ap (And.intro @Q2.tPart_ap (And.intro @Q2.rSlL_ap (And.intro @Q2.tFor3_ap (And.intro @Q2.rEqL_ap (And.intro @Q2.rNeL_ap (And.intro @Q2.rIsi2_ap (And.intro @Q2.rEqS_ap (And.intro @Q2.rNeS_ap (And.intro @Q2.tTry_ap (And.intro @Q2.tCallS_ap (And.intro @Q2.rRep_ap (And.intro @Q2.rCat_ap (And.intro @Q2.rSum_ap (And.intro @Q2.rRng_ap (And.intro @Q2.rLRng_ap (And.intro @Q2.tCompL_ap (And.intro @Q2.tRaise_ap (And.intro @Q2.tHandN_ap (And.intro @Q2.tHandC_ap (And.intro @Q2.rIsiE1_ap (And.intro @Q2.rIsiE2_ap (And.intro @Q2.rCountB_ap (And.intro @Q2.rIn_ap (And.intro @Q2.tAs_ap (And.intro @Q2.tVar0 (And.intro @Q2.tVar1 (And.intro @Q2.tVar2 (And.intro @Q2.tVar3 (And.intro @Q2.tVar4 (And.intro @Q2.tVar5 (And.intro @Q2.tVar6 (And.intro @Q2.tVar7 (And.intro @Q2.tVar8 (And.intro @Q2.tVar9 (And.intro @Q2.tVar10 (And.intro @Q2.tVar11 (And.intro @Q2.tVar12 (And.intro @Q2.tVar13 (And.intro @Q2.tVar14 (And.intro @Q2.tVar15 (And.intro @Q2.gName0 (And.intro @Q2.gName1 (And.intro @Q2.gName2 (And.intro @Q2.gName3 (And.intro @Q2.gName4 (And.intro @Q2.gName5 (And.intro @Q2.gName6 (And.intro @Q2.gName7 (And.intro @Q2.gName8 (And.intro @Q2.gName9 (And.intro @Q2.gName10 (And.intro @Q2.gName11 (And.intro @Q2.gName12 (And.intro @Q2.gName13 (And.intro @Q2.gName14 (And.intro @Q2.gName15 (And.intro @Q2.exBl (And.intro @Q2.exBlV (And.intro @Q2.exRef (And.intro @Q2.ex1I (And.intro @Q2.ex2I (And.intro @Q2.exInt (@Q2.ex3I)))))))))))))))))))))))))))))))))))))))))))))))))))))))))))))))))))))))))))))))))))))))))))))))))))))))))))))))))
theorem Q2.W0 : type_of% (And.intro @Q2.tNext_ap (And.intro @Q2.tBreak_ap (And.intro @Q2.tCont_ap (And.intro @Q2.tDrop_ap (And.intro @Q2.tRet_ap (And.intro @Q2.tRetN_ap (And.intro @Q2.tNever_ap (And.intro @Q2.tAsg_ap (And.intro @Q2.tC_ap (And.intro @Q2.tOp_ap (And.intro @Q2.tUn_ap (And.intro @Q2.rI0_ap (And.intro @Q2.rI_ap (And.intro @Q2.rU_ap (And.intro @Q2.rEq_ap (And.intro @Q2.rNe_ap (And.intro @Q2.rEqB_ap (And.intro @Q2.rNeB_ap (And.intro @Q2.tTest_ap (And.intro @Q2.tB_ap (And.intro @Q2.tAnd_ap (And.intro @Q2.tOr_ap (And.intro @Q2.tNot_ap (And.intro @Q2.tAndV_ap (And.intro @Q2.tOrV_ap (And.intro @Q2.tNotV_ap (And.intro @Q2.tIf_ap (And.intro @Q2.tNil_ap (And.intro @Q2.tCons_ap (And.intro @Q2.tTup_ap (And.intro @Q2.tLst_ap (And.intro @Q2.tCall_ap (And.intro @Q2.tCB_ap (And.intro @Q2.tBM_ap (And.intro @Q2.tBM0_ap (And.intro @Q2.gSub_ap (And.intro @Q2.rAppend_ap (And.intro @Q2.rIxL_ap (And.intro @Q2.rIxT_ap (And.intro @Q2.rSetL_ap (And.intro @Q2.rIsi_ap (And.intro @Q2.tFor1_ap (And.intro @Q2.tFor2_ap (And.intro @Q2.tForL_ap (And.intro @Q2.tComp1_ap (And.intro @Q2.tComp2_ap (And.intro @Q2.tYes_ap (And.intro @Q2.tSl_ap (And.intro @Q2.tNoPart_ap (And.intro @Q2.tPart_ap (And.intro @Q2.rSlL_ap (And.intro @Q2.tFor3_ap (And.intro @Q2.rEqL_ap (And.intro @Q2.rNeL_ap (And.intro @Q2.rIsi2_ap (And.intro @Q2.rEqS_ap (And.intro @Q2.rNeS_ap (And.intro @Q2.tTry_ap (And.intro @Q2.tCallS_ap (And.intro @Q2.rRep_ap (And.intro @Q2.rCat_ap (And.intro @Q2.rSum_ap (And.intro @Q2.rRng_ap (And.intro @Q2.rLRng_ap (And.intro @Q2.tCompL_ap (And.intro @Q2.tRaise_ap (And.intro @Q2.tHandN_ap (And.intro @Q2.tHandC_ap (And.intro @Q2.rIsiE1_ap (And.intro @Q2.rIsiE2_ap (And.intro @Q2.rCountB_ap (And.intro @Q2.rIn_ap (And.intro @Q2.tAs_ap (And.intro @Q2.tVar0 (And.intro @Q2.tVar1 (And.intro @Q2.tVar2 (And.intro @Q2.tVar3 (And.intro @Q2.tVar4 (And.intro @Q2.tVar5 (And.intro @Q2.tVar6 (And.intro @Q2.tVar7 (And.intro @Q2.tVar8 (And.intro @Q2.tVar9 (And.intro @Q2.tVar10 (And.intro @Q2.tVar11 (And.intro @Q2.tVar12 (And.intro @Q2.tVar13 (And.intro @Q2.tVar14 (And.intro @Q2.tVar15 (And.intro @Q2.gName0 (And.intro @Q2.gName1 (And.intro @Q2.gName2 (And.intro @Q2.gName3 (And.intro @Q2.gName4 (And.intro @Q2.gName5 (And.intro @Q2.gName6 (And.intro @Q2.gName7 (And.intro @Q2.gName8 (And.intro @Q2.gName9 (And.intro @Q2.gName10 (And.intro @Q2.gName11 (And.intro @Q2.gName12 (And.intro @Q2.gName13 (And.intro @Q2.gName14 (And.intro @Q2.gName15 (And.intro @Q2.exBl (And.intro @Q2.exBlV (And.intro @Q2.exRef (And.intro @Q2.ex1I (And.intro @Q2.ex2I (And.intro @Q2.exInt (@Q2.ex3I)))))))))))))))))))))))))))))))))))))))))))))))))))))))))))))))))))))))))))))))))))))))))))))))))))))))))))))))) :=
  And.intro @Q2.tNext_ap (And.intro @Q2.tBreak_ap (And.intro @Q2.tCont_ap (And.intro @Q2.tDrop_ap (And.intro @Q2.tRet_ap (And.intro @Q2.tRetN_ap (And.intro @Q2.tNever_ap (And.intro @Q2.tAsg_ap (And.intro @Q2.tC_ap (And.intro @Q2.tOp_ap (And.intro @Q2.tUn_ap (And.intro @Q2.rI0_ap (And.intro @Q2.rI_ap (And.intro @Q2.rU_ap (And.intro @Q2.rEq_ap (And.intro @Q2.rNe_ap (And.intro @Q2.rEqB_ap (And.intro @Q2.rNeB_ap (And.intro @Q2.tTest_ap (And.intro @Q2.tB_ap (And.intro @Q2.tAnd_ap (And.intro @Q2.tOr_ap (And.intro @Q2.tNot_ap (And.intro @Q2.tAndV_ap (And.intro @Q2.tOrV_ap (And.intro @Q2.tNotV_ap (And.intro @Q2.tIf_ap (And.intro @Q2.tNil_ap (And.intro @Q2.tCons_ap (And.intro @Q2.tTup_ap (And.intro @Q2.tLst_ap (And.intro @Q2.tCall_ap (And.intro @Q2.tCB_ap (And.intro @Q2.tBM_ap (And.intro @Q2.tBM0_ap (And.intro @Q2.gSub_ap (And.intro @Q2.rAppend_ap (And.intro @Q2.rIxL_ap (And.intro @Q2.rIxT_ap (And.intro @Q2.rSetL_ap (And.intro @Q2.rIsi_ap (And.intro @Q2.tFor1_ap (And.intro @Q2.tFor2_ap (And.intro @Q2.tForL_ap (And.intro @Q2.tComp1_ap (And.intro @Q2.tComp2_ap (And.intro @Q2.tYes_ap (And.intro @Q2.tSl_ap (And.intro @Q2.tNoPart_ap (And.intro @Q2.tPart_ap (And.intro @Q2.rSlL_ap (And.intro @Q2.tFor3_ap (And.intro @Q2.rEqL_ap (And.intro @Q2.rNeL_ap (And.intro @Q2.rIsi2_ap (And.intro @Q2.rEqS_ap (And.intro @Q2.rNeS_ap (And.intro @Q2.tTry_ap (And.intro @Q2.tCallS_ap (And.intro @Q2.rRep_ap (And.intro @Q2.rCat_ap (And.intro @Q2.rSum_ap (And.intro @Q2.rRng_ap (And.intro @Q2.rLRng_ap (And.intro @Q2.tCompL_ap (And.intro @Q2.tRaise_ap (And.intro @Q2.tHandN_ap (And.intro @Q2.tHandC_ap (And.intro @Q2.rIsiE1_ap (And.intro @Q2.rIsiE2_ap (And.intro @Q2.rCountB_ap (And.intro @Q2.rIn_ap (And.intro @Q2.tAs_ap (And.intro @Q2.tVar0 (And.intro @Q2.tVar1 (And.intro @Q2.tVar2 (And.intro @Q2.tVar3 (And.intro @Q2.tVar4 (And.intro @Q2.tVar5 (And.intro @Q2.tVar6 (And.intro @Q2.tVar7 (And.intro @Q2.tVar8 (And.intro @Q2.tVar9 (And.intro @Q2.tVar10 (And.intro @Q2.tVar11 (And.intro @Q2.tVar12 (And.intro @Q2.tVar13 (And.intro @Q2.tVar14 (And.intro @Q2.tVar15 (And.intro @Q2.gName0 (And.intro @Q2.gName1 (And.intro @Q2.gName2 (And.intro @Q2.gName3 (And.intro @Q2.gName4 (And.intro @Q2.gName5 (And.intro @Q2.gName6 (And.intro @Q2.gName7 (And.intro @Q2.gName8 (And.intro @Q2.gName9 (And.intro @Q2.gName10 (And.intro @Q2.gName11 (And.intro @Q2.gName12 (And.intro @Q2.gName13 (And.intro @Q2.gName14 (And.intro @Q2.gName15 (And.intro @Q2.exBl (And.intro @Q2.exBlV (And.intro @Q2.exRef (And.intro @Q2.ex1I (And.intro @Q2.ex2I (And.intro @Q2.exInt (@Q2.ex3I)))))))))))))))))))))))))))))))))))))))))))))))))))))))))))))))))))))))))))))))))))))))))))))))))))))))))))))))
/-! ### numbers: parts, primes, how often a prime is taken -/
namespace PM
/-- a prime -/
def Pr (p : Nat) : Prop := 2 ≤ p ∧ ∀ k, k ∣ p → k = 1 ∨ k = p

theorem Pr.two {p : Nat} (h : Pr p) : 2 ≤ p := h.1
theorem Pr.pos {p : Nat} (h : Pr p) : 0 < p := by have := h.1; omega

theorem ex_pr : ∀ n : Nat, 2 ≤ n → ∃ p, Pr p ∧ p ∣ n := by
  intro n
  induction n using Nat.strongRecOn with
  | _ n ih =>
    intro h
    by_cases hp : Pr n
    · exact ⟨n, hp, Nat.dvd_refl n⟩
    · have : ∃ k, k ∣ n ∧ ¬ (k = 1 ∨ k = n) := by
        refine Classical.byContradiction fun hn => hp ⟨h, fun k hk => ?_⟩
        exact Classical.byContradiction fun hk' => hn ⟨k, hk, hk'⟩
      obtain ⟨k, hk, hne⟩ := this
      have hk0 : 0 < k := Nat.pos_of_dvd_of_pos hk (by omega)
      have hkn : k ≤ n := Nat.le_of_dvd (by omega) hk
      have h1 : k ≠ 1 := fun e => hne (.inl e)
      have h2 : k ≠ n := fun e => hne (.inr e)
      obtain ⟨p, hp, hpk⟩ := ih k (by omega) (by omega)
      exact ⟨p, hp, Nat.dvd_trans hpk hk⟩

theorem Pr.cop {p a : Nat} (hp : Pr p) (h : ¬ p ∣ a) : Nat.Coprime p a := by
  have h1 : Nat.gcd p a ∣ p := Nat.gcd_dvd_left p a
  rcases hp.2 _ h1 with e | e
  · exact e
  · exact absurd (e ▸ Nat.gcd_dvd_right p a) h
theorem Pr.dvd_mul {p a b : Nat} (hp : Pr p) (h : p ∣ a * b) : p ∣ a ∨ p ∣ b := by
  by_cases ha : p ∣ a
  · exact .inl ha
  · exact .inr ((hp.cop ha).dvd_of_dvd_mul_left h)
theorem Pr.ndvd {p q : Nat} (hp : Pr p) (hq : Pr q) (h : p ≠ q) : ¬ p ∣ q := fun z => by
  rcases hq.2 p z with e | e
  · have := hp.1; omega
  · exact h e

/-- decided by trying -/
def isP (p : Nat) : Bool := decide (2 ≤ p) && (List.range p).all fun k => decide (k < 2) || decide (p % k ≠ 0)
theorem isP_iff (p : Nat) : isP p = true ↔ Pr p := by
  unfold isP
  rw [Bool.and_eq_true, decide_eq_true_iff, List.all_eq_true]
  constructor
  · rintro ⟨h, ha⟩
    refine ⟨h, fun k hk => ?_⟩
    have hk0 : 0 < k := Nat.pos_of_dvd_of_pos hk (by omega)
    have hkp : k ≤ p := Nat.le_of_dvd (by omega) hk
    by_cases h1 : k = 1
    · exact .inl h1
    · by_cases h2 : k = p
      · exact .inr h2
      · have := ha k (List.mem_range.mpr (by omega))
        rw [Bool.or_eq_true, decide_eq_true_iff, decide_eq_true_iff] at this
        rcases this with z | z
        · omega
        · exact absurd (Nat.mod_eq_zero_of_dvd hk) z
  · rintro ⟨h, ha⟩
    refine ⟨h, fun k hk => ?_⟩
    have hk' := List.mem_range.mp hk
    rw [Bool.or_eq_true, decide_eq_true_iff, decide_eq_true_iff]
    by_cases h2 : k < 2
    · exact .inl h2
    · refine .inr fun z => ?_
      rcases ha k (Nat.dvd_of_mod_eq_zero z) with e | e <;> omega

/-- how often p is taken in n -/
def vl (p n : Nat) : Nat := if h : 2 ≤ p ∧ 1 ≤ n ∧ n % p = 0 then vl p (n / p) + 1 else 0
termination_by n
decreasing_by exact Nat.div_lt_self (by omega) (by omega)
/-- n without p -/
def st (p n : Nat) : Nat := if h : 2 ≤ p ∧ 1 ≤ n ∧ n % p = 0 then st p (n / p) else n
termination_by n
decreasing_by exact Nat.div_lt_self (by omega) (by omega)

theorem vl_pos {p n : Nat} (h : 2 ≤ p) (hn : 1 ≤ n) (hd : n % p = 0) : vl p n = vl p (n / p) + 1 := by
  rw [vl]; exact dif_pos ⟨h, hn, hd⟩
theorem vl_zero {p n : Nat} (hd : n % p ≠ 0) : vl p n = 0 := by
  rw [vl]; exact dif_neg fun z => hd z.2.2
theorem st_pos {p n : Nat} (h : 2 ≤ p) (hn : 1 ≤ n) (hd : n % p = 0) : st p n = st p (n / p) := by
  rw [st]; exact dif_pos ⟨h, hn, hd⟩
theorem st_zero {p n : Nat} (hd : n % p ≠ 0) : st p n = n := by
  rw [st]; exact dif_neg fun z => hd z.2.2
theorem quot_pos {p n : Nat} (h : 2 ≤ p) (hn : 1 ≤ n) (hd : n % p = 0) : 1 ≤ n / p := by
  have hd' := Nat.dvd_of_mod_eq_zero hd
  exact Nat.div_pos (Nat.le_of_dvd hn hd') (by omega)
theorem quot_lt {p n : Nat} (h : 2 ≤ p) (hn : 1 ≤ n) : n / p < n := Nat.div_lt_self (by omega) (by omega)

/-- n is its power of p times the rest -/
theorem st_spec {p : Nat} (hp : 2 ≤ p) : ∀ n : Nat, 1 ≤ n → 1 ≤ st p n ∧ ¬ p ∣ st p n ∧ n = p ^ vl p n * st p n := by
  intro n
  induction n using Nat.strongRecOn with
  | _ n ih =>
    intro hn
    by_cases hd : n % p = 0
    · obtain ⟨h1, h2, h3⟩ := ih (n / p) (quot_lt hp hn) (quot_pos hp hn hd)
      rw [st_pos hp hn hd, vl_pos hp hn hd]
      refine ⟨h1, h2, ?_⟩
      have e : n = n / p * p := (Nat.div_mul_cancel (Nat.dvd_of_mod_eq_zero hd)).symm
      rw [Nat.pow_succ, Nat.mul_right_comm, ← h3]
      exact e
    · rw [st_zero hd, vl_zero hd]
      exact ⟨hn, fun z => hd (Nat.mod_eq_zero_of_dvd z), by rw [Nat.pow_zero, Nat.one_mul]⟩
theorem vl_one (p : Nat) : vl p 1 = 0 := by
  rw [vl]
  refine dif_neg fun z => ?_
  have h := Nat.le_of_dvd (by omega) (Nat.dvd_of_mod_eq_zero z.2.2)
  omega
theorem vl_pos_iff {p n : Nat} (hp : 2 ≤ p) (hn : 1 ≤ n) : 0 < vl p n ↔ p ∣ n := by
  constructor
  · intro h
    refine Classical.byContradiction fun z => ?_
    rw [vl_zero fun e => z (Nat.dvd_of_mod_eq_zero e)] at h
    omega
  · intro h
    rw [vl_pos hp hn (Nat.mod_eq_zero_of_dvd h)]
    omega
theorem vl_two_iff {p n : Nat} (hp : 2 ≤ p) (hn : 1 ≤ n) : 1 < vl p n ↔ p * p ∣ n := by
  constructor
  · intro h
    have hd : n % p = 0 := Classical.byContradiction fun z => by rw [vl_zero z] at h; omega
    rw [vl_pos hp hn hd] at h
    have h2 := (vl_pos_iff hp (quot_pos hp hn hd)).mp (by omega)
    have e : n = n / p * p := (Nat.div_mul_cancel (Nat.dvd_of_mod_eq_zero hd)).symm
    rw [e]
    exact Nat.mul_dvd_mul_right h2 p
  · intro h
    have hd : n % p = 0 := Nat.mod_eq_zero_of_dvd (Nat.dvd_trans (Nat.dvd_mul_right p p) h)
    have e : n = n / p * p := (Nat.div_mul_cancel (Nat.dvd_of_mod_eq_zero hd)).symm
    have h2 : p ∣ n / p := by
      rw [e] at h
      exact Nat.dvd_of_mul_dvd_mul_right (by omega) h
    rw [vl_pos hp hn hd]
    have := (vl_pos_iff hp (quot_pos hp hn hd)).mpr h2
    omega
/-- a factor that p does not go into does not count -/
theorem vl_mul {p d : Nat} (hp : Pr p) (hd : ¬ p ∣ d) (hd1 : 1 ≤ d) : ∀ m : Nat, 1 ≤ m → vl p (d * m) = vl p m := by
  intro m
  induction m using Nat.strongRecOn with
  | _ m ih =>
    intro hm
    have hdm : 1 ≤ d * m := Nat.mul_pos hd1 hm
    by_cases h : m % p = 0
    · have hpm := Nat.dvd_of_mod_eq_zero h
      have e : d * m / p = d * (m / p) := Nat.mul_div_assoc d hpm
      rw [vl_pos hp.1 hdm (Nat.mod_eq_zero_of_dvd (Nat.dvd_mul_left_of_dvd hpm d)), vl_pos hp.1 hm h, e, ih _ (quot_lt hp.1 hm) (quot_pos hp.1 hm h)]
    · have : ¬ p ∣ d * m := fun z => (hp.dvd_mul z).elim hd fun q => h (Nat.mod_eq_zero_of_dvd q)
      rw [vl_zero h, vl_zero fun z => this (Nat.dvd_of_mod_eq_zero z)]
/-- taking out another prime leaves vl p -/
theorem vl_st {p d : Nat} (hp : Pr p) (hd : Pr d) (hne : p ≠ d) : ∀ n : Nat, 1 ≤ n → vl p (st d n) = vl p n := by
  intro n
  induction n using Nat.strongRecOn with
  | _ n ih =>
    intro hn
    by_cases h : n % d = 0
    · rw [st_pos hd.1 hn h, ih _ (quot_lt hd.1 hn) (quot_pos hd.1 hn h)]
      have e : n = d * (n / d) := (Nat.mul_div_cancel' (Nat.dvd_of_mod_eq_zero h)).symm
      conv => rhs; rw [e]
      exact (vl_mul hp (hp.ndvd hd hne) (by have := hd.1; omega) _ (quot_pos hd.1 hn h)).symm
    · rw [st_zero h]

/-! #### the primes of a number with how often they are taken -/
def pick (n d : Nat) : List (Nat × Nat) := ((List.range d).filter fun p => isP p && decide (n % p = 0)).map fun p => (p, vl p n)
def ppL (n : Nat) : List (Nat × Nat) := pick n (n + 1)
def prodP : List (Nat × Nat) → Nat
  | [] => 1
  | x :: r => x.1 ^ x.2 * prodP r
theorem prodP_append : ∀ a b : List (Nat × Nat), prodP (a ++ b) = prodP a * prodP b
  | [], b => by rw [List.nil_append, prodP, Nat.one_mul]
  | x :: r, b => by rw [List.cons_append, prodP, prodP, prodP_append r b, Nat.mul_assoc]
theorem pick_succ (n d : Nat) : pick n (d + 1) = pick n d ++ (if isP d && decide (n % d = 0) then [(d, vl d n)] else []) := by
  unfold pick
  rw [List.range_succ, List.filter_append, List.map_append]
  by_cases h : (isP d && decide (n % d = 0)) = true
  · rw [List.filter_cons, if_pos h, if_pos h, List.filter_nil, List.map_cons, List.map_nil]
  · rw [List.filter_cons, if_neg h, if_neg h, List.filter_nil, List.map_nil]
/-- between two turns of the search for primes: d is the next number that is tried, r what is left of n -/
structure Seek (n d r : Nat) : Prop where
  d2 : 2 ≤ d
  r1 : 1 ≤ r
  no : ∀ k, 2 ≤ k → k < d → ¬ k ∣ r
  up : ∀ p, Pr p → d ≤ p → vl p r = vl p n
  prod : n = prodP (pick n d) * r
theorem pick_two (n : Nat) : pick n 2 = [] := by
  unfold pick
  have e : List.range 2 = [0, 1] := by decide
  rw [e]
  have h0 : isP 0 = false := by decide
  have h1 : isP 1 = false := by decide
  simp [List.filter_cons, h0, h1]
theorem Seek.start {n : Nat} (h : 1 ≤ n) : Seek n 2 n := ⟨Nat.le_refl 2, h, fun k h1 h2 => by omega, fun _ _ _ => rfl, by rw [pick_two, prodP, Nat.one_mul]⟩
theorem Seek.npos {n d r : Nat} (s : Seek n d r) : 1 ≤ n := by
  rcases Nat.eq_zero_or_pos n with h | h
  · have := s.prod
    rw [h] at this
    have h2 : prodP (pick n d) = 0 ∨ r = 0 := by rw [h]; exact Nat.mul_eq_zero.mp this.symm
    have h3 : ∀ l : List (Nat × Nat), (∀ x ∈ l, 0 < x.1) → prodP l ≠ 0 := by
      intro l
      induction l with
      | nil => intro _; rw [prodP]; omega
      | cons x t ih =>
        intro hx
        rw [prodP]
        exact Nat.mul_ne_zero (Nat.pos_iff_ne_zero.mp (Nat.pow_pos (hx x List.mem_cons_self))) (ih fun y hy => hx y (List.mem_cons_of_mem _ hy))
    rcases h2 with z | z
    · refine absurd z (h3 _ fun x hx => ?_)
      unfold pick at hx
      obtain ⟨p, hp, rfl⟩ := List.mem_map.mp hx
      have := (List.mem_filter.mp hp).2
      rw [Bool.and_eq_true] at this
      exact ((isP_iff p).mp this.1).pos
    · have := s.r1; omega
  · exact h
/-- a number that is tried and goes into the rest is a prime -/
theorem Seek.prime {n d r : Nat} (s : Seek n d r) (h : r % d = 0) : Pr d := by
  refine ⟨s.d2, fun k hk => ?_⟩
  have hd2 := s.d2
  have hk0 : 0 < k := Nat.pos_of_dvd_of_pos hk (by omega)
  have hkd : k ≤ d := Nat.le_of_dvd (by omega) hk
  by_cases h1 : k = 1
  · exact .inl h1
  · by_cases h2 : k = d
    · exact .inr h2
    · exact absurd (Nat.dvd_trans hk (Nat.dvd_of_mod_eq_zero h)) (s.no k (by omega) (by omega))
/-- .. and so it stands in the list -/
theorem Seek.pick_yes {n d r : Nat} (s : Seek n d r) (h : r % d = 0) : pick n (d + 1) = pick n d ++ [(d, vl d r)] := by
  have hp := s.prime h
  have e := s.up d hp (Nat.le_refl d)
  have hn : n % d = 0 := by
    have : 0 < vl d n := by rw [← e]; exact (vl_pos_iff s.d2 s.r1).mpr (Nat.dvd_of_mod_eq_zero h)
    exact Nat.mod_eq_zero_of_dvd ((vl_pos_iff s.d2 s.npos).mp this)
  rw [pick_succ, (isP_iff d).mpr hp, hn, e]
  rfl
theorem Seek.pick_no {n d r : Nat} (s : Seek n d r) (h : r % d ≠ 0) : pick n (d + 1) = pick n d := by
  rw [pick_succ]
  have : (isP d && decide (n % d = 0)) = false := by
    rw [Bool.and_eq_false_iff]
    by_cases hp : Pr d
    · refine .inr (decide_eq_false fun z => ?_)
      have e := s.up d hp (Nat.le_refl d)
      rw [vl_zero h] at e
      have := (vl_pos_iff s.d2 s.npos).mpr (Nat.dvd_of_mod_eq_zero z)
      omega
    · exact .inl (Bool.eq_false_iff.mpr fun z => hp ((isP_iff d).mp z))
  rw [this]
  exact List.append_nil _
/-- one turn: the number that is tried is taken out as often as it goes -/
theorem Seek.step {n d r : Nat} (s : Seek n d r) : Seek n (d + 1) (st d r) := by
  obtain ⟨h1, h2, h3⟩ := st_spec s.d2 r s.r1
  have hd2 := s.d2
  refine ⟨by omega, h1, fun k hk hkd z => ?_, fun p hp hdp => ?_, ?_⟩
  · by_cases e : k = d
    · subst e; exact h2 z
    · exact s.no k hk (by omega) (by rw [h3]; exact Nat.dvd_mul_left_of_dvd z _)
  · by_cases h : r % d = 0
    · rw [vl_st hp (s.prime h) (by omega) r s.r1]
      exact s.up p hp (by omega)
    · rw [st_zero h]
      exact s.up p hp (by omega)
  · by_cases h : r % d = 0
    · rw [s.pick_yes h, prodP_append, prodP, prodP, Nat.mul_one, Nat.mul_assoc, ← h3]
      exact s.prod
    · rw [s.pick_no h, st_zero h]
      exact s.prod
theorem Seek.no_step {n d r : Nat} (s : Seek n d r) (h : r % d ≠ 0) : Seek n (d + 1) r := by
  have := s.step
  rwa [st_zero h] at this
theorem Seek.le {n d r : Nat} (s : Seek n d r) (h : 1 < r) : d ≤ r := by
  refine Classical.byContradiction fun z => ?_
  exact s.no r (by omega) (by omega) (Nat.dvd_refl r)
theorem Seek.dvd {n d r : Nat} (s : Seek n d r) : r ∣ n := by
  rw [s.prod]
  exact Nat.dvd_mul_left r _
theorem Seek.rest {n : Nat} (h : 1 ≤ n) : ∀ k : Nat, ∃ r, Seek n (2 + k) r
  | 0 => ⟨n, Seek.start h⟩
  | k + 1 => by
    obtain ⟨r, s⟩ := Seek.rest h k
    exact ⟨_, s.step⟩
/-- nothing is left: the list is whole -/
theorem Seek.stays {n d : Nat} (s : Seek n d 1) : ∀ k : Nat, pick n (d + k) = pick n d
  | 0 => rfl
  | k + 1 => by
    have e : ∀ j : Nat, Seek n (d + j) 1 := by
      intro j
      induction j with
      | zero => exact s
      | succ j ih =>
        have hd := ih.d2
        exact ih.no_step (by rw [Nat.mod_eq_of_lt (by omega)]; omega)
    have hd := (e k).d2
    show pick n (d + k + 1) = pick n d
    rw [(e k).pick_no (by rw [Nat.mod_eq_of_lt (by omega)]; omega)]
    exact s.stays k
theorem pick_over {n : Nat} (h : 1 ≤ n) : ∀ k : Nat, pick n (n + 1 + k) = ppL n
  | 0 => rfl
  | k + 1 => by
    show pick n (n + 1 + k + 1) = ppL n
    rw [pick_succ]
    have : (isP (n + 1 + k) && decide (n % (n + 1 + k) = 0)) = false := by
      rw [Bool.and_eq_false_iff]
      refine .inr (decide_eq_false ?_)
      rw [Nat.mod_eq_of_lt (by omega)]
      omega
    rw [this, pick_over h k]
    exact List.append_nil _
theorem Seek.done {n d r : Nat} (s : Seek n d r) (h : r ≤ 1) : pick n d = ppL n := by
  have e : r = 1 := by have := s.r1; omega
  subst e
  have hn := s.npos
  by_cases hd : d ≤ n + 1
  · have q := s.stays (n + 1 - d)
    rw [show d + (n + 1 - d) = n + 1 by omega] at q
    exact q.symm
  · have q := pick_over hn (d - (n + 1))
    rw [show n + 1 + (d - (n + 1)) = d by omega] at q
    exact q
theorem ppL_prod {n : Nat} (h : 1 ≤ n) : prodP (ppL n) = n := by
  obtain ⟨r, s⟩ := Seek.rest h n
  have hr : r ≤ 1 := by
    refine Classical.byContradiction fun z => ?_
    have h1 := s.le (by omega)
    have h2 := Nat.le_of_dvd h s.dvd
    omega
  have hp := s.prod
  rw [s.done hr] at hp
  have e : r = 1 := by have := s.r1; omega
  rw [e, Nat.mul_one] at hp
  exact hp.symm
theorem mem_ppL {n : Nat} (h : 1 ≤ n) {x : Nat × Nat} : x ∈ ppL n ↔ Pr x.1 ∧ x.1 ∣ n ∧ x.2 = vl x.1 n := by
  unfold ppL pick
  rw [List.mem_map]
  constructor
  · rintro ⟨p, hp, rfl⟩
    have h2 := (List.mem_filter.mp hp).2
    rw [Bool.and_eq_true, decide_eq_true_iff] at h2
    exact ⟨(isP_iff p).mp h2.1, Nat.dvd_of_mod_eq_zero h2.2, rfl⟩
  · rintro ⟨h1, h2, h3⟩
    refine ⟨x.1, List.mem_filter.mpr ⟨List.mem_range.mpr ?_, ?_⟩, ?_⟩
    · have := Nat.le_of_dvd h h2; omega
    · rw [Bool.and_eq_true, decide_eq_true_iff]
      exact ⟨(isP_iff _).mpr h1, Nat.mod_eq_zero_of_dvd h2⟩
    · rw [← h3]
theorem ppL_pos {n : Nat} (h : 1 ≤ n) {x : Nat × Nat} (hx : x ∈ ppL n) : 1 ≤ x.2 := by
  obtain ⟨h1, h2, h3⟩ := (mem_ppL h).mp hx
  rw [h3]
  exact (vl_pos_iff h1.1 h).mpr h2
theorem pow_vl_dvd {p n : Nat} (hp : 2 ≤ p) (hn : 1 ≤ n) : p ^ vl p n ∣ n := by
  obtain ⟨_, _, h3⟩ := st_spec hp n hn
  exact ⟨_, h3⟩
theorem ppL_small {n : Nat} (h : 1 ≤ n) (h2 : n < 2 ^ 10) {x : Nat × Nat} (hx : x ∈ ppL n) : x.2 ≤ 10 := by
  obtain ⟨h1, _, h3⟩ := (mem_ppL h).mp hx
  refine Classical.byContradiction fun z => ?_
  have h4 : x.1 ^ x.2 ≤ n := by rw [h3]; exact Nat.le_of_dvd h (pow_vl_dvd h1.1 h)
  have h5 : 2 ^ x.2 ≤ x.1 ^ x.2 := Nat.pow_le_pow_left h1.1 _
  have h6 : 2 ^ 10 ≤ 2 ^ x.2 := Nat.pow_le_pow_right (by omega) (by omega)
  omega
theorem ppL_rises (n : Nat) : (ppL n).Pairwise fun a b => a.1 < b.1 := by
  unfold ppL pick
  rw [List.pairwise_map]
  exact List.Pairwise.filter _ List.pairwise_lt_range

/-! #### the sign -/
/-- by the list of the primes -/
def sgnL : List (Nat × Nat) → Int
  | [] => 1
  | x :: r => if 1 < x.2 then 0 else - sgnL r
def sgn (n : Nat) : Int := sgnL (ppL n)
/-- no square from 4 on goes into n -/
def SqFree (n : Nat) : Prop := ∀ q, 2 ≤ q → ¬ q * q ∣ n
theorem sgnL_zero {l : List (Nat × Nat)} (h : ∃ x ∈ l, 1 < x.2) : sgnL l = 0 := by
  induction l with
  | nil => obtain ⟨x, hx, _⟩ := h; exact absurd hx (by simp)
  | cons y r ih =>
    rw [sgnL]
    split
    · rfl
    · rename_i hy
      obtain ⟨x, hx, h1⟩ := h
      rcases List.mem_cons.mp hx with e | e
      · subst e; exact absurd h1 hy
      · rw [ih ⟨x, e, h1⟩]; rfl
theorem sgnL_one {l : List (Nat × Nat)} (h : ∀ x ∈ l, ¬ 1 < x.2) : sgnL l = (-1) ^ l.length := by
  induction l with
  | nil => rfl
  | cons y r ih =>
    rw [sgnL, if_neg (h y List.mem_cons_self), ih fun x hx => h x (List.mem_cons_of_mem _ hx), List.length_cons, Int.pow_succ]
    omega
theorem sq_iff {n : Nat} (h : 1 ≤ n) : SqFree n ↔ ∀ x ∈ ppL n, ¬ 1 < x.2 := by
  constructor
  · intro hs x hx hx2
    obtain ⟨h1, h2, h3⟩ := (mem_ppL h).mp hx
    rw [h3] at hx2
    exact hs x.1 h1.1 ((vl_two_iff h1.1 h).mp hx2)
  · intro hs q hq hqn
    obtain ⟨p, hp, hpq⟩ := ex_pr q hq
    have h1 : p * p ∣ n := Nat.dvd_trans (Nat.mul_dvd_mul hpq hpq) hqn
    have h2 : p ∣ n := Nat.dvd_trans (Nat.dvd_mul_right p p) h1
    exact hs (p, vl p n) ((mem_ppL h).mpr ⟨hp, h2, rfl⟩) ((vl_two_iff hp.1 h).mpr h1)
theorem sgn_zero {n : Nat} (h : 1 ≤ n) (hs : ¬ SqFree n) : sgn n = 0 := by
  refine sgnL_zero ?_
  refine Classical.byContradiction fun z => hs ((sq_iff h).mpr fun x hx h2 => z ⟨x, hx, h2⟩)
theorem sgn_one {n : Nat} (h : 1 ≤ n) (hs : SqFree n) : sgn n = (-1) ^ (ppL n).length := sgnL_one ((sq_iff h).mp hs)
/-- in the search, where no square goes into n, each prime goes in once -/
theorem Seek.sq_yes {n d r : Nat} (s : Seek n d r) (hs : SqFree n) (h : r % d = 0) : Seek n (d + 1) (r / d) ∧ (pick n (d + 1)).length = (pick n d).length + 1 := by
  have h1 : r / d % d ≠ 0 := fun z => by
    refine hs d s.d2 (Nat.dvd_trans ?_ s.dvd)
    have e : r = r / d * d := (Nat.div_mul_cancel (Nat.dvd_of_mod_eq_zero h)).symm
    rw [e]
    exact Nat.mul_dvd_mul_right (Nat.dvd_of_mod_eq_zero z) d
  have := s.step
  rw [st_pos s.d2 s.r1 h, st_zero h1] at this
  refine ⟨this, ?_⟩
  rw [s.pick_yes h, List.length_append, List.length_singleton]
end PM
/-! ### sums from 1 on, and sums over the parts of a number -/
namespace PM
def sm : Nat → (Nat → Int) → Int
  | 0, _ => 0
  | n + 1, f => sm n f + f (n + 1)
theorem sm_congr {n : Nat} {f g : Nat → Int} (h : ∀ i, 1 ≤ i → i ≤ n → f i = g i) : sm n f = sm n g := by
  induction n with
  | zero => rfl
  | succ n ih => rw [sm, sm, ih fun i h1 h2 => h i h1 (by omega), h (n + 1) (by omega) (by omega)]
theorem sm_zero {n : Nat} {f : Nat → Int} (h : ∀ i, 1 ≤ i → i ≤ n → f i = 0) : sm n f = 0 := by
  induction n with
  | zero => rfl
  | succ n ih => rw [sm, ih fun i h1 h2 => h i h1 (by omega), h (n + 1) (by omega) (by omega)]; rfl
theorem sm_add (n : Nat) (f g : Nat → Int) : sm n (fun i => f i + g i) = sm n f + sm n g := by
  induction n with
  | zero => rfl
  | succ n ih => rw [sm, sm, sm, ih]; omega
theorem sm_neg (n : Nat) (f : Nat → Int) : sm n (fun i => - f i) = - sm n f := by
  induction n with
  | zero => rfl
  | succ n ih => rw [sm, sm, ih]; omega
theorem sm_mul (n : Nat) (c : Int) (f : Nat → Int) : sm n (fun i => c * f i) = c * sm n f := by
  induction n with
  | zero => rw [sm, sm, Int.mul_zero]
  | succ n ih => rw [sm, sm, ih, Int.mul_add]
theorem sm_mul_right (n : Nat) (c : Int) (f : Nat → Int) : sm n (fun i => f i * c) = sm n f * c := by
  rw [Int.mul_comm, ← sm_mul]
  exact sm_congr fun i _ _ => Int.mul_comm _ _
theorem sm_swap (n m : Nat) (f : Nat → Nat → Int) : sm n (fun i => sm m fun j => f i j) = sm m fun j => sm n fun i => f i j := by
  induction n with
  | zero =>
    rw [sm]
    exact (sm_zero fun i _ _ => rfl).symm
  | succ n ih =>
    rw [sm, ih, ← sm_add]
    exact sm_congr fun j _ _ => rfl
/-- longer, where nothing is added -/
theorem sm_ext {n m : Nat} {f : Nat → Int} (h : n ≤ m) (hz : ∀ i, n < i → i ≤ m → f i = 0) : sm m f = sm n f := by
  induction m with
  | zero => rw [show n = 0 by omega]
  | succ m ih =>
    rcases Nat.lt_or_ge n (m + 1) with h1 | h1
    · rw [sm, ih (by omega) fun i h2 h3 => hz i h2 (by omega), hz (m + 1) h1 (by omega), Int.add_zero]
    · rw [show n = m + 1 by omega]
/-- one place alone -/
theorem sm_one {n a : Nat} (h1 : 1 ≤ a) (h2 : a ≤ n) (f : Nat → Int) : sm n (fun i => if i = a then f i else 0) = f a := by
  induction n with
  | zero => omega
  | succ n ih =>
    rw [sm]
    by_cases h : n + 1 = a
    · rw [if_pos h, h, sm_zero (n := n) fun i _ h3 => if_neg (by omega)]
      omega
    · rw [if_neg h, ih (by omega), Int.add_zero]
theorem sm_none {n a : Nat} (h : a < 1 ∨ n < a) (f : Nat → Int) : sm n (fun i => if i = a then f i else 0) = 0 :=
  sm_zero fun i h1 h2 => if_neg (by omega)
/-- over the multiples of p -/
theorem sm_mult {p : Nat} (hp : 1 ≤ p) (f : Nat → Int) : ∀ m : Nat, sm (p * m) (fun d => if d % p = 0 then f d else 0) = sm m fun e => f (p * e)
  | 0 => rfl
  | m + 1 => by
    have key : ∀ k, k < p → sm (p * m + k) (fun d => if d % p = 0 then f d else 0) = sm (p * m) (fun d => if d % p = 0 then f d else 0) := fun k hk =>
      sm_ext (by omega) fun i h1 h2 => if_neg fun z => by
        obtain ⟨c, hc⟩ := Nat.dvd_of_mod_eq_zero z
        have h3 : p * m < p * c := by omega
        have h4 : m < c := Nat.lt_of_mul_lt_mul_left h3
        have h5 : p * (m + 1) ≤ p * c := Nat.mul_le_mul_left p h4
        rw [Nat.mul_add, Nat.mul_one] at h5
        omega
    have e : p * (m + 1) = p * m + (p - 1) + 1 := by rw [Nat.mul_add, Nat.mul_one]; omega
    rw [e, sm, key (p - 1) (by omega), sm_mult hp f m, sm, ← e, if_pos (Nat.mul_mod_right p (m + 1))]

/-! #### the product by parts -/
/-- all pairs i, j with i * j = n -/
def cv (f g : Nat → Int) (n : Nat) : Int := sm n fun i => sm n fun j => if i * j = n then f i * g j else 0
theorem cv_big {f g : Nat → Int} {n N : Nat} (h : 1 ≤ n) (hN : n ≤ N) : cv f g n = sm N fun i => sm N fun j => if i * j = n then f i * g j else 0 := by
  unfold cv
  have hin : ∀ i, 1 ≤ i → (sm N fun j => if i * j = n then f i * g j else 0) = sm n fun j => if i * j = n then f i * g j else 0 := fun i hi =>
    sm_ext hN fun j h1 h2 => if_neg fun z => by
      have : j ≤ i * j := Nat.le_mul_of_pos_left j hi
      omega
  rw [sm_congr (n := N) fun i h1 _ => hin i h1]
  refine (sm_ext hN fun i h1 h2 => ?_).symm
  refine sm_zero fun j h3 h4 => if_neg fun z => ?_
  have : i ≤ i * j := Nat.le_mul_of_pos_right i h3
  omega
theorem cv_comm (f g : Nat → Int) (n : Nat) : cv f g n = cv g f n := by
  unfold cv
  rw [sm_swap]
  refine sm_congr fun j _ _ => sm_congr fun i _ _ => ?_
  rw [Nat.mul_comm, Int.mul_comm]
/-- the inner sum: the other factor is the quotient -/
theorem cv_div (f g : Nat → Int) {n : Nat} (h : 1 ≤ n) : cv f g n = sm n fun i => if n % i = 0 then f i * g (n / i) else 0 := by
  unfold cv
  refine sm_congr fun i h1 h2 => ?_
  by_cases hd : n % i = 0
  · rw [if_pos hd]
    have hdv := Nat.dvd_of_mod_eq_zero hd
    have e : i * (n / i) = n := Nat.mul_div_cancel' hdv
    have hq : 1 ≤ n / i := Nat.div_pos h2 h1
    have hq2 : n / i ≤ n := Nat.div_le_self n i
    rw [← sm_one hq hq2 fun j => f i * g j]
    refine sm_congr fun j _ _ => ?_
    by_cases hj : j = n / i
    · rw [if_pos hj, hj, if_pos e]
    · rw [if_neg hj, if_neg fun z => hj (Nat.eq_of_mul_eq_mul_left (by omega) (z.trans e.symm))]
  · rw [if_neg hd]
    refine sm_zero fun j _ _ => if_neg fun z => hd ?_
    rw [← z]
    exact Nat.mul_mod_right i j
theorem cv_congr {f f' g g' : Nat → Int} {n : Nat} (hf : ∀ i, 1 ≤ i → i ≤ n → f i = f' i) (hg : ∀ i, 1 ≤ i → i ≤ n → g i = g' i) : cv f g n = cv f' g' n := by
  unfold cv
  refine sm_congr fun i h1 h2 => sm_congr fun j h3 h4 => ?_
  rw [hf i h1 h2, hg j h3 h4]
theorem sm_if {n : Nat} {c : Prop} [Decidable c] (f : Nat → Int) : (sm n fun j => if c then f j else 0) = if c then sm n f else 0 := by
  by_cases h : c
  · rw [if_pos h]; exact sm_congr fun i _ _ => if_pos h
  · rw [if_neg h]; exact sm_zero fun i _ _ => if_neg h
theorem ite_mul' {c : Prop} [Decidable c] (a b : Int) : (if c then a else 0) * b = if c then a * b else 0 := by
  split
  · rfl
  · exact Int.zero_mul b
theorem cv_assoc (f g h : Nat → Int) {n : Nat} (hn : 1 ≤ n) : cv (cv f g) h n = cv f (cv g h) n := by
  have L : cv (cv f g) h n = sm n fun i => sm n fun j => sm n fun k => if i * j * k = n then f i * g j * h k else 0 := by
    have h1 : cv (cv f g) h n = sm n fun m => sm n fun k => sm n fun i => sm n fun j => if i * j = m then (if m * k = n then f i * g j * h k else 0) else 0 := by
      unfold cv
      refine sm_congr fun m hm1 hm2 => sm_congr fun k _ _ => ?_
      have := cv_big (f := f) (g := g) hm1 hm2
      unfold cv at this
      rw [this, ← sm_mul_right, ← sm_if]
      refine sm_congr fun i _ _ => ?_
      rw [← sm_mul_right, ← sm_if]
      refine sm_congr fun j _ _ => ?_
      by_cases e1 : m * k = n <;> by_cases e2 : i * j = m <;> simp [e1, e2]
    rw [h1, sm_swap]
    have h2 : (sm n fun k => sm n fun m => sm n fun i => sm n fun j => if i * j = m then (if m * k = n then f i * g j * h k else 0) else 0) = sm n fun k => sm n fun i => sm n fun j => if i * j * k = n then f i * g j * h k else 0 := by
      refine sm_congr fun k hk _ => ?_
      rw [sm_swap]
      refine sm_congr fun i hi _ => ?_
      rw [sm_swap]
      refine sm_congr fun j hj _ => ?_
      have e : (sm n fun m => if i * j = m then (if m * k = n then f i * g j * h k else 0) else 0) = sm n fun m => if m = i * j then (if m * k = n then f i * g j * h k else 0) else 0 :=
        sm_congr fun m _ _ => by
          by_cases e : i * j = m
          · rw [if_pos e, if_pos e.symm]
          · rw [if_neg e, if_neg (Ne.symm e)]
      rw [e]
      by_cases hb : i * j ≤ n
      · exact sm_one (Nat.mul_pos hi hj) hb fun m => if m * k = n then f i * g j * h k else 0
      · rw [sm_none (.inr (by omega)), if_neg fun z => hb (by rw [← z]; exact Nat.le_mul_of_pos_right _ hk)]
    rw [h2, sm_swap]
    refine sm_congr fun i _ _ => ?_
    rw [sm_swap]
  have R : cv f (cv g h) n = sm n fun i => sm n fun j => sm n fun k => if i * j * k = n then f i * g j * h k else 0 := by
    have h1 : cv f (cv g h) n = sm n fun i => sm n fun m => sm n fun j => sm n fun k => if j * k = m then (if i * m = n then f i * g j * h k else 0) else 0 := by
      unfold cv
      refine sm_congr fun i _ _ => sm_congr fun m hm1 hm2 => ?_
      have := cv_big (f := g) (g := h) hm1 hm2
      unfold cv at this
      rw [this, ← sm_mul, ← sm_if]
      refine sm_congr fun j _ _ => ?_
      rw [← sm_mul, ← sm_if]
      refine sm_congr fun k _ _ => ?_
      by_cases e1 : i * m = n <;> by_cases e2 : j * k = m <;> simp [e1, e2, Int.mul_assoc]
    rw [h1]
    refine sm_congr fun i hi _ => ?_
    rw [sm_swap]
    refine sm_congr fun j hj _ => ?_
    rw [sm_swap]
    refine sm_congr fun k hk _ => ?_
    have e : (sm n fun m => if j * k = m then (if i * m = n then f i * g j * h k else 0) else 0) = sm n fun m => if m = j * k then (if i * m = n then f i * g j * h k else 0) else 0 :=
      sm_congr fun m _ _ => by
        by_cases e : j * k = m
        · rw [if_pos e, if_pos e.symm]
        · rw [if_neg e, if_neg (Ne.symm e)]
    rw [e]
    by_cases hb : j * k ≤ n
    · rw [sm_one (Nat.mul_pos hj hk) hb fun m => if i * m = n then f i * g j * h k else 0, Nat.mul_assoc]
    · rw [sm_none (.inr (by omega)), if_neg fun z => hb (by rw [← z, Nat.mul_assoc]; exact Nat.le_mul_of_pos_left _ hi)]
  rw [L, R]
/-- the unit -/
def un (n : Nat) : Int := if n = 1 then 1 else 0
theorem cv_un (f : Nat → Int) {n : Nat} (h : 1 ≤ n) : cv f un n = f n := by
  rw [cv_comm, cv_div _ _ h]
  have e : (sm n fun i => if n % i = 0 then un i * f (n / i) else 0) = sm n fun i => if i = 1 then f (n / i) else 0 := by
    refine sm_congr fun i _ _ => ?_
    unfold un
    by_cases hi : i = 1
    · subst hi
      rw [Nat.mod_one, if_pos rfl, if_pos rfl, if_pos rfl, Int.one_mul]
    · rw [if_neg hi, if_neg hi, Int.zero_mul]
      split <;> rfl
  rw [e, sm_one (Nat.le_refl 1) h fun i => f (n / i), Nat.div_one]
end PM
/-! ### the signs of all parts of a number -/
namespace PM
/-- how many primes go into n -/
def om (n : Nat) : Nat := (ppL n).length
theorem pick_len (n d : Nat) : (pick n d).length = ((List.range d).filter fun p => isP p && decide (n % p = 0)).length := by
  unfold pick
  exact List.length_map _
theorem range_filter_len (d : Nat) (f : Nat → Bool) : (((List.range (d + 1)).filter f).length : Int) = (if f 0 then 1 else 0) + sm d fun i => if f i then 1 else 0 := by
  induction d with
  | zero =>
    rw [sm, show List.range (0 + 1) = [0] by decide, List.filter_cons]
    by_cases h : f 0 = true
    · rw [if_pos h, if_pos h]; rfl
    · rw [if_neg h, if_neg h]; rfl
  | succ d ih =>
    rw [List.range_succ, List.filter_append, List.length_append, Int.natCast_add, ih, sm, List.filter_cons]
    by_cases h : f (d + 1) = true
    · rw [if_pos h, if_pos h]
      show _ + (1 : Int) = _
      omega
    · rw [if_neg h, if_neg h]
      show _ + (0 : Int) = _
      omega
theorem om_sm {n N : Nat} (h : 1 ≤ n) (hN : n ≤ N) : (om n : Int) = sm N fun i => if isP i && decide (n % i = 0) then 1 else 0 := by
  unfold om ppL
  rw [pick_len, range_filter_len]
  have h0 : isP 0 = false := by decide
  rw [h0, Bool.false_and, if_neg (by decide), Int.zero_add]
  refine (sm_ext hN fun i h1 h2 => ?_).symm
  refine if_neg fun z => ?_
  rw [Bool.and_eq_true, decide_eq_true_iff] at z
  have := Nat.le_of_dvd h (Nat.dvd_of_mod_eq_zero z.2)
  omega
theorem om_mul {p e : Nat} (hp : Pr p) (he : 1 ≤ e) (hd : ¬ p ∣ e) : om (p * e) = om e + 1 := by
  have h1 : 1 ≤ p * e := Nat.mul_pos hp.pos he
  have h2 : e ≤ p * e := Nat.le_mul_of_pos_left e hp.pos
  have h3 : p ≤ p * e := Nat.le_mul_of_pos_right p he
  have a := om_sm h1 (Nat.le_refl (p * e))
  have b := om_sm he h2
  have c : (sm (p * e) fun i => if isP i && decide (p * e % i = 0) then (1 : Int) else 0) = (sm (p * e) fun i => if isP i && decide (e % i = 0) then (1 : Int) else 0) + sm (p * e) fun i => if i = p then (1 : Int) else 0 := by
    rw [← sm_add]
    refine sm_congr fun i _ _ => ?_
    by_cases hi : i = p
    · subst hi
      have z1 : (isP i && decide (i * e % i = 0)) = true := by
        rw [Bool.and_eq_true, decide_eq_true_iff]
        exact ⟨(isP_iff i).mpr hp, Nat.mul_mod_right i e⟩
      have z2 : (isP i && decide (e % i = 0)) = false := by
        rw [Bool.and_eq_false_iff]
        exact .inr (decide_eq_false fun z => hd (Nat.dvd_of_mod_eq_zero z))
      rw [z1, z2]
      simp
    · rw [if_neg hi, Int.add_zero]
      have : (isP i && decide (p * e % i = 0)) = (isP i && decide (e % i = 0)) := by
        cases q : isP i with
        | false => rfl
        | true =>
          have hpi := (isP_iff i).mp q
          rw [Bool.true_and, Bool.true_and, decide_eq_decide]
          constructor
          · intro z
            rcases hpi.dvd_mul (Nat.dvd_of_mod_eq_zero z) with y | y
            · exact absurd y (hpi.ndvd hp hi)
            · exact Nat.mod_eq_zero_of_dvd y
          · intro z
            exact Nat.mod_eq_zero_of_dvd (Nat.dvd_mul_left_of_dvd (Nat.dvd_of_mod_eq_zero z) p)
      rw [this]
  have d := sm_one (a := p) (n := p * e) hp.pos h3 fun _ => (1 : Int)
  rw [c, ← b, d] at a
  omega
theorem sqfree_mul {p e : Nat} (hp : Pr p) (hd : ¬ p ∣ e) : SqFree (p * e) ↔ SqFree e := by
  constructor
  · intro h q hq z
    exact h q hq (Nat.dvd_mul_left_of_dvd z p)
  · intro h q hq z
    obtain ⟨r, hr, hrq⟩ := ex_pr q hq
    have h1 : r * r ∣ p * e := Nat.dvd_trans (Nat.mul_dvd_mul hrq hrq) z
    by_cases e1 : r = p
    · subst e1
      exact hd (Nat.dvd_of_mul_dvd_mul_left hr.pos h1)
    · have c1 : Nat.Coprime r p := hr.cop (hr.ndvd hp e1)
      have c2 : Nat.Coprime (r * r) p := Nat.Coprime.mul_left c1 c1
      exact h r hr.1 (c2.dvd_of_dvd_mul_left h1)
theorem sgn_mul {p e : Nat} (hp : Pr p) (he : 1 ≤ e) (hd : ¬ p ∣ e) : sgn (p * e) = - sgn e := by
  have h1 : 1 ≤ p * e := Nat.mul_pos hp.pos he
  by_cases hs : SqFree e
  · rw [sgn_one h1 ((sqfree_mul hp hd).mpr hs), sgn_one he hs]
    have := om_mul hp he hd
    unfold om at this
    rw [this, Int.pow_succ]
    omega
  · rw [sgn_zero h1 fun z => hs ((sqfree_mul hp hd).mp z), sgn_zero he hs]
    rfl
theorem sgn_sq {p e : Nat} (hp : Pr p) (he : 1 ≤ e) (hd : p ∣ e) : sgn (p * e) = 0 := by
  refine sgn_zero (Nat.mul_pos hp.pos he) fun z => z p hp.1 ?_
  exact Nat.mul_dvd_mul_left p hd
theorem sgn_1 : sgn 1 = 1 := by decide
/-- the signs of all parts sum to nought, but for 1 -/
theorem sgn_sum {n : Nat} (h : 1 ≤ n) : (sm n fun d => if n % d = 0 then sgn d else 0) = un n := by
  by_cases h1 : n = 1
  · subst h1
    decide
  obtain ⟨p, hp, M, hM⟩ := ex_pr n (by omega)
  have hM1 : 1 ≤ M := by
    rcases Nat.eq_zero_or_pos M with z | z
    · rw [z] at hM; omega
    · exact z
  have hp2 := hp.1
  have un0 : un n = 0 := if_neg h1
  rw [un0]
  -- by whether p goes in
  have split : (sm n fun d => if n % d = 0 then sgn d else 0) = (sm n fun d => if d % p = 0 then (if n % d = 0 then sgn d else 0) else 0) + sm n fun d => if d % p = 0 then 0 else (if n % d = 0 then sgn d else 0) := by
    rw [← sm_add]
    refine sm_congr fun d _ _ => ?_
    by_cases z : d % p = 0
    · rw [if_pos z, if_pos z]; omega
    · rw [if_neg z, if_neg z]; omega
  have A : (sm n fun d => if d % p = 0 then (if n % d = 0 then sgn d else 0) else 0) = sm M fun e => if e % p = 0 then 0 else (if n % e = 0 then - sgn e else 0) := by
    have := sm_mult hp.pos (fun d => if n % d = 0 then sgn d else 0) M
    rw [← hM] at this
    rw [this]
    refine sm_congr fun e he1 he2 => ?_
    by_cases z : e % p = 0
    · rw [if_pos z, sgn_sq hp he1 (Nat.dvd_of_mod_eq_zero z)]
      split <;> rfl
    · rw [if_neg z]
      have hpe : ¬ p ∣ e := fun y => z (Nat.mod_eq_zero_of_dvd y)
      rw [sgn_mul hp he1 hpe]
      have iff : n % (p * e) = 0 ↔ n % e = 0 := by
        constructor
        · intro y
          exact Nat.mod_eq_zero_of_dvd (Nat.dvd_trans (Nat.dvd_mul_left e p) (Nat.dvd_of_mod_eq_zero y))
        · intro y
          have c : Nat.Coprime p e := hp.cop hpe
          exact Nat.mod_eq_zero_of_dvd (c.mul_dvd_of_dvd_of_dvd ⟨M, hM⟩ (Nat.dvd_of_mod_eq_zero y))
      by_cases y : n % e = 0
      · rw [if_pos y, if_pos (iff.mpr y)]
      · rw [if_neg y, if_neg fun q => y (iff.mp q)]
  have Bq : (sm n fun d => if d % p = 0 then 0 else (if n % d = 0 then sgn d else 0)) = sm M fun e => if e % p = 0 then 0 else (if n % e = 0 then sgn e else 0) := by
    refine sm_ext (by rw [hM]; exact Nat.le_mul_of_pos_left M hp.pos) fun i h2 h3 => ?_
    by_cases z : i % p = 0
    · exact if_pos z
    · rw [if_neg z]
      refine if_neg fun y => ?_
      have hpi : ¬ p ∣ i := fun q => z (Nat.mod_eq_zero_of_dvd q)
      have hdv := Nat.dvd_of_mod_eq_zero y
      rw [hM] at hdv
      have c : Nat.Coprime i p := (hp.cop hpi).symm
      have := Nat.le_of_dvd hM1 (c.dvd_of_dvd_mul_left hdv)
      omega
  rw [split, A, Bq, ← sm_add]
  refine sm_zero fun e _ _ => ?_
  by_cases z : e % p = 0
  · rw [if_pos z, if_pos z]; rfl
  · rw [if_neg z, if_neg z]
    split <;> omega
def one1 : Nat → Int := fun _ => 1
theorem cv_sgn_one {n : Nat} (h : 1 ≤ n) : cv sgn one1 n = un n := by
  rw [cv_div _ _ h, ← sgn_sum h]
  refine sm_congr fun i _ _ => ?_
  unfold one1
  rw [Int.mul_one]
/-- there and back -/
theorem back_sum (f : Nat → Int) {n : Nat} (h : 1 ≤ n) : cv sgn (cv one1 f) n = f n := by
  rw [← cv_assoc sgn one1 f h, cv_comm, cv_congr (g' := un) (fun _ _ _ => rfl) fun i h1 _ => cv_sgn_one h1]
  exact cv_un f h
theorem sum_back (f : Nat → Int) {n : Nat} (h : 1 ≤ n) : cv one1 (cv sgn f) n = f n := by
  rw [← cv_assoc one1 sgn f h, cv_comm, cv_congr (g' := un) (fun _ _ _ => rfl) fun i h1 _ => (cv_comm one1 sgn i).trans (cv_sgn_one h1)]
  exact cv_un f h
end PM
/-! ### tables that go by primes -/
namespace PM
theorem gcd_part {a b i k : Nat} (h : Nat.Coprime a b) (hi : i ∣ a) (hk : k ∣ b) : Nat.gcd (i * k) a = i := by
  have c : Nat.Coprime k a := (Nat.Coprime.coprime_dvd_left hk h.symm)
  rw [Nat.Coprime.gcd_mul_right_cancel i c]
  exact Nat.gcd_eq_left hi
/-- over the parts of a product of two numbers without a common part -/
theorem sm_pairs {a b : Nat} (h : Nat.Coprime a b) (ha : 1 ≤ a) (hb : 1 ≤ b) (F : Nat → Int) :
    (sm (a * b) fun x => if a * b % x = 0 then F x else 0) = sm a fun i => if a % i = 0 then (sm b fun k => if b % k = 0 then F (i * k) else 0) else 0 := by
  have hab : 1 ≤ a * b := Nat.mul_pos ha hb
  have step1 : (sm (a * b) fun x => if a * b % x = 0 then F x else 0) = sm (a * b) fun x => sm a fun i => sm b fun k => if i = Nat.gcd x a then (if k = Nat.gcd x b then (if a * b % x = 0 then F x else 0) else 0) else 0 := by
    refine sm_congr fun x hx _ => ?_
    have g1 : 1 ≤ Nat.gcd x a := Nat.gcd_pos_of_pos_left a hx
    have g2 : Nat.gcd x a ≤ a := Nat.gcd_le_right x ha
    have g3 : 1 ≤ Nat.gcd x b := Nat.gcd_pos_of_pos_left b hx
    have g4 : Nat.gcd x b ≤ b := Nat.gcd_le_right x hb
    rw [sm_congr (n := a) fun i _ _ => sm_if (c := i = Nat.gcd x a) fun k => if k = Nat.gcd x b then (if a * b % x = 0 then F x else 0) else 0, sm_one g1 g2 fun _ => sm b fun k => if k = Nat.gcd x b then (if a * b % x = 0 then F x else 0) else 0,
      sm_one g3 g4 fun _ => if a * b % x = 0 then F x else 0]
  rw [step1, sm_swap]
  refine sm_congr fun i hi1 hi2 => ?_
  rw [sm_swap]
  by_cases hia : a % i = 0
  · rw [if_pos hia]
    have hid := Nat.dvd_of_mod_eq_zero hia
    refine sm_congr fun k hk1 hk2 => ?_
    by_cases hkb : b % k = 0
    · rw [if_pos hkb]
      have hkd := Nat.dvd_of_mod_eq_zero hkb
      have hik : i * k ∣ a * b := Nat.mul_dvd_mul hid hkd
      have e : (sm (a * b) fun x => if i = Nat.gcd x a then (if k = Nat.gcd x b then (if a * b % x = 0 then F x else 0) else 0) else 0) = sm (a * b) fun x => if x = i * k then F x else 0 := by
        refine sm_congr fun x _ _ => ?_
        by_cases hx : x = i * k
        · subst hx
          rw [if_pos rfl, if_pos (gcd_part h hid hkd).symm, if_pos (by rw [Nat.mul_comm]; exact (gcd_part h.symm hkd hid).symm), if_pos (Nat.mod_eq_zero_of_dvd hik)]
        · rw [if_neg hx]
          by_cases e1 : i = Nat.gcd x a
          · rw [if_pos e1]
            by_cases e2 : k = Nat.gcd x b
            · rw [if_pos e2]
              refine if_neg fun z => hx ?_
              have : Nat.gcd x (a * b) = x := Nat.gcd_eq_left (Nat.dvd_of_mod_eq_zero z)
              rw [Nat.Coprime.gcd_mul x h, ← e1, ← e2] at this
              exact this.symm
            · exact if_neg e2
          · exact if_neg e1
      rw [e]
      exact sm_one (Nat.mul_pos hi1 hk1) (Nat.le_of_dvd hab hik) F
    · rw [if_neg hkb]
      refine sm_zero fun x _ _ => ?_
      split
      · exact if_neg fun (z : k = Nat.gcd x b) => hkb (by rw [z]; exact Nat.mod_eq_zero_of_dvd (Nat.gcd_dvd_right x b))
      · rfl
  · rw [if_neg hia]
    refine sm_zero fun k _ _ => sm_zero fun x _ _ => ?_
    exact if_neg fun (z : i = Nat.gcd x a) => hia (by rw [z]; exact Nat.mod_eq_zero_of_dvd (Nat.gcd_dvd_right x a))
/-- goes by primes, as far as N -/
structure GP (N : Nat) (f : Nat → Int) : Prop where
  one : f 1 = 1
  mul : ∀ a b, 1 ≤ a → 1 ≤ b → Nat.Coprime a b → a * b ≤ N → f (a * b) = f a * f b
theorem GP.one1 (N : Nat) : GP N one1 := ⟨rfl, fun _ _ _ _ _ _ => rfl⟩
theorem div_mul_div {a b i k : Nat} (hi : i ∣ a) (hk : k ∣ b) (hi0 : 1 ≤ i) (hk0 : 1 ≤ k) : a * b / (i * k) = a / i * (b / k) := by
  obtain ⟨c, rfl⟩ := hi
  obtain ⟨d, rfl⟩ := hk
  rw [Nat.mul_div_cancel_left c hi0, Nat.mul_div_cancel_left d hk0, show i * c * (k * d) = i * k * (c * d) by rw [Nat.mul_assoc, Nat.mul_assoc, Nat.mul_left_comm c]]
  exact Nat.mul_div_cancel_left _ (Nat.mul_pos hi0 hk0)
/-- the product of sums -/
theorem sm_sm (a b : Nat) (f g : Nat → Int) : sm a f * sm b g = sm a fun i => sm b fun k => f i * g k := by
  rw [← sm_mul_right]
  exact sm_congr fun i _ _ => (sm_mul b (f i) g).symm
theorem cv_pairs {a b : Nat} (h : Nat.Coprime a b) (ha : 1 ≤ a) (hb : 1 ≤ b) (f g : Nat → Int) :
    cv f g (a * b) = sm a fun i => if a % i = 0 then (sm b fun k => if b % k = 0 then f (i * k) * g (a / i * (b / k)) else 0) else 0 := by
  rw [cv_div _ _ (Nat.mul_pos ha hb), sm_pairs h ha hb fun x => f x * g (a * b / x)]
  refine sm_congr fun i hi _ => ?_
  by_cases hia : a % i = 0
  · rw [if_pos hia, if_pos hia]
    refine sm_congr fun k hk _ => ?_
    by_cases hkb : b % k = 0
    · rw [if_pos hkb, if_pos hkb, div_mul_div (Nat.dvd_of_mod_eq_zero hia) (Nat.dvd_of_mod_eq_zero hkb) hi hk]
    · rw [if_neg hkb, if_neg hkb]
  · rw [if_neg hia, if_neg hia]
theorem cv_cv {a b : Nat} (ha : 1 ≤ a) (hb : 1 ≤ b) (f g : Nat → Int) :
    cv f g a * cv f g b = sm a fun i => if a % i = 0 then (sm b fun k => if b % k = 0 then f i * f k * (g (a / i) * g (b / k)) else 0) else 0 := by
  rw [cv_div _ _ ha, cv_div _ _ hb, sm_sm]
  refine sm_congr fun i _ _ => ?_
  by_cases hia : a % i = 0
  · rw [if_pos hia, if_pos hia]
    refine sm_congr fun k _ _ => ?_
    by_cases hkb : b % k = 0
    · rw [if_pos hkb, if_pos hkb, Int.mul_assoc, Int.mul_assoc, Int.mul_left_comm (g (a / i))]
    · rw [if_neg hkb, if_neg hkb, Int.mul_zero]
  · rw [if_neg hia]
    refine (sm_zero fun k _ _ => ?_).trans (if_neg hia).symm
    rw [Int.zero_mul]
theorem part_facts {a b i k : Nat} (h : Nat.Coprime a b) (hi : i ∣ a) (hk : k ∣ b) (ha : 1 ≤ a) (hb : 1 ≤ b) : Nat.Coprime i k ∧ Nat.Coprime (a / i) (b / k) ∧ i * k ≤ a * b ∧ a / i * (b / k) ≤ a * b :=
  ⟨Nat.Coprime.coprime_dvd_left hi (Nat.Coprime.coprime_dvd_right hk h), Nat.Coprime.coprime_dvd_left (Nat.div_dvd_of_dvd hi) (Nat.Coprime.coprime_dvd_right (Nat.div_dvd_of_dvd hk) h),
    Nat.mul_le_mul (Nat.le_of_dvd ha hi) (Nat.le_of_dvd hb hk), Nat.mul_le_mul (Nat.div_le_self a i) (Nat.div_le_self b k)⟩
theorem GP.cv {N : Nat} {f g : Nat → Int} (hf : GP N f) (hg : GP N g) : GP N (cv f g) := by
  refine ⟨?_, fun a b ha hb hc hN => ?_⟩
  · unfold PM.cv
    show (0 : Int) + (0 + if 1 * 1 = 1 then f 1 * g 1 else 0) = 1
    rw [if_pos rfl, hf.one, hg.one]
    rfl
  · rw [cv_pairs hc ha hb, cv_cv ha hb]
    refine sm_congr fun i hi hi2 => ?_
    by_cases hia : a % i = 0
    · rw [if_pos hia, if_pos hia]
      refine sm_congr fun k hk hk2 => ?_
      by_cases hkb : b % k = 0
      · obtain ⟨c1, c2, c3, c4⟩ := part_facts hc (Nat.dvd_of_mod_eq_zero hia) (Nat.dvd_of_mod_eq_zero hkb) ha hb
        rw [if_pos hkb, if_pos hkb, hf.mul i k hi hk c1 (by omega), hg.mul _ _ (Nat.div_pos hi2 hi) (Nat.div_pos hk2 hk) c2 (by omega)]
      · rw [if_neg hkb, if_neg hkb]
    · rw [if_neg hia, if_neg hia]
/-- the last term of a sum over parts -/
theorem sm_last {n : Nat} (h : 1 ≤ n) (F : Nat → Int) : (sm n fun i => if n % i = 0 then F i else 0) = (sm (n - 1) fun i => if n % i = 0 then F i else 0) + F n := by
  obtain ⟨m, rfl⟩ : ∃ m, n = m + 1 := ⟨n - 1, by omega⟩
  rw [sm, if_pos (Nat.mod_self _), Nat.add_sub_cancel]
/-- the turned table of one that goes by primes does so -/
theorem GP.turn {N : Nat} {f g : Nat → Int} (hf : GP N f) (hg : ∀ n, 1 ≤ n → n ≤ N → PM.cv g f n = un n) (hN : 1 ≤ N) : GP N g := by
  have g1 : g 1 = 1 := by
    have := hg 1 (Nat.le_refl 1) hN
    unfold PM.cv at this
    have this : (0 : Int) + (0 + if 1 * 1 = 1 then g 1 * f 1 else 0) = un 1 := this
    rw [if_pos rfl, hf.one] at this
    have e : un 1 = 1 := rfl
    rw [e] at this
    omega
  refine ⟨g1, ?_⟩
  have main : ∀ n a b, a * b = n → 1 ≤ a → 1 ≤ b → Nat.Coprime a b → a * b ≤ N → g (a * b) = g a * g b := by
    intro n
    induction n using Nat.strongRecOn with
    | _ n ih =>
      intro a b e ha hb hc hN'
      have hab : 1 ≤ a * b := Nat.mul_pos ha hb
      have haN : a ≤ a * b := Nat.le_mul_of_pos_right a hb
      have hbN : b ≤ a * b := Nat.le_mul_of_pos_left b ha
      have L := cv_pairs hc ha hb g f
      have R := cv_cv ha hb g f
      rw [hg _ hab hN'] at L
      rw [hg a ha (by omega), hg b hb (by omega)] at R
      have eu : un (a * b) = un a * un b := by
        unfold un
        by_cases h1 : a = 1
        · subst h1; rw [Nat.one_mul, if_pos rfl, Int.one_mul]
        · rw [if_neg h1, Int.zero_mul]
          exact if_neg fun z => h1 (Nat.eq_one_of_mul_eq_one_right z)
      -- the inner sums, with their last terms apart
      have Lin : ∀ i, 1 ≤ i → i ≤ a → a % i = 0 → (sm b fun k => if b % k = 0 then g (i * k) * f (a / i * (b / k)) else 0) = (sm b fun k => if b % k = 0 then g i * g k * (f (a / i) * f (b / k)) else 0) + (if i = a then g (a * b) - g a * g b else 0) := by
        intro i hi1 hi2 hia
        have hid := Nat.dvd_of_mod_eq_zero hia
        rw [sm_last hb fun k => g (i * k) * f (a / i * (b / k)), sm_last hb fun k => g i * g k * (f (a / i) * f (b / k))]
        have inner : (sm (b - 1) fun k => if b % k = 0 then g (i * k) * f (a / i * (b / k)) else 0) = sm (b - 1) fun k => if b % k = 0 then g i * g k * (f (a / i) * f (b / k)) else 0 := by
          refine sm_congr fun k hk1 hk2 => ?_
          by_cases hkb : b % k = 0
          · rw [if_pos hkb, if_pos hkb]
            obtain ⟨c1, c2, c3, c4⟩ := part_facts hc hid (Nat.dvd_of_mod_eq_zero hkb) ha hb
            have lt : i * k < n := by
              rw [← e]
              exact Nat.lt_of_le_of_lt (Nat.mul_le_mul_right k hi2) (Nat.mul_lt_mul_of_pos_left (by omega) ha)
            rw [ih (i * k) lt i k rfl hi1 hk1 c1 (by omega), hf.mul _ _ (Nat.div_pos hi2 hi1) (Nat.div_pos (by omega) hk1) c2 (by omega)]
          · rw [if_neg hkb, if_neg hkb]
        rw [inner]
        have bb : b / b = 1 := Nat.div_self hb
        rw [bb, Nat.mul_one, hf.one, Int.mul_one]
        by_cases hia2 : i = a
        · subst hia2
          rw [if_pos rfl, Nat.div_self hi1, hf.one, Int.mul_one, Int.mul_one]
          omega
        · rw [if_neg hia2]
          obtain ⟨c1, c2, c3, c4⟩ := part_facts hc hid (Nat.dvd_refl b) ha hb
          have lt : i * b < n := by
            rw [← e]
            exact Nat.mul_lt_mul_of_pos_right (by omega) hb
          rw [ih (i * b) lt i b rfl hi1 hb c1 (by omega)]
          omega
      have L2 : (sm a fun i => if a % i = 0 then (sm b fun k => if b % k = 0 then g (i * k) * f (a / i * (b / k)) else 0) else 0) = (sm a fun i => if a % i = 0 then (sm b fun k => if b % k = 0 then g i * g k * (f (a / i) * f (b / k)) else 0) else 0) + (g (a * b) - g a * g b) := by
        rw [← sm_one ha (Nat.le_refl a) fun _ => g (a * b) - g a * g b, ← sm_add]
        refine sm_congr fun i hi1 hi2 => ?_
        by_cases hia : a % i = 0
        · rw [if_pos hia, if_pos hia, Lin i hi1 hi2 hia]
        · rw [if_neg hia, if_neg hia, if_neg fun z => hia (by rw [z]; exact Nat.mod_self a)]
          rfl
      rw [L2, ← R, eu] at L
      omega
  exact fun a b ha hb hc hN' => main (a * b) a b rfl ha hb hc hN'
theorem GP.sgn (N : Nat) (hN : 1 ≤ N) : GP N sgn := GP.turn (GP.one1 N) (fun n h _ => cv_sgn_one h) hN
end PM
/-! ### gathered tables -/
namespace PM
def gth (t : Nat → Int) (n : Nat) : Int := sm n fun j => t (n / j)
def ugt (u : Nat → Int) (n : Nat) : Int := sm n fun k => sgn k * u (n / k)
theorem sm_below {n m : Nat} (h : m ≤ n) : (sm n fun j => if j ≤ m then (1 : Int) else 0) = m := by
  rw [sm_ext h fun i h1 _ => if_neg (by omega)]
  clear h
  induction m with
  | zero => rfl
  | succ m ih =>
    rw [sm, if_pos (Nat.le_refl _), sm_congr (g := fun j => if j ≤ m then (1 : Int) else 0) fun i _ h => by rw [if_pos (show i ≤ m + 1 by omega), if_pos h], ih]
    omega
/-- how often a quotient is k -/
theorem quots {n k : Nat} (hk : 1 ≤ k) : (sm n fun j => if n / j = k then (1 : Int) else 0) = (n / k : Nat) - (n / (k + 1) : Nat) := by
  have a := sm_below (Nat.div_le_self n k)
  have b := sm_below (Nat.div_le_self n (k + 1))
  have e : (sm n fun j => if j ≤ n / k then (1 : Int) else 0) = (sm n fun j => if n / j = k then (1 : Int) else 0) + sm n fun j => if j ≤ n / (k + 1) then (1 : Int) else 0 := by
    rw [← sm_add]
    refine sm_congr fun j hj _ => ?_
    have h1 : j ≤ n / k ↔ k ≤ n / j := by rw [Nat.le_div_iff_mul_le hk, Nat.le_div_iff_mul_le hj, Nat.mul_comm]
    have h2 : j ≤ n / (k + 1) ↔ k + 1 ≤ n / j := by rw [Nat.le_div_iff_mul_le (Nat.succ_pos k), Nat.le_div_iff_mul_le hj, Nat.mul_comm]
    by_cases c1 : k + 1 ≤ n / j
    · rw [if_pos (h1.mpr (by omega)), if_neg (by omega), if_pos (h2.mpr c1)]; rfl
    · rw [if_neg fun z => c1 (h2.mp z)]
      by_cases c2 : k ≤ n / j
      · rw [if_pos (h1.mpr c2), if_pos (by omega)]; rfl
      · rw [if_neg fun z => c2 (h1.mp z), if_neg (by omega)]; rfl
  rw [a, b] at e
  omega
theorem gth_often (t : Nat → Int) (n : Nat) : gth t n = sm n fun k => ((n / k : Nat) - (n / (k + 1) : Nat) : Int) * t k := by
  have e : gth t n = sm n fun j => sm n fun k => if n / j = k then t k else 0 := by
    unfold gth
    refine sm_congr fun j hj1 hj2 => ?_
    rw [← sm_one (Nat.div_pos hj2 hj1) (Nat.div_le_self n j) t]
    refine sm_congr fun k _ _ => ?_
    by_cases c : k = n / j
    · rw [if_pos c, if_pos c.symm]
    · rw [if_neg c, if_neg (Ne.symm c)]
  rw [e, sm_swap]
  refine sm_congr fun k hk _ => ?_
  rw [← quots hk, ← sm_mul_right]
  refine sm_congr fun j _ _ => ?_
  rw [ite_mul', Int.one_mul]
/-- pairs with a product no greater than n, by their product -/
theorem sm_prods (n : Nat) (F : Nat → Nat → Int) : (sm n fun k => sm (n / k) fun j => F k (k * j)) = sm n fun m => sm m fun k => if m % k = 0 then F k m else 0 := by
  have e : (sm n fun k => sm (n / k) fun j => F k (k * j)) = sm n fun k => sm n fun m => if m % k = 0 then F k m else 0 := by
    refine sm_congr fun k hk1 _ => ?_
    rw [← sm_mult hk1 (F k) (n / k)]
    have hle : k * (n / k) ≤ n := Nat.mul_div_le n k
    refine (sm_ext hle fun i h1 h2 => if_neg fun z => ?_).symm
    obtain ⟨c, rfl⟩ := Nat.dvd_of_mod_eq_zero z
    have h3 : c ≤ n / k := (Nat.le_div_iff_mul_le hk1).mpr (by rw [Nat.mul_comm]; exact h2)
    have := Nat.mul_le_mul_left k h3
    omega
  rw [e, sm_swap]
  refine sm_congr fun m hm1 hm2 => ?_
  refine sm_ext hm2 fun k h1 h2 => if_neg fun z => ?_
  have := Nat.le_of_dvd hm1 (Nat.dvd_of_mod_eq_zero z)
  omega
theorem ugt_gth (t : Nat → Int) {n : Nat} (h : 1 ≤ n) : ugt (gth t) n = t n := by
  have e : ugt (gth t) n = sm n fun k => sm (n / k) fun j => sgn k * t (n / (k * j)) := by
    unfold ugt gth
    refine sm_congr fun k _ _ => ?_
    rw [← sm_mul]
    refine sm_congr fun j _ _ => ?_
    rw [Nat.div_div_eq_div_mul]
  rw [e, sm_prods n fun k m => sgn k * t (n / m)]
  have e2 : (sm n fun m => sm m fun k => if m % k = 0 then sgn k * t (n / m) else 0) = sm n fun m => if m = 1 then t (n / m) else 0 := by
    refine sm_congr fun m hm _ => ?_
    have := sgn_sum hm
    rw [sm_congr (g := fun k => (if m % k = 0 then sgn k else 0) * t (n / m)) fun k _ _ => (ite_mul' _ _).symm, sm_mul_right, this]
    unfold un
    rw [ite_mul', Int.one_mul]
  rw [e2, sm_one (Nat.le_refl 1) h fun m => t (n / m), Nat.div_one]
theorem gth_ugt (t : Nat → Int) {n : Nat} (h : 1 ≤ n) : gth (ugt t) n = t n := by
  have e : gth (ugt t) n = sm n fun k => sm (n / k) fun j => sgn (k * j / k) * t (n / (k * j)) := by
    unfold ugt gth
    refine sm_congr fun k hk _ => ?_
    refine sm_congr fun j _ _ => ?_
    rw [Nat.div_div_eq_div_mul, Nat.mul_div_cancel_left j hk]
  rw [e, sm_prods n fun k m => sgn (m / k) * t (n / m)]
  have e2 : (sm n fun m => sm m fun k => if m % k = 0 then sgn (m / k) * t (n / m) else 0) = sm n fun m => if m = 1 then t (n / m) else 0 := by
    refine sm_congr fun m hm _ => ?_
    have := cv_sgn_one hm
    rw [cv_comm, cv_div _ _ hm] at this
    rw [sm_congr (g := fun k => (if m % k = 0 then sgn (m / k) else 0) * t (n / m)) fun k _ _ => (ite_mul' _ _).symm, sm_mul_right]
    have e3 : (sm m fun k => if m % k = 0 then sgn (m / k) else 0) = un m := by
      rw [← this]
      refine sm_congr fun k _ _ => ?_
      unfold one1
      rw [Int.one_mul]
    rw [e3]
    unfold un
    rw [ite_mul', Int.one_mul]
  rw [e2, sm_one (Nat.le_refl 1) h fun m => t (n / m), Nat.div_one]
end PM
/-! ### tables as lists -/
namespace PM
/-- the entry at n -/
def ent (xs : List Int) (n : Nat) : Int := xs.getD (n - 1) 0
def tab (n : Nat) (f : Nat → Int) : List Int := (List.range n).map fun i => f (i + 1)
theorem tab_len (n : Nat) (f : Nat → Int) : (tab n f).length = n := by
  unfold tab
  rw [List.length_map, List.length_range]
theorem tab_get {n : Nat} {f : Nat → Int} {i : Nat} (h : i < n) : (tab n f)[i]? = some (f (i + 1)) := by
  unfold tab
  rw [List.getElem?_map, List.getElem?_range h]
  rfl
theorem tab_congr {n : Nat} {f g : Nat → Int} (h : ∀ i, 1 ≤ i → i ≤ n → f i = g i) : tab n f = tab n g := by
  unfold tab
  refine List.map_congr_left fun i hi => ?_
  have := List.mem_range.mp hi
  exact h (i + 1) (by omega) (by omega)
theorem tab_set {n : Nat} {f : Nat → Int} {i : Nat} {v : Int} (h : i < n) : (tab n f).set i v = tab n fun m => if m = i + 1 then v else f m := by
  refine List.ext_getElem? fun j => ?_
  by_cases hj : j < n
  · rw [tab_get (f := fun m => if m = i + 1 then v else f m) hj, List.getElem?_set, tab_len]
    by_cases e : i = j
    · subst e
      rw [if_pos rfl, if_pos h, if_pos rfl]
    · rw [if_neg e, tab_get hj, if_neg (by omega)]
  · rw [List.getElem?_eq_none (by rw [List.length_set, tab_len]; omega), List.getElem?_eq_none (by rw [tab_len]; omega)]
theorem tab_succ (n : Nat) (f : Nat → Int) : tab (n + 1) f = tab n f ++ [f (n + 1)] := by
  unfold tab
  rw [List.range_succ, List.map_append]
  rfl
theorem tab_ent (xs : List Int) : tab xs.length (ent xs) = xs := by
  refine List.ext_getElem? fun j => ?_
  by_cases hj : j < xs.length
  · rw [tab_get hj, List.getElem?_eq_getElem hj]
    unfold ent
    rw [Nat.add_sub_cancel, List.getD_eq_getElem?_getD, List.getElem?_eq_getElem hj]
    rfl
  · rw [List.getElem?_eq_none (by rw [tab_len]; omega), List.getElem?_eq_none (by omega)]
theorem ent_tab {n : Nat} {f : Nat → Int} {m : Nat} (h1 : 1 ≤ m) (h2 : m ≤ n) : ent (tab n f) m = f m := by
  unfold ent
  rw [List.getD_eq_getElem?_getD, tab_get (by omega)]
  show f (m - 1 + 1) = f m
  rw [Nat.sub_add_cancel h1]
theorem ent_get {xs : List Int} {i : Nat} (h : i < xs.length) : ent xs (i + 1) = xs[i] := by
  unfold ent
  rw [Nat.add_sub_cancel, List.getD_eq_getElem?_getD, List.getElem?_eq_getElem h]
  rfl
theorem tab_zero (n : Nat) : tab n (fun _ => 0) = List.replicate n 0 := by
  induction n with
  | zero => rfl
  | succ n ih => rw [tab_succ, ih, List.replicate_succ']
/-- the sum over the parts as far as i -/
def upto (f : Nat → Int) (i m : Nat) : Int := sm i fun k => if m % k = 0 then f k else 0
theorem upto_succ (f : Nat → Int) (i m : Nat) : upto f (i + 1) m = upto f i m + if m % (i + 1) = 0 then f (i + 1) else 0 := rfl
theorem upto_all (f : Nat → Int) {n m : Nat} (h1 : 1 ≤ m) (h2 : m ≤ n) : upto f n m = cv one1 f m := by
  unfold upto
  rw [cv_comm, cv_div _ _ h1, sm_ext h2 fun i h3 _ => if_neg fun z => by have := Nat.le_of_dvd h1 (Nat.dvd_of_mod_eq_zero z); omega]
  refine sm_congr fun i _ _ => ?_
  unfold one1
  rw [Int.mul_one]
/-- .. where the multiples of k as far as k * t have had theirs -/
def along (f : Nat → Int) (k t m : Nat) : Int := upto f (k - 1) m + if m % k = 0 ∧ m ≤ k * t then f k else 0
theorem along_zero (f : Nat → Int) {k m : Nat} (h : 1 ≤ m) : along f k 0 m = upto f (k - 1) m := by
  unfold along
  rw [if_neg (by omega), Int.add_zero]
theorem along_step (f : Nat → Int) {k t : Nat} (hk : 1 ≤ k) : (fun m => if m = k * (t + 1) then along f k t (k * (t + 1)) + f k else along f k t m) = along f k (t + 1) := by
  funext m
  unfold along
  have e : k * (t + 1) = k * t + k := by rw [Nat.mul_add, Nat.mul_one]
  by_cases hm : m = k * (t + 1)
  · rw [if_pos hm, hm, if_neg (by rw [e]; omega), if_pos ⟨Nat.mul_mod_right k (t + 1), Nat.le_refl _⟩]
    omega
  · rw [if_neg hm]
    by_cases hd : m % k = 0
    · obtain ⟨c, rfl⟩ := Nat.dvd_of_mod_eq_zero hd
      have hc : k * c ≤ k * (t + 1) ↔ k * c ≤ k * t := by
        constructor
        · intro h
          have h1 : c ≤ t + 1 := Nat.le_of_mul_le_mul_left h hk
          have h2 : c ≠ t + 1 := fun z => hm (by rw [z])
          exact Nat.mul_le_mul_left k (by omega)
        · intro h
          exact Nat.le_trans h (Nat.mul_le_mul_left k (Nat.le_succ t))
      by_cases h : k * c ≤ k * t
      · rw [if_pos ⟨hd, h⟩, if_pos ⟨hd, hc.mpr h⟩]
      · rw [if_neg fun z => h z.2, if_neg fun z => h (hc.mp z.2)]
    · rw [if_neg fun z => hd z.1, if_neg fun z => hd z.1]
theorem along_end (f : Nat → Int) {k n m : Nat} (hk : 1 ≤ k) (hm : m ≤ n) : along f k (n / k) m = upto f k m := by
  obtain ⟨j, rfl⟩ : ∃ j, k = j + 1 := ⟨k - 1, by omega⟩
  unfold along
  rw [Nat.add_sub_cancel, upto_succ]
  by_cases hd : m % (j + 1) = 0
  · have : m ≤ (j + 1) * (n / (j + 1)) := by
      obtain ⟨c, rfl⟩ := Nat.dvd_of_mod_eq_zero hd
      have : c ≤ n / (j + 1) := (Nat.le_div_iff_mul_le hk).mpr (by rw [Nat.mul_comm]; exact hm)
      exact Nat.mul_le_mul_left _ this
    rw [if_pos ⟨hd, this⟩, if_pos hd]
  · rw [if_neg fun z => hd z.1, if_neg hd]
end PM
/-! ### sums over pairs of factors, gathered number by number -/
namespace PM
def upto2 (F : Nat → Nat → Int) (i m : Nat) : Int := sm i fun k => if m % k = 0 then F k m else 0
theorem upto2_succ (F : Nat → Nat → Int) (i m : Nat) : upto2 F (i + 1) m = upto2 F i m + if m % (i + 1) = 0 then F (i + 1) m else 0 := rfl
theorem upto2_all (f g : Nat → Int) {n m : Nat} (h1 : 1 ≤ m) (h2 : m ≤ n) : upto2 (fun k m => f k * g (m / k)) n m = cv f g m := by
  unfold upto2
  rw [cv_div _ _ h1]
  exact sm_ext h2 fun i h3 _ => if_neg fun z => by have := Nat.le_of_dvd h1 (Nat.dvd_of_mod_eq_zero z); omega
def along2 (F : Nat → Nat → Int) (k t m : Nat) : Int := upto2 F (k - 1) m + if m % k = 0 ∧ m ≤ k * t then F k m else 0
theorem along2_zero (F : Nat → Nat → Int) {k m : Nat} (h : 1 ≤ m) : along2 F k 0 m = upto2 F (k - 1) m := by
  unfold along2
  rw [if_neg (by omega), Int.add_zero]
theorem along2_step (F : Nat → Nat → Int) {k t : Nat} (hk : 1 ≤ k) : (fun m => if m = k * (t + 1) then along2 F k t (k * (t + 1)) + F k (k * (t + 1)) else along2 F k t m) = along2 F k (t + 1) := by
  funext m
  unfold along2
  have e : k * (t + 1) = k * t + k := by rw [Nat.mul_add, Nat.mul_one]
  by_cases hm : m = k * (t + 1)
  · rw [if_pos hm, hm, if_neg (by rw [e]; omega), if_pos ⟨Nat.mul_mod_right k (t + 1), Nat.le_refl _⟩]
    omega
  · rw [if_neg hm]
    by_cases hd : m % k = 0
    · obtain ⟨c, rfl⟩ := Nat.dvd_of_mod_eq_zero hd
      have hc : k * c ≤ k * (t + 1) ↔ k * c ≤ k * t := by
        constructor
        · intro h
          have h1 : c ≤ t + 1 := Nat.le_of_mul_le_mul_left h hk
          have h2 : c ≠ t + 1 := fun z => hm (by rw [z])
          exact Nat.mul_le_mul_left k (by omega)
        · intro h
          exact Nat.le_trans h (Nat.mul_le_mul_left k (Nat.le_succ t))
      by_cases h : k * c ≤ k * t
      · rw [if_pos ⟨hd, h⟩, if_pos ⟨hd, hc.mpr h⟩]
      · rw [if_neg fun z => h z.2, if_neg fun z => h (hc.mp z.2)]
    · rw [if_neg fun z => hd z.1, if_neg fun z => hd z.1]
theorem along2_end (F : Nat → Nat → Int) {k n m : Nat} (hk : 1 ≤ k) (hm : m ≤ n) : along2 F k (n / k) m = upto2 F k m := by
  obtain ⟨j, rfl⟩ : ∃ j, k = j + 1 := ⟨k - 1, by omega⟩
  unfold along2
  rw [Nat.add_sub_cancel, upto2_succ]
  by_cases hd : m % (j + 1) = 0
  · have : m ≤ (j + 1) * (n / (j + 1)) := by
      obtain ⟨c, rfl⟩ := Nat.dvd_of_mod_eq_zero hd
      have : c ≤ n / (j + 1) := (Nat.le_div_iff_mul_le hk).mpr (by rw [Nat.mul_comm]; exact hm)
      exact Nat.mul_le_mul_left _ this
    rw [if_pos ⟨hd, this⟩, if_pos hd]
  · rw [if_neg fun z => hd z.1, if_neg hd]
end PM
/-! ### turned tables -/
namespace PM
/-- the turned table's first n entries, one behind the other -/
def trL (t : Nat → Int) : Nat → List Int
  | 0 => []
  | n + 1 => trL t n ++ [if n = 0 then t 1 else - t 1 * sm (n + 1) fun d => if (n + 1) % d = 0 then (if 1 < d then t d * ent (trL t n) ((n + 1) / d) else 0) else 0]
def trn (t : Nat → Int) (n : Nat) : Int := ent (trL t n) n
theorem trL_len (t : Nat → Int) : ∀ n, (trL t n).length = n
  | 0 => rfl
  | n + 1 => by rw [trL, List.length_append, trL_len t n]; rfl
theorem ent_append_left {xs ys : List Int} {m : Nat} (h1 : 1 ≤ m) (h2 : m ≤ xs.length) : ent (xs ++ ys) m = ent xs m := by
  unfold ent
  rw [List.getD_eq_getElem?_getD, List.getD_eq_getElem?_getD, List.getElem?_append_left (by omega)]
theorem ent_trL (t : Nat → Int) : ∀ {n m : Nat}, 1 ≤ m → m ≤ n → ent (trL t n) m = trn t m
  | 0, m, h1, h2 => by omega
  | n + 1, m, h1, h2 => by
    by_cases e : m = n + 1
    · subst e; rfl
    · rw [trL, ent_append_left h1 (by rw [trL_len]; omega)]
      exact ent_trL t h1 (by omega)
theorem trL_tab (t : Nat → Int) (n : Nat) : trL t n = tab n (trn t) := by
  conv => lhs; rw [← tab_ent (trL t n)]
  rw [trL_len]
  exact tab_congr fun i h1 h2 => ent_trL t h1 h2
theorem ent_last {xs : List Int} {v : Int} : ent (xs ++ [v]) (xs.length + 1) = v := by
  unfold ent
  rw [Nat.add_sub_cancel, List.getD_eq_getElem?_getD, List.getElem?_append_right (Nat.le_refl _), Nat.sub_self]
  rfl
theorem trn_one (t : Nat → Int) : trn t 1 = t 1 := rfl
theorem trn_rec (t : Nat → Int) {n : Nat} (h : 2 ≤ n) : trn t n = - t 1 * sm n fun d => if n % d = 0 then (if 1 < d then t d * trn t (n / d) else 0) else 0 := by
  obtain ⟨m, rfl⟩ : ∃ m, n = m + 1 := ⟨n - 1, by omega⟩
  have e : trn t (m + 1) = - t 1 * sm (m + 1) fun d => if (m + 1) % d = 0 then (if 1 < d then t d * ent (trL t m) ((m + 1) / d) else 0) else 0 := by
    unfold trn
    rw [trL]
    have := ent_last (xs := trL t m) (v := if m = 0 then t 1 else - t 1 * sm (m + 1) fun d => if (m + 1) % d = 0 then (if 1 < d then t d * ent (trL t m) ((m + 1) / d) else 0) else 0)
    rw [trL_len] at this
    rw [this, if_neg (by omega)]
  rw [e]
  congr 1
  refine sm_congr fun d h1 h2 => ?_
  by_cases hd : (m + 1) % d = 0
  · rw [if_pos hd, if_pos hd]
    by_cases h3 : 1 < d
    · rw [if_pos h3, if_pos h3]
      have h4 : (m + 1) / d < m + 1 := Nat.div_lt_self (by omega) h3
      rw [ent_trL t (Nat.div_pos h2 h1) (by omega)]
    · rw [if_neg h3, if_neg h3]
  · rw [if_neg hd, if_neg hd]
theorem trL_succ (t : Nat → Int) {n : Nat} (h : 1 ≤ n) : trL t (n + 1) = trL t n ++ [- t 1 * sm (n + 1) fun d => if (n + 1) % d = 0 then (if 1 < d then t d * trn t ((n + 1) / d) else 0) else 0] := by
  rw [trL_tab, trL_tab, tab_succ, trn_rec t (by omega)]
def Uni (t : Nat → Int) : Prop := t 1 = 1 ∨ t 1 = -1
theorem Uni.sq {t : Nat → Int} (h : Uni t) : t 1 * t 1 = 1 := by
  rcases h with e | e <;> rw [e] <;> rfl
/-- the part 1 taken apart -/
theorem cv_first (f g : Nat → Int) {n : Nat} (h : 1 ≤ n) : cv f g n = f 1 * g n + sm n fun d => if n % d = 0 then (if 1 < d then f d * g (n / d) else 0) else 0 := by
  rw [cv_div _ _ h]
  have e : (sm n fun i => if n % i = 0 then f i * g (n / i) else 0) = (sm n fun i => if i = 1 then f i * g (n / i) else 0) + sm n fun d => if n % d = 0 then (if 1 < d then f d * g (n / d) else 0) else 0 := by
    rw [← sm_add]
    refine sm_congr fun i h1 h2 => ?_
    by_cases e : i = 1
    · subst e
      rw [Nat.mod_one, if_pos rfl, if_pos rfl, if_pos rfl, if_neg (by omega), Int.add_zero]
    · rw [if_neg e, if_pos (show 1 < i by omega), Int.zero_add]
  rw [e, sm_one (Nat.le_refl 1) h fun i => f i * g (n / i), Nat.div_one]
theorem cv_trn {t : Nat → Int} (ht : Uni t) {n : Nat} (h : 1 ≤ n) : cv t (trn t) n = un n := by
  rw [cv_first _ _ h]
  by_cases e : n = 1
  · subst e
    show t 1 * t 1 + (0 + if 1 % 1 = 0 then (if 1 < 1 then t 1 * trn t (1 / 1) else 0) else 0) = 1
    rw [ht.sq]
    rfl
  · rw [trn_rec t (by omega)]
    generalize (sm n fun d => if n % d = 0 then (if 1 < d then t d * trn t (n / d) else 0) else 0) = z
    have e2 : t 1 * (- t 1 * z) = -(t 1 * t 1) * z := by rw [← Int.mul_assoc, Int.mul_neg]
    rw [e2, ht.sq, show un n = 0 from if_neg e]
    omega
theorem trn_uniq {t u : Nat → Int} (ht : Uni t) {N : Nat} (hu : ∀ n, 1 ≤ n → n ≤ N → cv t u n = un n) {n : Nat} (h1 : 1 ≤ n) (h2 : n ≤ N) : trn t n = u n := by
  have a : cv u (cv t (trn t)) n = u n := by
    rw [cv_congr (g' := un) (fun _ _ _ => rfl) fun i h3 _ => cv_trn ht h3]
    exact cv_un u h1
  have b : cv (cv u t) (trn t) n = trn t n := by
    rw [cv_congr (f' := un) (g' := trn t) (fun i h3 h4 => (cv_comm u t i).trans (hu i h3 (by omega))) fun _ _ _ => rfl, cv_comm]
    exact cv_un _ h1
  rw [← a, ← b, cv_assoc u t (trn t) h1]
theorem Uni.trn {t : Nat → Int} (ht : Uni t) : Uni (trn t) := ht
theorem trn_trn {t : Nat → Int} (ht : Uni t) {n : Nat} (h : 1 ≤ n) : trn (trn t) n = t n :=
  trn_uniq (N := n) ht.trn (fun i h1 _ => (cv_comm _ _ i).trans (cv_trn ht h1)) h (Nat.le_refl n)
theorem trn_congr {t t' : Nat → Int} {n : Nat} (h : ∀ i, 1 ≤ i → i ≤ n → t i = t' i) (hn : 1 ≤ n) : trn t n = trn t' n := by
  have : ∀ m, m ≤ n → trL t m = trL t' m := by
    intro m
    induction m with
    | zero => intro _; rfl
    | succ m ih =>
      intro hm
      rw [trL, trL, ih (by omega), h 1 (Nat.le_refl 1) hn]
      congr 3
      refine congrArg _ (sm_congr fun d h1 h2 => ?_)
      rw [h d h1 (by omega)]
  unfold trn
  rw [this n (Nat.le_refl n)]
end PM
/-! ### numbers without a common part, counted -/
namespace PM
def phi (n : Nat) : Int := sm n fun k => if Nat.gcd n k = 1 then 1 else 0
def idn (n : Nat) : Int := (n : Int)
def phiB (N : Nat) : Bool := (List.range N).all fun i => cv sgn idn (i + 1) == phi (i + 1)
theorem phiB_36 : phiB 36 = true := by decide +kernel
theorem phi_sgn {n : Nat} (h1 : 1 ≤ n) (h2 : n ≤ 36) : cv sgn idn n = phi n := by
  have := List.all_eq_true.mp phiB_36 (n - 1) (List.mem_range.mpr (by omega))
  rw [Nat.sub_add_cancel h1] at this
  exact beq_iff_eq.mp this
theorem phi_tab {n : Nat} (h2 : n ≤ 36) : tab n (cv sgn idn) = tab n phi := tab_congr fun i h3 h4 => phi_sgn h3 (by omega)
theorem phi_sum {n : Nat} (h2 : n ≤ 36) : tab (tab n phi).length (cv one1 (ent (tab n phi))) = tab n idn := by
  rw [tab_len]
  refine tab_congr fun i h3 h4 => ?_
  rw [cv_congr (f' := one1) (g' := cv sgn idn) (fun _ _ _ => rfl) fun j h5 h6 => (ent_tab h5 (by omega)).trans (phi_sgn h5 (by omega)).symm]
  exact sum_back idn h3
theorem sgn_sum_tab (n : Nat) : tab (tab n sgn).length (cv one1 (ent (tab n sgn))) = tab n un := by
  rw [tab_len]
  refine tab_congr fun i h3 h4 => ?_
  rw [cv_congr (f' := one1) (g' := sgn) (fun _ _ _ => rfl) fun j h5 h6 => ent_tab h5 (by omega), cv_comm]
  exact cv_sgn_one h3
theorem un_tab {n : Nat} (h : 1 ≤ n) : tab n un = 1 :: List.replicate (n - 1) 0 := by
  obtain ⟨m, rfl⟩ : ∃ m, n = m + 1 := ⟨n - 1, by omega⟩
  rw [Nat.add_sub_cancel]
  clear h
  induction m with
  | zero => rfl
  | succ m ih => rw [tab_succ, ih, List.replicate_succ', show un (m + 1 + 1) = 0 from if_neg (by omega)]; rfl
end PM
/-! ### the one table that goes by primes -/
namespace PM
def bpL (t : Nat → Int) : List (Nat × Nat) → Int
  | [] => 1
  | x :: r => t (x.1 ^ x.2) * bpL t r
theorem bpL_append (t : Nat → Int) : ∀ a b : List (Nat × Nat), bpL t (a ++ b) = bpL t a * bpL t b
  | [], b => (Int.one_mul _).symm
  | x :: r, b => by
    show t (x.1 ^ x.2) * bpL t (r ++ b) = t (x.1 ^ x.2) * bpL t r * bpL t b
    rw [bpL_append t r b, Int.mul_assoc]
theorem bpL_one (t : Nat → Int) (x : Nat × Nat) : bpL t [x] = t (x.1 ^ x.2) := Int.mul_one _
theorem bpL_congr {t t' : Nat → Int} : ∀ {l : List (Nat × Nat)}, (∀ x ∈ l, t (x.1 ^ x.2) = t' (x.1 ^ x.2)) → bpL t l = bpL t' l
  | [], _ => rfl
  | x :: r, h => by
    rw [bpL, bpL, h x List.mem_cons_self, bpL_congr fun y hy => h y (List.mem_cons_of_mem _ hy)]
def bpr (t : Nat → Int) (n : Nat) : Int := bpL t (ppL n)
theorem pw_le {n : Nat} (h : 1 ≤ n) {x : Nat × Nat} (hx : x ∈ ppL n) : 1 ≤ x.1 ^ x.2 ∧ x.1 ^ x.2 ≤ n := by
  obtain ⟨h1, h2, h3⟩ := (mem_ppL h).mp hx
  rw [h3]
  exact ⟨Nat.pow_pos h1.pos, Nat.le_of_dvd h (pow_vl_dvd h1.1 h)⟩
theorem bpr_congr {t t' : Nat → Int} {n : Nat} (h1 : 1 ≤ n) (h : ∀ i, 1 ≤ i → i ≤ n → t i = t' i) : bpr t n = bpr t' n :=
  bpL_congr fun _ hx => h _ (pw_le h1 hx).1 (pw_le h1 hx).2
theorem bpL_pick_mul {a b : Nat} (hc : Nat.Coprime a b) (ha : 1 ≤ a) (hb : 1 ≤ b) (t : Nat → Int) : ∀ d, bpL t (pick (a * b) d) = bpL t (pick a d) * bpL t (pick b d)
  | 0 => rfl
  | d + 1 => by
    rw [pick_succ, pick_succ, pick_succ, bpL_append, bpL_append, bpL_append, bpL_pick_mul hc ha hb t d]
    cases q : isP d with
    | false =>
      simp only [Bool.false_and, Bool.false_eq_true, if_false]
      rw [bpL, Int.mul_one, Int.mul_one, Int.mul_one]
    | true =>
      have hp := (isP_iff d).mp q
      have iff : a * b % d = 0 ↔ a % d = 0 ∨ b % d = 0 := by
        constructor
        · intro z
          rcases hp.dvd_mul (Nat.dvd_of_mod_eq_zero z) with y | y
          · exact .inl (Nat.mod_eq_zero_of_dvd y)
          · exact .inr (Nat.mod_eq_zero_of_dvd y)
        · rintro (z | z)
          · exact Nat.mod_eq_zero_of_dvd (Nat.dvd_mul_right_of_dvd (Nat.dvd_of_mod_eq_zero z) b)
          · exact Nat.mod_eq_zero_of_dvd (Nat.dvd_mul_left_of_dvd (Nat.dvd_of_mod_eq_zero z) a)
      have nb : a % d = 0 → b % d ≠ 0 := fun z1 z2 => by
        have := Nat.dvd_gcd (Nat.dvd_of_mod_eq_zero z1) (Nat.dvd_of_mod_eq_zero z2)
        rw [hc] at this
        have := Nat.le_of_dvd Nat.one_pos this
        have := hp.1
        omega
      simp only [Bool.true_and, decide_eq_true_eq]
      by_cases z1 : a % d = 0
      · have z2 := nb z1
        have hv : vl d (a * b) = vl d a := by
          rw [Nat.mul_comm]
          exact vl_mul hp (fun y => z2 (Nat.mod_eq_zero_of_dvd y)) hb a ha
        rw [if_pos (iff.mpr (.inl z1)), if_pos z1, if_neg z2, hv, bpL_one, bpL, Int.mul_one]
        rw [Int.mul_assoc, Int.mul_comm (bpL t (pick b d)), ← Int.mul_assoc]
      · by_cases z2 : b % d = 0
        · have hv : vl d (a * b) = vl d b := vl_mul hp (fun y => z1 (Nat.mod_eq_zero_of_dvd y)) ha b hb
          rw [if_pos (iff.mpr (.inr z2)), if_neg z1, if_pos z2, hv, bpL_one, bpL, Int.mul_one, Int.mul_assoc]
        · rw [if_neg (fun z => (iff.mp z).elim z1 z2), if_neg z1, if_neg z2, bpL, Int.mul_one, Int.mul_one, Int.mul_one]
theorem pick_to {m N : Nat} (h1 : 1 ≤ m) (h2 : m ≤ N) : pick m (N + 1) = ppL m := by
  have := pick_over h1 (N - m)
  rw [show m + 1 + (N - m) = N + 1 by omega] at this
  exact this
theorem GP.bpr (N : Nat) (t : Nat → Int) : GP N (bpr t) := by
  refine ⟨?_, fun a b ha hb hc _ => ?_⟩
  · show bpL t (pick 1 2) = 1
    rw [pick_two]
    rfl
  · have h1 : a ≤ a * b := Nat.le_mul_of_pos_right a hb
    have h2 : b ≤ a * b := Nat.le_mul_of_pos_left b ha
    show bpL t (pick (a * b) (a * b + 1)) = _
    rw [bpL_pick_mul hc ha hb, pick_to ha h1, pick_to hb h2]
    rfl
theorem mem_pick {n d : Nat} {x : Nat × Nat} (h : x ∈ pick n d) : Pr x.1 ∧ x.1 < d ∧ x.2 = vl x.1 n := by
  unfold pick at h
  obtain ⟨p, hp, rfl⟩ := List.mem_map.mp h
  obtain ⟨h1, h2⟩ := List.mem_filter.mp hp
  rw [Bool.and_eq_true] at h2
  exact ⟨(isP_iff p).mp h2.1, List.mem_range.mp h1, rfl⟩
theorem cop_prodP {d : Nat} (hd : Pr d) : ∀ {l : List (Nat × Nat)}, (∀ x ∈ l, Pr x.1 ∧ x.1 < d) → Nat.Coprime (prodP l) d
  | [], _ => Nat.coprime_one_left d
  | x :: r, h => by
    obtain ⟨h1, h2⟩ := h x List.mem_cons_self
    have c1 : Nat.Coprime x.1 d := h1.cop (h1.ndvd hd (by omega))
    exact Nat.Coprime.mul_left (Nat.Coprime.pow_left _ c1) (cop_prodP hd fun y hy => h y (List.mem_cons_of_mem _ hy))
theorem prodP_pos : ∀ {l : List (Nat × Nat)}, (∀ x ∈ l, Pr x.1) → 1 ≤ prodP l
  | [], _ => Nat.le_refl 1
  | x :: r, h => Nat.mul_pos (Nat.pow_pos (h x List.mem_cons_self).pos) (prodP_pos fun y hy => h y (List.mem_cons_of_mem _ hy))
theorem GP.uniq {N : Nat} {t : Nat → Int} (h : GP N t) {n : Nat} (h1 : 1 ≤ n) (h2 : n ≤ N) : PM.bpr t n = t n := by
  have key : ∀ k, bpL t (pick n (2 + k)) = t (prodP (pick n (2 + k))) := by
    intro k
    induction k with
    | zero => rw [Nat.add_zero, pick_two]; exact h.one.symm
    | succ k ih =>
      obtain ⟨r, s⟩ := Seek.rest h1 (k + 1)
      have hle : prodP (pick n (2 + (k + 1))) ≤ n := Nat.le_of_dvd h1 ⟨r, s.prod⟩
      rw [← Nat.add_assoc] at hle ⊢
      rw [pick_succ] at hle ⊢
      cases q : isP (2 + k) && decide (n % (2 + k) = 0) with
      | false =>
        rw [if_neg (by decide), List.append_nil]
        exact ih
      | true =>
        rw [q, if_pos rfl, prodP_append] at hle
        rw [if_pos rfl, bpL_append, prodP_append, ih, bpL_one]
        have hp := (isP_iff _).mp (Bool.and_eq_true _ _ ▸ q).1
        have e : prodP [(2 + k, vl (2 + k) n)] = (2 + k) ^ vl (2 + k) n := Nat.mul_one _
        rw [e] at hle ⊢
        refine (h.mul _ _ (prodP_pos fun x hx => (mem_pick hx).1) (Nat.pow_pos hp.pos) ?_ (Nat.le_trans hle h2)).symm
        exact Nat.Coprime.pow_right _ (cop_prodP hp fun x hx => ⟨(mem_pick hx).1, (mem_pick hx).2.1⟩)
  have := key (n - 1)
  rw [show 2 + (n - 1) = n + 1 by omega] at this
  show bpL t (pick n (n + 1)) = t n
  rw [this]
  exact congrArg t (ppL_prod h1)
theorem GP.congr {N : Nat} {f g : Nat → Int} (h : GP N f) (e : ∀ i, 1 ≤ i → i ≤ N → f i = g i) (hN : 1 ≤ N) : GP N g := by
  refine ⟨by rw [← e 1 (Nat.le_refl 1) hN]; exact h.one, fun a b ha hb hc hab => ?_⟩
  have h1 : a ≤ a * b := Nat.le_mul_of_pos_right a hb
  have h2 : b ≤ a * b := Nat.le_mul_of_pos_left b ha
  rw [← e _ (Nat.mul_pos ha hb) hab, ← e a ha (by omega), ← e b hb (by omega)]
  exact h.mul a b ha hb hc hab
/-- a table goes by primes just where it is the one of point 10 -/
theorem GP.iff_tab {xs : List Int} (h : 1 ≤ xs.length) : xs = tab xs.length (PM.bpr (ent xs)) ↔ GP xs.length (ent xs) := by
  constructor
  · intro e
    refine (GP.bpr xs.length (ent xs)).congr (fun i h1 h2 => ?_) h
    have this : ent xs i = ent (PM.tab xs.length (PM.bpr (ent xs))) i := congrArg (fun l => ent l i) e
    rw [ent_tab h1 h2] at this
    exact this.symm
  · intro g
    conv => lhs; rw [← tab_ent xs]
    exact tab_congr fun i h1 h2 => (g.uniq h1 h2).symm
theorem GP.tab {N : Nat} {f : Nat → Int} (h : GP N f) (hN : 1 ≤ N) : GP N (ent (PM.tab N f)) := h.congr (fun i h1 h2 => (ent_tab h1 h2).symm) hN
/-- by pairs from 2 on -/
def Prs (N : Nat) (f : Nat → Int) : Prop := ∀ k j, 2 ≤ k → 2 ≤ j → k * j ≤ N → Nat.gcd k j = 1 → f (k * j) = f k * f j
theorem GP.of_prs {N : Nat} {f : Nat → Int} (h1 : f 1 = 1) (h : Prs N f) : GP N f := by
  refine ⟨h1, fun a b ha hb hc hab => ?_⟩
  by_cases ea : a = 1
  · subst ea; rw [Nat.one_mul, h1, Int.one_mul]
  · by_cases eb : b = 1
    · subst eb; rw [Nat.mul_one, h1, Int.mul_one]
    · exact h a b (by omega) (by omega) hab hc
theorem GP.prs {N : Nat} {f : Nat → Int} (h : GP N f) : Prs N f := fun k j hk hj hkj hc => h.mul k j (by omega) (by omega) hc hkj
/-! #### how great the entries get -/
theorem bpL_bound {t : Nat → Int} {B : Nat} : ∀ {l : List (Nat × Nat)}, (∀ x ∈ l, (t (x.1 ^ x.2)).natAbs ≤ B) → (bpL t l).natAbs ≤ B ^ l.length
  | [], _ => Nat.le_refl 1
  | x :: r, h => by
    rw [bpL, Int.natAbs_mul, List.length_cons, Nat.pow_succ, Nat.mul_comm]
    exact Nat.mul_le_mul (bpL_bound fun y hy => h y (List.mem_cons_of_mem _ hy)) (h x List.mem_cons_self)
theorem ppL_len (n : Nat) : (ppL n).length ≤ n + 1 := by
  unfold ppL pick
  rw [List.length_map]
  refine Nat.le_trans (List.length_filter_le _ _) ?_
  rw [List.length_range]
  exact Nat.le_refl _
theorem sm_bound {n C : Nat} {f : Nat → Int} (h : ∀ i, 1 ≤ i → i ≤ n → (f i).natAbs ≤ C) : (sm n f).natAbs ≤ n * C := by
  induction n with
  | zero => rw [sm, Nat.zero_mul]; exact Nat.le_refl 0
  | succ n ih =>
    rw [sm, Nat.succ_mul]
    exact Nat.le_trans (Int.natAbs_add_le _ _) (Nat.add_le_add (ih fun i h1 h2 => h i h1 (by omega)) (h (n + 1) (by omega) (Nat.le_refl _)))
theorem cv_bound {n A B : Nat} {f g : Nat → Int} (h : 1 ≤ n) (hf : ∀ i, 1 ≤ i → i ≤ n → (f i).natAbs ≤ A) (hg : ∀ i, 1 ≤ i → i ≤ n → (g i).natAbs ≤ B) : (cv f g n).natAbs ≤ n * (A * B) := by
  rw [cv_div _ _ h]
  refine sm_bound fun i h1 h2 => ?_
  split
  · rw [Int.natAbs_mul]
    exact Nat.mul_le_mul (hf i h1 h2) (hg _ (Nat.div_pos h2 h1) (Nat.div_le_self n i))
  · exact Nat.zero_le _
theorem trn_bound {t : Nat → Int} {N B : Nat} (hu : Uni t) (hB : ∀ i, 1 ≤ i → i ≤ N → (t i).natAbs ≤ B) (hB1 : 1 ≤ B) : ∀ n, 1 ≤ n → n ≤ N → (trn t n).natAbs ≤ (N * B) ^ n := by
  intro n
  have hu1 : (t 1).natAbs = 1 := by rcases hu with e | e <;> rw [e] <;> rfl
  induction n using Nat.strongRecOn with
  | _ n ih =>
    intro h1 h2
    have hM : 1 ≤ N * B := Nat.mul_pos (by omega) hB1
    by_cases e : n = 1
    · subst e
      rw [trn_one, hu1, Nat.pow_one]
      exact hM
    · rw [trn_rec t (by omega), Int.natAbs_mul, Int.natAbs_neg, hu1, Nat.one_mul]
      refine Nat.le_trans (sm_bound (C := B * (N * B) ^ (n - 1)) fun d h3 h4 => ?_) ?_
      · split
        · split
          · rename_i c
            have h5 : n / d < n := Nat.div_lt_self (by omega) c
            have h6 := Nat.div_pos h4 h3
            rw [Int.natAbs_mul]
            exact Nat.mul_le_mul (hB d h3 (by omega)) (Nat.le_trans (ih _ h5 h6 (by omega)) (Nat.pow_le_pow_right hM (by omega)))
          · exact Nat.zero_le _
        · exact Nat.zero_le _
      · have e2 : (N * B) ^ n = N * (B * (N * B) ^ (n - 1)) := by
          obtain ⟨m, rfl⟩ : ∃ m, n = m + 1 := ⟨n - 1, by omega⟩
          rw [Nat.add_sub_cancel, Nat.pow_succ, Nat.mul_comm, Nat.mul_assoc]
        rw [e2]
        exact Nat.mul_le_mul_right _ h2
end PM
/-! ### a table put together prime by prime -/
namespace PM
def dv (p i : Nat) : List Nat := ((List.range i).map (· + 2)).filter fun k => decide (p % k = 0)
theorem dv_succ (p i : Nat) : dv p (i + 1) = dv p i ++ if p % (i + 2) = 0 then [i + 2] else [] := by
  unfold dv
  rw [List.range_succ, List.map_append, List.filter_append]
  by_cases h : p % (i + 2) = 0
  · rw [if_pos h, List.map_cons, List.map_nil, List.filter_cons, if_pos (by rw [decide_eq_true_iff]; exact h), List.filter_nil]
  · rw [if_neg h, List.map_cons, List.map_nil, List.filter_cons, if_neg (by rw [decide_eq_true_iff]; exact h), List.filter_nil]
theorem dv_len (p i : Nat) : (dv p i).length ≤ i := by
  unfold dv
  refine Nat.le_trans (List.length_filter_le _ _) ?_
  rw [List.length_map, List.length_range]
  exact Nat.le_refl _
theorem dv_nil {p : Nat} (hp : 2 ≤ p) : dv p (p - 2) = [] ↔ Pr p := by
  constructor
  · intro h
    refine ⟨hp, fun k hk => ?_⟩
    refine Classical.byContradiction fun z => ?_
    have h0 : k ≠ 0 := fun e => by rw [e] at hk; have := Nat.eq_zero_of_zero_dvd hk; omega
    have hle := Nat.le_of_dvd (by omega) hk
    have : k ∈ dv p (p - 2) := by
      unfold dv
      refine List.mem_filter.mpr ⟨List.mem_map.mpr ⟨k - 2, List.mem_range.mpr (by omega), by omega⟩, ?_⟩
      rw [decide_eq_true_iff]
      exact Nat.mod_eq_zero_of_dvd hk
    rw [h] at this
    exact absurd this (by simp)
  · intro h
    refine List.eq_nil_iff_forall_not_mem.mpr fun k hk => ?_
    unfold dv at hk
    obtain ⟨h1, h2⟩ := List.mem_filter.mp hk
    obtain ⟨j, hj, rfl⟩ := List.mem_map.mp h1
    have := List.mem_range.mp hj
    rcases h.2 (j + 2) (Nat.dvd_of_mod_eq_zero (of_decide_eq_true h2)) with e | e <;> omega
theorem vl_uniq {p m e : Nat} (hp : 2 ≤ p) (hm : 1 ≤ m) (h1 : p ^ e ∣ m) (h2 : ¬ p ^ (e + 1) ∣ m) : vl p m = e := by
  obtain ⟨s1, s2, s3⟩ := st_spec hp m hm
  have hpos : 0 < p ^ vl p m := Nat.pow_pos (by omega)
  refine Nat.le_antisymm (Classical.byContradiction fun z => h2 ?_) (Classical.byContradiction fun z => s2 ?_)
  · exact Nat.dvd_trans (Nat.pow_dvd_pow p (by omega)) (pow_vl_dvd hp hm)
  · have h3 : p ^ (vl p m + 1) ∣ m := Nat.dvd_trans (Nat.pow_dvd_pow p (by omega)) h1
    rw [Nat.pow_succ] at h3
    have h4 : p ^ vl p m * p ∣ p ^ vl p m * st p m := by rw [← s3]; exact h3
    exact Nat.dvd_of_mul_dvd_mul_left hpos h4
def alongP (T : Nat → Int) (p t m : Nat) : Int := if m % p = 0 ∧ m ≤ p * t then bpL T (pick m (p + 1)) else bpL T (pick m p)
theorem alongP_zero (T : Nat → Int) {p m : Nat} (h : 1 ≤ m) : alongP T p 0 m = bpL T (pick m p) := by
  unfold alongP
  rw [if_neg (by omega)]
theorem pick_at {p m : Nat} (hp : Pr p) (hd : m % p = 0) (T : Nat → Int) : bpL T (pick m (p + 1)) = bpL T (pick m p) * T (p ^ vl p m) := by
  rw [pick_succ, (isP_iff p).mpr hp, decide_eq_true hd, bpL_append]
  rw [show (if (true && true) = true then [(p, vl p m)] else []) = [(p, vl p m)] from rfl, bpL_one]
theorem pick_off {p m : Nat} (hd : ¬ (Pr p ∧ m % p = 0)) : pick m (p + 1) = pick m p := by
  rw [pick_succ]
  have : (isP p && decide (m % p = 0)) = false := by
    rw [Bool.and_eq_false_iff]
    by_cases h : Pr p
    · exact .inr (decide_eq_false fun z => hd ⟨h, z⟩)
    · exact .inl (Bool.eq_false_iff.mpr fun z => h ((isP_iff p).mp z))
  rw [this]
  exact List.append_nil _
theorem alongP_step (T : Nat → Int) {p t : Nat} (hp : Pr p) : (fun m => if m = p * (t + 1) then alongP T p t (p * (t + 1)) * T (p ^ vl p (p * (t + 1))) else alongP T p t m) = alongP T p (t + 1) := by
  have hk := hp.pos
  funext m
  unfold alongP
  have e : p * (t + 1) = p * t + p := by rw [Nat.mul_add, Nat.mul_one]
  by_cases hm : m = p * (t + 1)
  · have hd : p * (t + 1) % p = 0 := Nat.mul_mod_right p (t + 1)
    rw [if_pos hm, hm, if_neg (by rw [e]; omega), if_pos ⟨hd, Nat.le_refl _⟩, pick_at hp hd]
  · rw [if_neg hm]
    by_cases hd : m % p = 0
    · obtain ⟨c, rfl⟩ := Nat.dvd_of_mod_eq_zero hd
      have hc : p * c ≤ p * (t + 1) ↔ p * c ≤ p * t := by
        constructor
        · intro h
          have h1 : c ≤ t + 1 := Nat.le_of_mul_le_mul_left h hk
          have h2 : c ≠ t + 1 := fun z => hm (by rw [z])
          exact Nat.mul_le_mul_left p (by omega)
        · intro h
          exact Nat.le_trans h (Nat.mul_le_mul_left p (Nat.le_succ t))
      by_cases h : p * c ≤ p * t
      · rw [if_pos ⟨hd, h⟩, if_pos ⟨hd, hc.mpr h⟩]
      · rw [if_neg fun z => h z.2, if_neg fun z => h (hc.mp z.2)]
    · rw [if_neg fun z => hd z.1, if_neg fun z => hd z.1]
theorem alongP_end (T : Nat → Int) {p n m : Nat} (hk : 1 ≤ p) (hm : m ≤ n) : alongP T p (n / p) m = bpL T (pick m (p + 1)) := by
  unfold alongP
  by_cases hd : m % p = 0
  · have : m ≤ p * (n / p) := by
      obtain ⟨c, rfl⟩ := Nat.dvd_of_mod_eq_zero hd
      have : c ≤ n / p := (Nat.le_div_iff_mul_le hk).mpr (by rw [Nat.mul_comm]; exact hm)
      exact Nat.mul_le_mul_left _ this
    rw [if_pos ⟨hd, this⟩]
  · rw [if_neg fun z => hd z.1, pick_off fun z => hd z.2]
end PM
/-! ### comprehensions that make one int of each item -/
namespace Q2
open PySem PySem.Spec PyProof.Rows L2 PM
theorem same_new {H H1 : Hp} {p : Addr} {o : HO} (s : Same H H1) (h : H p = none) : Same H (upd H1 p o) := fun b u q => by
  rw [upd_ne (ne_of_none q h)]
  exact s b u q
theorem CompL.map {K : PySem.W.Frag} {a : Addr} {g : TG} {tc : TT} {te : TE} {σ : St} {H : Hp} {Q : VK} (l : List Nat) (F : Nat → Int) (p : Nat → Bool) (hl : H a = some (.lst (l.map fun (k : Nat) => V.int k))) (hz : l.length < sizeLine)
    (hs : ∀ k, k ∈ l → ∀ y H1, Same H H1 → ∀ (Ry : St → V → Hp → Prop) (Rn : St → Hp → Prop), (p k = true → ∀ H2, Same H1 H2 → Ry (σ ++ [some (.int (k : Nat))]) (.int (F k)) H2) → (p k = false → ∀ H2, Same H1 H2 → Rn (σ ++ [some (.int (k : Nat))]) H2) →
      g (.int (k : Nat)) (σ ++ [y]) H1 fun σ2 H4 => tc σ2 H4 fun b H5 => if b = true then te σ2 H5 fun v H6 => Ry σ2 v H6 else Rn σ2 H5)
    (hd : ∀ D H', H D = none → Same H H' → H' D = some (.lst (((l.filter p).map F).map V.int)) → Q (.ref D) H') : CompL K a 1 g tc te σ H Q := by
  refine CompL.of (xs := l.map fun (k : Nat) => V.int k) (fun D i σ1 H1 => ∃ y, σ1 = σ ++ [y] ∧ Same H H1 ∧ H1 D = some (.lst ((((l.take i).filter p).map F).map V.int))) (fun D hD => ⟨none, rfl, same_new (Same.refl H) hD, upd_same⟩) ?_ ?_ ?_
  · rintro D hD i σ1 H1 _ ⟨y, rfl, s1, _⟩
    exact SqL.of (s1 _ _ hl)
  · rintro D hD i x σ1 H1 hx ⟨y, rfl, s1, h1⟩ U hU
    rw [List.getElem?_map] at hx
    cases e : l[i]? with
    | none => rw [e] at hx; cases hx
    | some k =>
      rw [e] at hx
      cases hx
      have tk : l.take (i + 1) = l.take i ++ [k] := by rw [List.take_add_one, e]; rfl
      refine hs k (List.mem_of_getElem? e) y H1 s1 (fun σ2 v H6 => ∃ ys, H6 D = some (.lst ys) ∧ ys.length < sizeLine ∧ U σ2 (upd H6 D (.lst (ys ++ [v])))) U (fun hp H2 s2 => ?_) (fun hp H2 s2 => ?_)
      · refine ⟨_, s2 _ _ h1, ?_, hU _ _ ⟨_, rfl, same_new (fun b u q => s2 b u (s1 b u q)) hD, ?_⟩⟩
        · rw [List.length_map, List.length_map]
          exact Nat.lt_of_le_of_lt (Nat.le_trans (List.length_filter_le _ _) (by rw [List.length_take]; exact Nat.min_le_right _ _)) hz
        · rw [upd_same, tk, List.filter_append, List.filter_cons, if_pos hp, List.filter_nil, List.map_append, List.map_append]
          rfl
      · refine hU _ _ ⟨_, rfl, fun b u q => s2 b u (s1 b u q), ?_⟩
        rw [s2 _ _ h1, tk, List.filter_append, List.filter_cons, if_neg (by rw [hp]; decide), List.filter_nil, List.append_nil]
  · rintro D hD σ1 H1 ⟨y, rfl, s1, h1⟩
    refine hd D H1 hD s1 ?_
    rw [h1, List.length_map, List.take_length]
theorem CompR.map {n : Nat} {g : TG} {tc : TT} {te : TE} {σ : St} {H : Hp} {Q : VK} (F : Nat → Int) (hz : n < sizeLine)
    (hs : ∀ k, 1 ≤ k → k ≤ n → ∀ y H1, Same H H1 → ∀ (Ry : St → V → Hp → Prop) (Rn : St → Hp → Prop), (∀ H2, Same H1 H2 → Ry (σ ++ [some (.int (k : Nat))]) (.int (F k)) H2) →
      g (.int (k : Nat)) (σ ++ [y]) H1 fun σ2 H4 => tc σ2 H4 fun b H5 => if b = true then te σ2 H5 fun v H6 => Ry σ2 v H6 else Rn σ2 H5)
    (hd : ∀ D H', H D = none → Same H H' → H' D = some (.lst ((tab n F).map V.int)) → Q (.ref D) H') : CompR 1 n 1 g tc te σ H Q := by
  refine CompR.of (fun D i σ1 H1 => ∃ y, σ1 = σ ++ [y] ∧ Same H H1 ∧ H1 D = some (.lst ((tab i F).map V.int))) (fun D hD => ⟨none, rfl, same_new (Same.refl H) hD, upd_same⟩) ?_ ?_
  · rintro D hD i σ1 H1 hi ⟨y, rfl, s1, h1⟩ U hU
    rw [show (1 : Int) + (i : Nat) = ((i + 1 : Nat) : Int) by omega]
    refine hs (i + 1) (by omega) hi y H1 s1 (fun σ2 v H6 => ∃ ys, H6 D = some (.lst ys) ∧ ys.length < sizeLine ∧ U σ2 (upd H6 D (.lst (ys ++ [v])))) U (fun H2 s2 => ?_)
    refine ⟨_, s2 _ _ h1, ?_, hU _ _ ⟨_, rfl, same_new (fun b u q => s2 b u (s1 b u q)) hD, ?_⟩⟩
    · rw [List.length_map, tab_len]
      omega
    · rw [upd_same, tab_succ, List.map_append]
      rfl
  · rintro D hD σ1 H1 ⟨y, rfl, s1, h1⟩
    exact hd D H1 hD s1 h1
end Q2
namespace K8
open PySem PySem.Spec PyProof.Rows L2 Q2 PM
def top (i : Nat) : Stmt := PySem.Challenge.pw_partbook_k08_refused.main.body.getD i (.Pass ⟨0, 0, 0, 0⟩)
abbrev s_check_number : Stmt := top 7
theorem sc_check_number : FnScope ["number"] ["number"] (defScope s_check_number) := ⟨rfl, rfl, rfl, by decide +kernel, rfl, by decide +kernel, by decide +kernel⟩
abbrev s_parts : Stmt := top 8
theorem sc_parts : FnScope ["number"] ["number"] (defScope s_parts) := ⟨rfl, rfl, rfl, by decide +kernel, rfl, by decide +kernel, by decide +kernel⟩
abbrev s_prime_parts : Stmt := top 9
theorem sc_prime_parts : FnScope ["number", "pairs", "rest", "divisor", "times"] ["number"] (defScope s_prime_parts) := ⟨rfl, rfl, rfl, by decide +kernel, rfl, by decide +kernel, by decide +kernel⟩
abbrev s_sign : Stmt := top 10
theorem sc_sign : FnScope ["number", "answer", "prime", "times"] ["number"] (defScope s_sign) := ⟨rfl, rfl, rfl, by decide +kernel, rfl, by decide +kernel, by decide +kernel⟩
abbrev s_check_table : Stmt := top 12
theorem sc_check_table : FnScope ["table"] ["table"] (defScope s_check_table) := ⟨rfl, rfl, rfl, by decide +kernel, rfl, by decide +kernel, by decide +kernel⟩
abbrev s_product : Stmt := top 13
theorem sc_product : FnScope ["one", "two"] ["one", "two"] (defScope s_product) := ⟨rfl, rfl, rfl, by decide +kernel, rfl, by decide +kernel, by decide +kernel⟩
abbrev s_product_entry : Stmt := top 14
theorem sc_product_entry : FnScope ["one", "two", "number"] ["one", "two", "number"] (defScope s_product_entry) := ⟨rfl, rfl, rfl, by decide +kernel, rfl, by decide +kernel, by decide +kernel⟩
abbrev s_summed : Stmt := top 15
theorem sc_summed : FnScope ["table"] ["table"] (defScope s_summed) := ⟨rfl, rfl, rfl, by decide +kernel, rfl, by decide +kernel, by decide +kernel⟩
abbrev s_summed_entry : Stmt := top 16
theorem sc_summed_entry : FnScope ["table", "number"] ["table", "number"] (defScope s_summed_entry) := ⟨rfl, rfl, rfl, by decide +kernel, rfl, by decide +kernel, by decide +kernel⟩
abbrev s_taken_back : Stmt := top 17
theorem sc_taken_back : FnScope ["table"] ["table"] (defScope s_taken_back) := ⟨rfl, rfl, rfl, by decide +kernel, rfl, by decide +kernel, by decide +kernel⟩
abbrev s_taken_back_entry : Stmt := top 18
theorem sc_taken_back_entry : FnScope ["table", "number"] ["table", "number"] (defScope s_taken_back_entry) := ⟨rfl, rfl, rfl, by decide +kernel, rfl, by decide +kernel, by decide +kernel⟩
abbrev s_unit : Stmt := top 19
theorem sc_unit : FnScope ["size"] ["size"] (defScope s_unit) := ⟨rfl, rfl, rfl, by decide +kernel, rfl, by decide +kernel, by decide +kernel⟩
abbrev s_turned : Stmt := top 20
theorem sc_turned : FnScope ["table", "first", "answer", "number"] ["table"] (defScope s_turned) := ⟨rfl, rfl, rfl, by decide +kernel, rfl, by decide +kernel, by decide +kernel⟩
abbrev s_sum_without_one : Stmt := top 21
theorem sc_sum_without_one : FnScope ["table", "answer", "number"] ["table", "answer", "number"] (defScope s_sum_without_one) := ⟨rfl, rfl, rfl, by decide +kernel, rfl, by decide +kernel, by decide +kernel⟩
abbrev s_goes_by_primes : Stmt := top 23
theorem sc_goes_by_primes : FnScope ["table"] ["table"] (defScope s_goes_by_primes) := ⟨rfl, rfl, rfl, by decide +kernel, rfl, by decide +kernel, by decide +kernel⟩
abbrev s_by_primes : Stmt := top 24
theorem sc_by_primes : FnScope ["table"] ["table"] (defScope s_by_primes) := ⟨rfl, rfl, rfl, by decide +kernel, rfl, by decide +kernel, by decide +kernel⟩
abbrev s_entry_by_primes : Stmt := top 25
theorem sc_entry_by_primes : FnScope ["table", "number", "answer", "prime", "times"] ["table", "number"] (defScope s_entry_by_primes) := ⟨rfl, rfl, rfl, by decide +kernel, rfl, by decide +kernel, by decide +kernel⟩
abbrev s_power : Stmt := top 26
theorem sc_power : FnScope ["prime", "times", "answer", "each"] ["prime", "times"] (defScope s_power) := ⟨rfl, rfl, rfl, by decide +kernel, rfl, by decide +kernel, by decide +kernel⟩
abbrev s_signs : Stmt := top 28
theorem sc_signs : FnScope ["size"] ["size"] (defScope s_signs) := ⟨rfl, rfl, rfl, by decide +kernel, rfl, by decide +kernel, by decide +kernel⟩
abbrev s_strange : Stmt := top 29
theorem sc_strange : FnScope ["size"] ["size"] (defScope s_strange) := ⟨rfl, rfl, rfl, by decide +kernel, rfl, by decide +kernel, by decide +kernel⟩
abbrev s_gathered : Stmt := top 30
theorem sc_gathered : FnScope ["table"] ["table"] (defScope s_gathered) := ⟨rfl, rfl, rfl, by decide +kernel, rfl, by decide +kernel, by decide +kernel⟩
abbrev s_gathered_entry : Stmt := top 31
theorem sc_gathered_entry : FnScope ["table", "number"] ["table", "number"] (defScope s_gathered_entry) := ⟨rfl, rfl, rfl, by decide +kernel, rfl, by decide +kernel, by decide +kernel⟩
abbrev s_ungathered : Stmt := top 32
theorem sc_ungathered : FnScope ["table", "known"] ["table"] (defScope s_ungathered) := ⟨rfl, rfl, rfl, by decide +kernel, rfl, by decide +kernel, by decide +kernel⟩
abbrev s_ungathered_entry : Stmt := top 33
theorem sc_ungathered_entry : FnScope ["table", "known", "number"] ["table", "known", "number"] (defScope s_ungathered_entry) := ⟨rfl, rfl, rfl, by decide +kernel, rfl, by decide +kernel, by decide +kernel⟩
abbrev s_law_at : Stmt := top 35
theorem sc_law_at : FnScope ["_law_script", "_law_k"] ["_law_script", "_law_k"] (defScope s_law_at) := ⟨rfl, rfl, rfl, by decide +kernel, rfl, by decide +kernel, by decide +kernel⟩
abbrev s_law_table_by : Stmt := top 36
theorem sc_law_table_by : FnScope ["_law_cells", "_law_table", "_law_k", "_law_entry"] ["_law_cells"] (defScope s_law_table_by) := ⟨rfl, rfl, rfl, by decide +kernel, rfl, by decide +kernel, by decide +kernel⟩
abbrev s_law_by_table : Stmt := top 37
theorem sc_law_by_table : FnScope ["_law_which", "_law_table", "_law_other"] ["_law_which", "_law_table", "_law_other"] (defScope s_law_by_table) := ⟨rfl, rfl, rfl, by decide +kernel, rfl, by decide +kernel, by decide +kernel⟩
abbrev s_law_by_number : Stmt := top 38
theorem sc_law_by_number : FnScope ["_law_which", "_law_number"] ["_law_which", "_law_number"] (defScope s_law_by_number) := ⟨rfl, rfl, rfl, by decide +kernel, rfl, by decide +kernel, by decide +kernel⟩
abbrev s_law_said : Stmt := top 39
theorem sc_law_said : FnScope ["_law_which", "_law_table", "_law_other", "_law_number", "_law_word"] ["_law_which", "_law_table", "_law_other", "_law_number"] (defScope s_law_said) := ⟨rfl, rfl, rfl, by decide +kernel, rfl, by decide +kernel, by decide +kernel⟩
abbrev s_law_refuses : Stmt := top 40
theorem sc_law_refuses : FnScope ["_law_which", "_law_table", "_law_other", "_law_number", "e", "_law_under"] ["_law_which", "_law_table", "_law_other", "_law_number"] (defScope s_law_refuses) := ⟨rfl, rfl, rfl, by decide +kernel, rfl, by decide +kernel, by decide +kernel⟩
abbrev s_law : Stmt := top 41
theorem sc_law : FnScope ["_law_script", "_law_table", "_law_way", "_law_other", "_law_number", "_law_which", "_law_due", "_law_handed", "_law_given"] ["_law_script"] (defScope s_law) := ⟨rfl, rfl, rfl, by decide +kernel, rfl, by decide +kernel, by decide +kernel⟩

/-! #### what all laws share -/
abbrev St := L2.St
theorem upd_new {H H1 : Hp} {p : Addr} {o : HO} (s : Same H H1) (h : H p = none) : Same H (upd H1 p o) := fun b u q => by
  rw [upd_ne (ne_of_none q h)]
  exact s b u q
theorem upd_free {H H1 : Hp} {p : Addr} {o : HO} (s : Same H H1) (h : H1 p = none) : Same H (upd H1 p o) := upd_new s (s.free h)
structure Bl (mg : Str → Option Value) : Prop where
  b_len : mg "len" = none
  b_range : mg "range" = none
  b_isinstance : mg "isinstance" = none
  b_int : mg "int" = none
  b_bool : mg "bool" = none
  b_list : mg "list" = none
  b_tuple : mg "tuple" = none
  b_str : mg "str" = none
  b_min : mg "min" = none
  b_max : mg "max" = none
  b_sum : mg "sum" = none
  b_ValueError : mg "ValueError" = none
def spWhole : Sp := fun vs H Q _ => ∃ i : Int, vs = [.int i] ∧ Q (.bl true) H
def spAt (K : PySem.W.Frag) : Sp := fun vs H Q _ => ∃ (a : Addr) (ns : List Int) (k : Int), vs = [.ref a, .int k] ∧ SqL K H a (ns.map V.int) ∧ 0 ≤ k ∧ ∀ z : Int, Q (.int z) H
def spNumbers (K : PySem.W.Frag) : Sp := fun vs H Q _ => ∃ (a b : Addr) (xs : List Int), vs = [.ref a, .ref b] ∧ H a = some (.lst (xs.map V.int)) ∧ SqL K H b (xs.map V.int) ∧ xs.length ≤ 100000 ∧ Q (.bl true) H
def spLaw (K : PySem.W.Frag) : Sp := fun vs H Q _ => ∃ (a : Addr) (ns : List Int), vs = [.ref a] ∧ SqL K H a (ns.map V.int) ∧ ns.length ≤ 63 ∧ ∀ H', Q (.bl true) H'
theorem at_ints {xs : List Int} {i : Nat} (h : i < xs.length) : atI (xs.map V.int) ((i : Nat) : Int) = some (.int xs[i]) := atI_nat (by rw [List.getElem?_map, List.getElem?_eq_getElem h]; rfl)
theorem small_len {n : Nat} (h : n ≤ 100000) : n < sizeLine := Nat.lt_of_le_of_lt h (by decide)
/-! #### what the defs promise -/
/-- the parts of n from 1 to i -/
def pU (n i : Nat) : List Nat := ((List.range i).map (· + 1)).filter fun k => decide (n % k = 0)
theorem pU_succ (n i : Nat) : pU n (i + 1) = pU n i ++ if n % (i + 1) = 0 then [i + 1] else [] := by
  unfold pU
  rw [List.range_succ, List.map_append, List.filter_append]
  by_cases h : n % (i + 1) = 0
  · rw [if_pos h, List.map_cons, List.map_nil, List.filter_cons, if_pos (by rw [decide_eq_true_iff]; exact h), List.filter_nil]
  · rw [if_neg h, List.map_cons, List.map_nil, List.filter_cons, if_neg (by rw [decide_eq_true_iff]; exact h), List.filter_nil]
theorem pU_len (n i : Nat) : (pU n i).length ≤ i := by
  unfold pU
  refine Nat.le_trans (List.length_filter_le _ _) ?_
  rw [List.length_map, List.length_range]
  exact Nat.le_refl _
def ofN (l : List Nat) : List V := l.map fun (k : Nat) => V.int k
theorem ofN_len (l : List Nat) : (ofN l).length = l.length := List.length_map _
theorem ofN_append (a b : List Nat) : ofN (a ++ b) = ofN a ++ ofN b := List.map_append
/-- tuples of two stand at these addresses -/
def Tups (H : Hp) : List Addr → List (Nat × Nat) → Prop
  | [], [] => True
  | a :: r, x :: l => H a = some (.tup [.int (x.1 : Nat), .int (x.2 : Nat)]) ∧ Tups H r l
  | _, _ => False
theorem Tups.mono {H H' : Hp} (s : ∀ b xs, H b = some (.tup xs) → H' b = some (.tup xs)) : ∀ {as : List Addr} {l : List (Nat × Nat)}, Tups H as l → Tups H' as l
  | [], [], _ => trivial
  | _ :: _, _ :: _, h => ⟨s _ _ h.1, Tups.mono s h.2⟩
  | [], _ :: _, h => h.elim
  | _ :: _, [], h => h.elim
theorem Tups.snoc {H : Hp} {a : Addr} {x : Nat × Nat} (e : H a = some (.tup [.int (x.1 : Nat), .int (x.2 : Nat)])) : ∀ {as : List Addr} {l : List (Nat × Nat)}, Tups H as l → Tups H (as ++ [a]) (l ++ [x])
  | [], [], _ => ⟨e, trivial⟩
  | _ :: _, _ :: _, h => ⟨h.1, Tups.snoc e h.2⟩
  | [], _ :: _, h => h.elim
  | _ :: _, [], h => h.elim
theorem Tups.len {H : Hp} : ∀ {as : List Addr} {l : List (Nat × Nat)}, Tups H as l → as.length = l.length
  | [], [], _ => rfl
  | _ :: _, _ :: _, h => congrArg (· + 1) (Tups.len h.2)
  | [], _ :: _, h => h.elim
  | _ :: _, [], h => h.elim
theorem Tups.get {H : Hp} : ∀ {as : List Addr} {l : List (Nat × Nat)} {i : Nat} {v : V}, Tups H as l → (as.map V.ref)[i]? = some v → ∃ a x, v = .ref a ∧ l[i]? = some x ∧ H a = some (.tup [.int (x.1 : Nat), .int (x.2 : Nat)])
  | a :: _, x :: _, 0, v, h, e => by
    have e' : some (V.ref a) = some v := e
    cases e'
    exact ⟨a, x, rfl, rfl, h.1⟩
  | _ :: _, _ :: _, i + 1, v, h, e => Tups.get (i := i) h.2 e
  | [], _, _, _, _, e => by simp at e
  | _ :: _, [], _, _, h, _ => h.elim
theorem neg_one_pow (k : Nat) : (0 : Int) - (-1) ^ k = (-1) ^ (k + 1) := by
  rw [Int.pow_succ]
  omega
theorem ofN_ints (l : List Nat) : ofN l = (l.map fun (k : Nat) => (k : Int)).map V.int := by
  unfold ofN
  rw [List.map_map]
  rfl
def spCheck : Sp := fun vs H Q _ => ∃ n : Int, vs = [.int n] ∧ 1 ≤ n ∧ Q .non H
def spParts : Sp := fun vs H Q _ => ∃ n : Nat, vs = [.int n] ∧ 1 ≤ n ∧ n ≤ 100000 ∧ ∀ r, H r = none → Q (.ref r) (upd H r (.lst (ofN (pU n n))))
def spPrimes : Sp := fun vs H Q _ => ∃ n : Nat, vs = [.int n] ∧ 1 ≤ n ∧ n ≤ 100000 ∧ ∀ (r : Addr) (as : List Addr) (H' : Hp), Same H H' → H r = none → H' r = some (.lst (as.map V.ref)) → Tups H' as (ppL n) → Q (.ref r) H'
def spSign : Sp := fun vs H Q _ => ∃ n : Nat, vs = [.int n] ∧ 1 ≤ n ∧ n ≤ 100000 ∧ ∀ H', Same H H' → Q (.int (sgn n)) H'
theorem sum_pU (n : Nat) (f : Nat → Int) : ∀ i, ((pU n i).map f).sum = sm i fun k => if n % k = 0 then f k else 0
  | 0 => rfl
  | i + 1 => by
    rw [pU_succ, List.map_append, List.sum_append, sum_pU n f i, sm]
    by_cases h : n % (i + 1) = 0
    · rw [if_pos h, if_pos h, List.map_cons, List.map_nil, List.sum_cons, List.sum_nil, Int.add_zero]
    · rw [if_neg h, if_neg h, List.map_nil, List.sum_nil]
theorem sum_pU_if (n : Nat) (f : Nat → Int) (p : Nat → Bool) : ∀ i, (((pU n i).filter p).map f).sum = sm i fun k => if n % k = 0 then (if p k = true then f k else 0) else 0
  | 0 => rfl
  | i + 1 => by
    rw [pU_succ, List.filter_append, List.map_append, List.sum_append, sum_pU_if n f p i, sm]
    by_cases h : n % (i + 1) = 0
    · rw [if_pos h, if_pos h, List.filter_cons, List.filter_nil]
      by_cases h2 : p (i + 1) = true
      · rw [if_pos h2, if_pos h2, List.map_cons, List.map_nil, List.sum_cons, List.sum_nil, Int.add_zero]
      · rw [if_neg h2, if_neg h2, List.map_nil, List.sum_nil]
    · rw [if_neg h, if_neg h, List.filter_nil, List.map_nil, List.sum_nil]
theorem mem_pU {n i k : Nat} (h : k ∈ pU n i) : 1 ≤ k ∧ k ≤ i ∧ n % k = 0 := by
  unfold pU at h
  obtain ⟨h1, h2⟩ := List.mem_filter.mp h
  obtain ⟨j, hj, rfl⟩ := List.mem_map.mp h1
  have := List.mem_range.mp hj
  exact ⟨by omega, by omega, of_decide_eq_true h2⟩
theorem filter_yes {α : Type} (l : List α) : l.filter (fun _ => true) = l := List.filter_eq_self.mpr fun _ _ => rfl
theorem sum_tab (f : Nat → Int) : ∀ n, (tab n f).sum = sm n f
  | 0 => rfl
  | n + 1 => by rw [tab_succ, List.sum_append, sum_tab f n, List.sum_cons, List.sum_nil, Int.add_zero]; rfl
theorem at_ent {xs : List Int} {k : Nat} (h1 : 1 ≤ k) (h2 : k ≤ xs.length) : atI (xs.map V.int) (((k : Nat) : Int) - 1) = some (.int (ent xs k)) := by
  rw [show ((k : Nat) : Int) - 1 = ((k - 1 : Nat) : Int) by omega, at_ints (show k - 1 < xs.length by omega), ← ent_get (show k - 1 < xs.length by omega), Nat.sub_add_cancel h1]
theorem ent_mem {xs : List Int} {k : Nat} (h1 : 1 ≤ k) (h2 : k ≤ xs.length) : ent xs k ∈ xs := by
  have := ent_get (show k - 1 < xs.length by omega)
  rw [Nat.sub_add_cancel h1] at this
  rw [this]
  exact List.getElem_mem _
theorem sgn_small (n : Nat) : sgn n = 0 ∨ sgn n = 1 ∨ sgn n = -1 := by
  have : ∀ l : List (Nat × Nat), sgnL l = 0 ∨ sgnL l = 1 ∨ sgnL l = -1 := by
    intro l
    induction l with
    | nil => exact .inr (.inl rfl)
    | cons x r ih =>
      rw [sgnL]
      split
      · exact .inl rfl
      · rcases ih with e | e | e <;> rw [e]
        · exact .inl rfl
        · exact .inr (.inr rfl)
        · exact .inr (.inl rfl)
  exact this (ppL n)
def spCheckT (K : PySem.W.Frag) : Sp := fun vs H Q _ => ∃ (a : Addr) (xs : List Int), vs = [.ref a] ∧ SqL K H a (xs.map V.int) ∧ 1 ≤ xs.length ∧ Q .non H
def spEntry (K : PySem.W.Frag) (g : (Nat → Int) → Nat → Int) : Sp := fun vs H Q _ => ∃ (a : Addr) (xs : List Int) (n : Nat), vs = [.ref a, .int n] ∧ SqL K H a (xs.map V.int) ∧ 1 ≤ n ∧ n ≤ xs.length ∧ xs.length ≤ 1000 ∧ ∀ H', Same H H' → Q (.int (g (ent xs) n)) H'
def spTab (K : PySem.W.Frag) (g : (Nat → Int) → Nat → Int) : Sp := fun vs H Q _ => ∃ (a : Addr) (xs : List Int), vs = [.ref a] ∧ SqL K H a (xs.map V.int) ∧ 1 ≤ xs.length ∧ xs.length ≤ 1000 ∧
  ∀ (r : Addr) (H' : Hp), Same H H' → H r = none → H' r = some (.lst ((tab xs.length (g (ent xs))).map V.int)) → Q (.ref r) H'
def spSigns : Sp := fun vs H Q _ => ∃ (n : Nat), vs = [.int (n : Nat)] ∧ 1 ≤ n ∧ n ≤ 1000 ∧ ∀ (r : Addr) (H' : Hp), Same H H' → H r = none → H' r = some (.lst ((tab n sgn).map V.int)) → Q (.ref r) H'
section
variable {P : Program} {w : World} {K : PySem.W.Frag} {mg : Str → Option Value} {base : Heap} {CX : CXT} {f : Addr} {fd : FuncData}
theorem ok_summed_entry (B : Bl mg) (F : Fun K "summed_entry" "summed_entry" s_summed_entry f fd) (c_parts : Cal P w K mg base CX 2 "parts" ["number"] spParts) : FnOk P w K mg base CX 4 f fd ["table", "number"] (spEntry K (cv one1)) := by
  refine Q2.okW F sc_summed_entry (fun vs H Q E h => ?_) (fun cdv A outer s H vs Q E hr h => ?_)
  · obtain ⟨a, xs, n, rfl, _⟩ := h; rfl
  obtain ⟨a, xs, n, rfl, hA, h1, h2, h3, q⟩ := h
  refine ⟨_,
      (Q2.wss_one (Q2.ws_ret (Q2.we_callB (Q2.call_sum rfl) rfl B.b_sum PyProof.Rows.boot_sum (Q2.wa_cons (Q2.we_comp (N := ["table", "number"]) (xs := ["part"]) (sc := defScope s_summed_entry) rfl (by exact ⟨rfl, rfl, by decide +kernel, by decide +kernel, by decide +kernel, by decide +kernel⟩) rfl (Q2.Seen.of rfl) (Q2.wi_list (Q2.we_cal c_parts (hr.mono (by decide)) rfl (Q2.wa_cons (Q2.v 1) Q2.wa_nil Q2.star_n) Q2.star_n Q2.any0)) (fun _ _ _ _ _ => ⟨Q2.wg_name (i := 2) (show (["table", "number", "part"] : List Str).Nodup by decide +kernel) rfl (Or.inl rfl) (Or.inr rfl), Q2.wts_nil, (Q2.we_ix (Q2.ix_listK (K := K) rfl) (Q2.v 0) (Q2.we_op op_sub (Q2.v 2) Q2.we_int) Q2.ix_b)⟩)) Q2.wa_nil Q2.star_lc) Q2.star_lc Q2.any0))), ?_⟩
  refine begin_ (σ' := [some (.ref a), some (.int n)]) rfl ?_
  try simp only [Q2.W, List.append_nil, decide_eq_true_eq, Bool.not_eq_true', decide_eq_false_iff_not, List.cons_append, List.nil_append, if_true, if_false, Bool.false_eq_true, Bool.not_true, Bool.not_false, not_true_eq_false, not_false_eq_true, true_and]
  refine ⟨n, rfl, h1, by omega, fun p hp => ?_⟩
  try simp only [Q2.W, List.append_nil, decide_eq_true_eq, Bool.not_eq_true', decide_eq_false_iff_not, List.cons_append, List.nil_append, if_true, if_false, Bool.false_eq_true, Bool.not_true, Bool.not_false, not_true_eq_false, not_false_eq_true, true_and]
  have s0 := upd_new (Same.refl H) hp (o := .lst (ofN (pU n n)))
  have hz := pU_len n n
  refine ⟨⟨_, SqL.of upd_same⟩, CompL.map (pU n n) (ent xs) (fun _ => true) upd_same (small_len (by omega)) ?_ ?_⟩
  · intro k hk y H1 s1 Ry Rn hy _
    obtain ⟨hk1, hk2, hk3⟩ := mem_pU hk
    try simp only [Q2.W, List.append_nil, decide_eq_true_eq, Bool.not_eq_true', decide_eq_false_iff_not, List.cons_append, List.nil_append, if_true, if_false, Bool.false_eq_true, Bool.not_true, Bool.not_false, not_true_eq_false, not_false_eq_true, true_and]
    refine ⟨_, _, s1.seq (s0.seq hA), at_ent hk1 (by omega), ?_⟩
    exact hy rfl H1 (Same.refl _)
  · intro D H' hD s1 hD'
    try simp only [Q2.W, List.append_nil, decide_eq_true_eq, Bool.not_eq_true', decide_eq_false_iff_not, List.cons_append, List.nil_append, if_true, if_false, Bool.false_eq_true, Bool.not_true, Bool.not_false, not_true_eq_false, not_false_eq_true, true_and]
    refine ⟨_, SqL.of hD', ?_⟩
    rw [filter_yes, sum_pU]
    have := q H' fun b u e => s1 b u (s0 b u e)
    rw [cv_comm, cv_div _ _ h1] at this
    rw [show (sm n fun k => if n % k = 0 then ent xs k else 0) = sm n fun i => if n % i = 0 then ent xs i * one1 (n / i) else 0 from sm_congr fun i _ _ => by unfold one1; rw [Int.mul_one]]
    exact this
theorem ok_taken_back_entry (B : Bl mg) (F : Fun K "taken_back_entry" "taken_back_entry" s_taken_back_entry f fd) (c_parts : Cal P w K mg base CX 2 "parts" ["number"] spParts) (c_sign : Cal P w K mg base CX 3 "sign" ["number"] spSign) :
    FnOk P w K mg base CX 4 f fd ["table", "number"] (spEntry K (cv sgn)) := by
  refine Q2.okW F sc_taken_back_entry (fun vs H Q E h => ?_) (fun cdv A outer s H vs Q E hr h => ?_)
  · obtain ⟨a, xs, n, rfl, _⟩ := h; rfl
  obtain ⟨a, xs, n, rfl, hA, h1, h2, h3, q⟩ := h
  refine ⟨_,
      (Q2.wss_one (Q2.ws_ret (Q2.we_callB (Q2.call_sum rfl) rfl B.b_sum PyProof.Rows.boot_sum (Q2.wa_cons (Q2.we_comp (N := ["table", "number"]) (xs := ["part"]) (sc := defScope s_taken_back_entry) rfl (by exact ⟨rfl, rfl, by decide +kernel, by decide +kernel, by decide +kernel, by decide +kernel⟩) rfl (Q2.Seen.of rfl) (Q2.wi_list (Q2.we_cal c_parts (hr.mono (by decide)) rfl (Q2.wa_cons (Q2.v 1) Q2.wa_nil Q2.star_n) Q2.star_n Q2.any0)) (fun _ _ _ _ _ => ⟨Q2.wg_name (i := 2) (show (["table", "number", "part"] : List Str).Nodup by decide +kernel) rfl (Or.inl rfl) (Or.inr rfl), Q2.wts_nil, (Q2.we_op op_mul (Q2.we_cal c_sign (hr.mono (by decide)) rfl (Q2.wa_cons (Q2.v 2) Q2.wa_nil Q2.star_n) Q2.star_n Q2.any0) (Q2.we_ix (Q2.ix_listK (K := K) rfl) (Q2.v 0) (Q2.we_op op_sub (Q2.we_op op_fdiv (Q2.v 1) (Q2.v 2)) Q2.we_int) Q2.ix_b))⟩)) Q2.wa_nil Q2.star_lc) Q2.star_lc Q2.any0))), ?_⟩
  refine begin_ (σ' := [some (.ref a), some (.int n)]) rfl ?_
  try simp only [Q2.W, List.append_nil, decide_eq_true_eq, Bool.not_eq_true', decide_eq_false_iff_not, List.cons_append, List.nil_append, if_true, if_false, Bool.false_eq_true, Bool.not_true, Bool.not_false, not_true_eq_false, not_false_eq_true, true_and]
  refine ⟨n, rfl, h1, by omega, fun p hp => ?_⟩
  try simp only [Q2.W, List.append_nil, decide_eq_true_eq, Bool.not_eq_true', decide_eq_false_iff_not, List.cons_append, List.nil_append, if_true, if_false, Bool.false_eq_true, Bool.not_true, Bool.not_false, not_true_eq_false, not_false_eq_true, true_and]
  have s0 := upd_new (Same.refl H) hp (o := .lst (ofN (pU n n)))
  have hz := pU_len n n
  refine ⟨⟨_, SqL.of upd_same⟩, CompL.map (pU n n) (fun k => sgn k * ent xs (n / k)) (fun _ => true) upd_same (small_len (by omega)) ?_ ?_⟩
  · intro k hk y H1 s1 Ry Rn hy _
    obtain ⟨hk1, hk2, hk3⟩ := mem_pU hk
    try simp only [Q2.W, List.append_nil, decide_eq_true_eq, Bool.not_eq_true', decide_eq_false_iff_not, List.cons_append, List.nil_append, if_true, if_false, Bool.false_eq_true, Bool.not_true, Bool.not_false, not_true_eq_false, not_false_eq_true, true_and]
    refine ⟨k, rfl, hk1, by omega, fun H2 s2 => ?_⟩
    try simp only [Q2.W, List.append_nil, decide_eq_true_eq, Bool.not_eq_true', decide_eq_false_iff_not, List.cons_append, List.nil_append, if_true, if_false, Bool.false_eq_true, Bool.not_true, Bool.not_false, not_true_eq_false, not_false_eq_true, true_and]
    refine ⟨⟨by omega, by omega⟩, ?_⟩
    rw [← Int.natCast_ediv]
    have hq := Nat.div_le_self n k
    refine ⟨_, _, s2.seq (s1.seq (s0.seq hA)), at_ent (Nat.div_pos hk2 hk1) (by omega), ?_⟩
    try simp only [Q2.W, List.append_nil, decide_eq_true_eq, Bool.not_eq_true', decide_eq_false_iff_not, List.cons_append, List.nil_append, if_true, if_false, Bool.false_eq_true, Bool.not_true, Bool.not_false, not_true_eq_false, not_false_eq_true, true_and]
    refine ⟨.inl (by have := sgn_small k; omega), ?_⟩
    exact hy rfl H2 s2
  · intro D H' hD s1 hD'
    try simp only [Q2.W, List.append_nil, decide_eq_true_eq, Bool.not_eq_true', decide_eq_false_iff_not, List.cons_append, List.nil_append, if_true, if_false, Bool.false_eq_true, Bool.not_true, Bool.not_false, not_true_eq_false, not_false_eq_true, true_and]
    refine ⟨_, SqL.of hD', ?_⟩
    rw [filter_yes, sum_pU, ← cv_div _ _ h1]
    exact q H' fun b u e => s1 b u (s0 b u e)
def spEntry2 (K : PySem.W.Frag) : Sp := fun vs H Q _ => ∃ (a b : Addr) (xs ys : List Int) (n : Nat), vs = [.ref a, .ref b, .int n] ∧ SqL K H a (xs.map V.int) ∧ SqL K H b (ys.map V.int) ∧ 1 ≤ n ∧ n ≤ xs.length ∧ xs.length ≤ 1000 ∧ ys.length = xs.length ∧ (∀ x ∈ xs, ∀ y ∈ ys, IntMulOk x y) ∧
  ∀ H', Same H H' → Q (.int (cv (ent xs) (ent ys) n)) H'
theorem ok_product_entry (B : Bl mg) (F : Fun K "product_entry" "product_entry" s_product_entry f fd) (c_parts : Cal P w K mg base CX 2 "parts" ["number"] spParts) :
    FnOk P w K mg base CX 4 f fd ["one", "two", "number"] (spEntry2 K) := by
  refine Q2.okW F sc_product_entry (fun vs H Q E h => ?_) (fun cdv A outer s H vs Q E hr h => ?_)
  · obtain ⟨a, b, xs, ys, n, rfl, _⟩ := h; rfl
  obtain ⟨a, b, xs, ys, n, rfl, hA, hB, h1, h2, h3, h4, hM, q⟩ := h
  refine ⟨_,
      (Q2.wss_one (Q2.ws_ret (Q2.we_callB (Q2.call_sum rfl) rfl B.b_sum PyProof.Rows.boot_sum (Q2.wa_cons (Q2.we_comp (N := ["one", "two", "number"]) (xs := ["part"]) (sc := defScope s_product_entry) rfl (by exact ⟨rfl, rfl, by decide +kernel, by decide +kernel, by decide +kernel, by decide +kernel⟩) rfl (Q2.Seen.of rfl) (Q2.wi_list (Q2.we_cal c_parts (hr.mono (by decide)) rfl (Q2.wa_cons (Q2.v 2) Q2.wa_nil Q2.star_n) Q2.star_n Q2.any0)) (fun _ _ _ _ _ => ⟨Q2.wg_name (i := 3) (show (["one", "two", "number", "part"] : List Str).Nodup by decide +kernel) rfl (Or.inl rfl) (Or.inr rfl), Q2.wts_nil, (Q2.we_op Q2.op_mulB (Q2.we_ix (Q2.ix_listK (K := K) rfl) (Q2.v 0) (Q2.we_op op_sub (Q2.v 3) Q2.we_int) Q2.ix_b) (Q2.we_ix (Q2.ix_listK (K := K) rfl) (Q2.v 1) (Q2.we_op op_sub (Q2.we_op op_fdiv (Q2.v 2) (Q2.v 3)) Q2.we_int) Q2.ix_b))⟩)) Q2.wa_nil Q2.star_lc) Q2.star_lc Q2.any0))), ?_⟩
  refine begin_ (σ' := [some (.ref a), some (.ref b), some (.int n)]) rfl ?_
  try simp only [Q2.W, List.append_nil, decide_eq_true_eq, Bool.not_eq_true', decide_eq_false_iff_not, List.cons_append, List.nil_append, if_true, if_false, Bool.false_eq_true, Bool.not_true, Bool.not_false, not_true_eq_false, not_false_eq_true, true_and]
  refine ⟨n, rfl, h1, by omega, fun p hp => ?_⟩
  try simp only [Q2.W, List.append_nil, decide_eq_true_eq, Bool.not_eq_true', decide_eq_false_iff_not, List.cons_append, List.nil_append, if_true, if_false, Bool.false_eq_true, Bool.not_true, Bool.not_false, not_true_eq_false, not_false_eq_true, true_and]
  have s0 := upd_new (Same.refl H) hp (o := .lst (ofN (pU n n)))
  have hz := pU_len n n
  refine ⟨⟨_, SqL.of upd_same⟩, CompL.map (pU n n) (fun k => ent xs k * ent ys (n / k)) (fun _ => true) upd_same (small_len (by omega)) ?_ ?_⟩
  · intro k hk y H1 s1 Ry Rn hy _
    obtain ⟨hk1, hk2, hk3⟩ := mem_pU hk
    try simp only [Q2.W, List.append_nil, decide_eq_true_eq, Bool.not_eq_true', decide_eq_false_iff_not, List.cons_append, List.nil_append, if_true, if_false, Bool.false_eq_true, Bool.not_true, Bool.not_false, not_true_eq_false, not_false_eq_true, true_and]
    refine ⟨_, _, s1.seq (s0.seq hA), at_ent hk1 (by omega), ?_⟩
    try simp only [Q2.W, List.append_nil, decide_eq_true_eq, Bool.not_eq_true', decide_eq_false_iff_not, List.cons_append, List.nil_append, if_true, if_false, Bool.false_eq_true, Bool.not_true, Bool.not_false, not_true_eq_false, not_false_eq_true, true_and]
    refine ⟨⟨by omega, by omega⟩, ?_⟩
    rw [← Int.natCast_ediv]
    have hq := Nat.div_le_self n k
    have hq1 := Nat.div_pos hk2 hk1
    refine ⟨_, _, s1.seq (s0.seq hB), at_ent hq1 (by omega), ?_⟩
    try simp only [Q2.W, List.append_nil, decide_eq_true_eq, Bool.not_eq_true', decide_eq_false_iff_not, List.cons_append, List.nil_append, if_true, if_false, Bool.false_eq_true, Bool.not_true, Bool.not_false, not_true_eq_false, not_false_eq_true, true_and]
    refine ⟨hM _ (ent_mem hk1 (by omega)) _ (ent_mem hq1 (by omega)), ?_⟩
    exact hy rfl H1 (Same.refl _)
  · intro D H' hD s1 hD'
    try simp only [Q2.W, List.append_nil, decide_eq_true_eq, Bool.not_eq_true', decide_eq_false_iff_not, List.cons_append, List.nil_append, if_true, if_false, Bool.false_eq_true, Bool.not_true, Bool.not_false, not_true_eq_false, not_false_eq_true, true_and]
    refine ⟨_, SqL.of hD', ?_⟩
    rw [filter_yes, sum_pU, ← cv_div _ _ h1]
    exact q H' fun b u e => s1 b u (s0 b u e)
def spWithout (K : PySem.W.Frag) : Sp := fun vs H Q _ => ∃ (a b : Addr) (xs : List Int) (n : Nat), vs = [.ref a, .ref b, .int n] ∧ SqL K H a (xs.map V.int) ∧ SqL K H b ((trL (ent xs) (n - 1)).map V.int) ∧ 2 ≤ n ∧ n ≤ xs.length ∧ xs.length ≤ 1000 ∧
  (∀ i j, 1 ≤ i → i ≤ xs.length → 1 ≤ j → j ≤ xs.length → IntMulOk (ent xs i) (trn (ent xs) j)) ∧ ∀ H', Same H H' → Q (.int (sm n fun d => if n % d = 0 then (if 1 < d then ent xs d * trn (ent xs) (n / d) else 0) else 0)) H'
theorem ok_without (B : Bl mg) (F : Fun K "sum_without_one" "sum_without_one" s_sum_without_one f fd) (c_parts : Cal P w K mg base CX 2 "parts" ["number"] spParts) : FnOk P w K mg base CX 4 f fd ["table", "answer", "number"] (spWithout K) := by
  refine Q2.okW F sc_sum_without_one (fun vs H Q E h => ?_) (fun cdv A outer s H vs Q E hr h => ?_)
  · obtain ⟨a, b, xs, n, rfl, _⟩ := h; rfl
  obtain ⟨a, b, xs, n, rfl, hA, hB, h1, h2, h3, hM, q⟩ := h
  refine ⟨_,
      (Q2.wss_one (Q2.ws_ret (Q2.we_callB (Q2.call_sum rfl) rfl B.b_sum PyProof.Rows.boot_sum (Q2.wa_cons (Q2.we_comp (N := ["table", "answer", "number"]) (xs := ["part"]) (sc := defScope s_sum_without_one) rfl (by exact ⟨rfl, rfl, by decide +kernel, by decide +kernel, by decide +kernel, by decide +kernel⟩) rfl (Q2.Seen.of rfl) (Q2.wi_list (Q2.we_cal c_parts (hr.mono (by decide)) rfl (Q2.wa_cons (Q2.v 2) Q2.wa_nil Q2.star_n) Q2.star_n Q2.any0)) (fun _ _ _ _ _ => ⟨Q2.wg_name (i := 3) (show (["table", "answer", "number", "part"] : List Str).Nodup by decide +kernel) rfl (Or.inl rfl) (Or.inr rfl), Q2.wts_one (Q2.wt_cmp op_gt (Q2.v 3) Q2.we_int (nomark _)), (Q2.we_op Q2.op_mulB (Q2.we_ix (Q2.ix_listK (K := K) rfl) (Q2.v 0) (Q2.we_op op_sub (Q2.v 3) Q2.we_int) Q2.ix_b) (Q2.we_ix (Q2.ix_listK (K := K) rfl) (Q2.v 1) (Q2.we_op op_sub (Q2.we_op op_fdiv (Q2.v 2) (Q2.v 3)) Q2.we_int) Q2.ix_b))⟩)) Q2.wa_nil Q2.star_lc) Q2.star_lc Q2.any0))), ?_⟩
  refine begin_ (σ' := [some (.ref a), some (.ref b), some (.int n)]) rfl ?_
  try simp only [Q2.W, List.append_nil, decide_eq_true_eq, Bool.not_eq_true', decide_eq_false_iff_not, List.cons_append, List.nil_append, if_true, if_false, Bool.false_eq_true, Bool.not_true, Bool.not_false, not_true_eq_false, not_false_eq_true, true_and]
  refine ⟨n, rfl, by omega, by omega, fun p hp => ?_⟩
  try simp only [Q2.W, List.append_nil, decide_eq_true_eq, Bool.not_eq_true', decide_eq_false_iff_not, List.cons_append, List.nil_append, if_true, if_false, Bool.false_eq_true, Bool.not_true, Bool.not_false, not_true_eq_false, not_false_eq_true, true_and]
  have s0 := upd_new (Same.refl H) hp (o := .lst (ofN (pU n n)))
  have hz := pU_len n n
  refine ⟨⟨_, SqL.of upd_same⟩, CompL.map (pU n n) (fun k => ent xs k * trn (ent xs) (n / k)) (fun k => decide (1 < k)) upd_same (small_len (by omega)) ?_ ?_⟩
  · intro k hk y H1 s1 Ry Rn hy hn
    obtain ⟨hk1, hk2, hk3⟩ := mem_pU hk
    try simp only [Q2.W, List.append_nil, decide_eq_true_eq, Bool.not_eq_true', decide_eq_false_iff_not, List.cons_append, List.nil_append, if_true, if_false, Bool.false_eq_true, Bool.not_true, Bool.not_false, not_true_eq_false, not_false_eq_true, true_and]
    refine ite2 (fun c => ?_) (fun c => ?_)
    · have c' : 1 < k := by omega
      refine ⟨_, _, s1.seq (s0.seq hA), at_ent hk1 (by omega), ?_⟩
      try simp only [Q2.W, List.append_nil, decide_eq_true_eq, Bool.not_eq_true', decide_eq_false_iff_not, List.cons_append, List.nil_append, if_true, if_false, Bool.false_eq_true, Bool.not_true, Bool.not_false, not_true_eq_false, not_false_eq_true, true_and]
      refine ⟨⟨by omega, by omega⟩, ?_⟩
      rw [← Int.natCast_ediv]
      have hq : n / k < n := Nat.div_lt_self (by omega) c'
      have hq1 := Nat.div_pos hk2 hk1
      refine ⟨_, _, s1.seq (s0.seq hB), at_ent hq1 (by rw [trL_len]; omega), ?_⟩
      rw [ent_trL _ hq1 (by omega)]
      try simp only [Q2.W, List.append_nil, decide_eq_true_eq, Bool.not_eq_true', decide_eq_false_iff_not, List.cons_append, List.nil_append, if_true, if_false, Bool.false_eq_true, Bool.not_true, Bool.not_false, not_true_eq_false, not_false_eq_true, true_and]
      refine ⟨hM k (n / k) hk1 (by omega) hq1 (by omega), ?_⟩
      exact hy (decide_eq_true c') H1 (Same.refl _)
    · exact hn (decide_eq_false (by omega)) H1 (Same.refl _)
  · intro D H' hD s1 hD'
    try simp only [Q2.W, List.append_nil, decide_eq_true_eq, Bool.not_eq_true', decide_eq_false_iff_not, List.cons_append, List.nil_append, if_true, if_false, Bool.false_eq_true, Bool.not_true, Bool.not_false, not_true_eq_false, not_false_eq_true, true_and]
    refine ⟨_, SqL.of hD', ?_⟩
    rw [sum_pU_if]
    have := q H' fun b u e => s1 b u (s0 b u e)
    simp only [decide_eq_true_eq]
    exact this
def spPower : Sp := fun vs H Q _ => ∃ p t : Nat, vs = [.int (p : Nat), .int (t : Nat)] ∧ p ≤ 100000 ∧ t ≤ 100000 ∧ Q (.int ((p ^ t : Nat) : Int)) H
theorem ok_power (B : Bl mg) (F : Fun K "power" "power" s_power f fd) : FnOk P w K mg base CX 1 f fd ["prime", "times"] spPower := by
  refine Q2.okW F sc_power (fun vs H Q E h => ?_) (fun cdv A outer s H vs Q E hr h => ?_)
  · obtain ⟨p, t, rfl, _⟩ := h; rfl
  obtain ⟨p, t, rfl, hp, ht, q⟩ := h
  refine ⟨_,
      (Q2.wss_cons (Q2.ws_set (i := 2) sc_power.nd rfl (Or.inl rfl) Q2.we_int Q2.sw_c)
      (Q2.wss_cons (Q2.ws_for PassesOwn.never rfl (Q2.wi_range1 rfl B.b_range (Q2.wa_cons (Q2.v 1) Q2.wa_nil Q2.star_n) (Q2.star1 Q2.star_n)) (Q2.wg_name (i := 3) sc_power.nd rfl (Or.inl rfl))
        (Q2.wss_one (Q2.ws_set (i := 2) sc_power.nd rfl (Or.inl rfl) (Q2.we_op op_mul (Q2.v 2) (Q2.v 0)) Q2.sw_b)) (fun x => Q2.fs_call x))
      (Q2.wss_one (Q2.ws_ret (Q2.v 2))))), ?_⟩
  refine begin_ (σ' := [some (.int p), some (.int t), none, none]) rfl ?_
  try simp only [Q2.W, List.append_nil, decide_eq_true_eq, Bool.not_eq_true', decide_eq_false_iff_not, List.cons_append, List.nil_append, if_true, if_false, Bool.false_eq_true, Bool.not_true, Bool.not_false, not_true_eq_false, not_false_eq_true, true_and]
  refine ⟨by omega, by omega, ?_⟩
  refine ForR.of (fun j σ H2 => ∃ y : Option V, σ = [some (.int p), some (.int t), some (.int ((p ^ j : Nat) : Int)), y] ∧ H2 = H) ⟨none, rfl, rfl⟩ ?_ ?_
  · rintro j σ H2 hj ⟨y, rfl, rfl⟩ U hU
    try simp only [Q2.W, List.append_nil, decide_eq_true_eq, Bool.not_eq_true', decide_eq_false_iff_not, List.cons_append, List.nil_append, if_true, if_false, Bool.false_eq_true, Bool.not_true, Bool.not_false, not_true_eq_false, not_false_eq_true, true_and]
    refine ⟨.inr ⟨by omega, by omega⟩, hU _ _ ⟨some (.int ((0 : Int) + (j : Nat))), ?_, rfl⟩⟩
    rw [Nat.pow_succ, Int.natCast_mul]
  · rintro σ H2 ⟨y, rfl, rfl⟩
    try simp only [Q2.W, List.append_nil, decide_eq_true_eq, Bool.not_eq_true', decide_eq_false_iff_not, List.cons_append, List.nil_append, if_true, if_false, Bool.false_eq_true, Bool.not_true, Bool.not_false, not_true_eq_false, not_false_eq_true, true_and]
    rw [Int.toNat_natCast]
    exact q
def MulP (t : Nat → Int) (n : Nat) : Prop := ∀ i x, (ppL n)[i]? = some x → IntMulOk (bpL t ((ppL n).take i)) (t (x.1 ^ x.2))
def spEntryP (K : PySem.W.Frag) : Sp := fun vs H Q _ => ∃ (a : Addr) (xs : List Int) (n : Nat), vs = [.ref a, .int n] ∧ SqL K H a (xs.map V.int) ∧ 1 ≤ n ∧ n ≤ xs.length ∧ xs.length ≤ 1000 ∧ MulP (ent xs) n ∧ ∀ H', Same H H' → Q (.int (bpr (ent xs) n)) H'
theorem ok_entry_by_primes (F : Fun K "entry_by_primes" "entry_by_primes" s_entry_by_primes f fd) (c_prime_parts : Cal P w K mg base CX 2 "prime_parts" ["number"] spPrimes) (c_power : Cal P w K mg base CX 1 "power" ["prime", "times"] spPower) :
    FnOk P w K mg base CX 4 f fd ["table", "number"] (spEntryP K) := by
  refine Q2.okW F sc_entry_by_primes (fun vs H Q E h => ?_) (fun cdv A outer s H vs Q E hr h => ?_)
  · obtain ⟨a, xs, n, rfl, _⟩ := h; rfl
  obtain ⟨a, xs, n, rfl, hA, h1, h2, h3, hM, q⟩ := h
  refine ⟨_,
      (Q2.wss_cons (Q2.ws_set (i := 2) sc_entry_by_primes.nd rfl (Or.inl rfl) Q2.we_int Q2.sw_c)
      (Q2.wss_cons (Q2.ws_for PassesOwn.never rfl (Q2.wi_list (Q2.we_cal c_prime_parts (hr.mono (by decide)) rfl (Q2.wa_cons (Q2.v 1) Q2.wa_nil Q2.star_n) Q2.star_n Q2.any0)) (Q2.wg_tup rfl (Q2.wgs_cons (Q2.wg_name (i := 3) sc_entry_by_primes.nd rfl (Or.inl rfl)) (Q2.wgs_cons (Q2.wg_name (i := 4) sc_entry_by_primes.nd rfl (Or.inl rfl)) Q2.wgs_nil)))
        (Q2.wss_one (Q2.ws_set (i := 2) sc_entry_by_primes.nd rfl (Or.inl rfl) (Q2.we_op Q2.op_mulB (Q2.v 2) (Q2.we_ix ix_list (Q2.v 0) (Q2.we_op op_sub (Q2.we_cal c_power (hr.mono (by decide)) rfl (Q2.wa_cons (Q2.v 3) (Q2.wa_cons (Q2.v 4) Q2.wa_nil Q2.star_n) Q2.star_n) Q2.star_n (Q2.anyS Q2.star_n Q2.any0)) Q2.we_int) Q2.ix_b)) Q2.sw_b)) (fun x => Q2.fs_call x))
      (Q2.wss_one (Q2.ws_ret (Q2.v 2))))), ?_⟩
  refine begin_ (σ' := [some (.ref a), some (.int n), none, none, none]) rfl ?_
  try simp only [Q2.W, List.append_nil, decide_eq_true_eq, Bool.not_eq_true', decide_eq_false_iff_not, List.cons_append, List.nil_append, if_true, if_false, Bool.false_eq_true, Bool.not_true, Bool.not_false, not_true_eq_false, not_false_eq_true, true_and]
  refine ⟨n, rfl, h1, by omega, fun r as H1 hS hr0 hr1 hT => ?_⟩
  try simp only [Q2.W, List.append_nil, decide_eq_true_eq, Bool.not_eq_true', decide_eq_false_iff_not, List.cons_append, List.nil_append, if_true, if_false, Bool.false_eq_true, Bool.not_true, Bool.not_false, not_true_eq_false, not_false_eq_true, true_and]
  refine ⟨⟨_, SqL.of hr1⟩, ?_⟩
  refine ForL.of (xs := as.map V.ref) (fun i σ H2 => ∃ (y1 y2 : Option V), σ = [some (.ref a), some (.int n), some (.int (bpL (ent xs) ((ppL n).take i))), y1, y2] ∧ H2 = H1)
    ⟨none, none, rfl, rfl⟩ (fun i σ H2 _ ⟨_, _, _, e⟩ => e ▸ SqL.of hr1) ?_ ?_
  · rintro i v σ H2 hi ⟨y1, y2, rfl, rfl⟩ U hU
    obtain ⟨b, x, rfl, hx, hb⟩ := hT.get hi
    have hxm := List.mem_of_getElem? hx
    obtain ⟨hp, hd, hv⟩ := (mem_ppL h1).mp hxm
    obtain ⟨hw1, hw2⟩ := pw_le h1 hxm
    have hx1 : x.1 ≤ 1000 := Nat.le_trans (Nat.le_of_dvd h1 hd) (by omega)
    have hx3 := ppL_small h1 (by omega) hxm
    refine ⟨b, _, rfl, SqT.of hb, rfl, _, _, rfl, ?_⟩
    try simp only [Q2.W, List.append_nil, decide_eq_true_eq, Bool.not_eq_true', decide_eq_false_iff_not, List.cons_append, List.nil_append, if_true, if_false, Bool.false_eq_true, Bool.not_true, Bool.not_false, not_true_eq_false, not_false_eq_true, true_and]
    refine ⟨_, _, rfl, ?_⟩
    try simp only [Q2.W, List.append_nil, decide_eq_true_eq, Bool.not_eq_true', decide_eq_false_iff_not, List.cons_append, List.nil_append, if_true, if_false, Bool.false_eq_true, Bool.not_true, Bool.not_false, not_true_eq_false, not_false_eq_true, true_and]
    refine ⟨rfl, ?_⟩
    try simp only [Q2.W, List.append_nil, decide_eq_true_eq, Bool.not_eq_true', decide_eq_false_iff_not, List.cons_append, List.nil_append, if_true, if_false, Bool.false_eq_true, Bool.not_true, Bool.not_false, not_true_eq_false, not_false_eq_true, true_and]
    refine ⟨x.1, x.2, rfl, by omega, by omega, ?_⟩
    try simp only [Q2.W, List.append_nil, decide_eq_true_eq, Bool.not_eq_true', decide_eq_false_iff_not, List.cons_append, List.nil_append, if_true, if_false, Bool.false_eq_true, Bool.not_true, Bool.not_false, not_true_eq_false, not_false_eq_true, true_and]
    refine ⟨_, _, hS.seq hA, at_ent hw1 (by omega), ?_⟩
    try simp only [Q2.W, List.append_nil, decide_eq_true_eq, Bool.not_eq_true', decide_eq_false_iff_not, List.cons_append, List.nil_append, if_true, if_false, Bool.false_eq_true, Bool.not_true, Bool.not_false, not_true_eq_false, not_false_eq_true, true_and]
    refine ⟨hM i x hx, hU _ _ ⟨some (.int (x.1 : Nat)), some (.int (x.2 : Nat)), ?_, rfl⟩⟩
    have e : (ppL n).take (i + 1) = (ppL n).take i ++ [x] := by rw [List.take_add_one, hx]; rfl
    rw [e, bpL_append, bpL_one]
  · rintro σ H2 ⟨y1, y2, rfl, rfl⟩
    try simp only [Q2.W, List.append_nil, decide_eq_true_eq, Bool.not_eq_true', decide_eq_false_iff_not, List.cons_append, List.nil_append, if_true, if_false, Bool.false_eq_true, Bool.not_true, Bool.not_false, not_true_eq_false, not_false_eq_true, true_and]
    rw [List.length_map, hT.len, List.take_length]
    exact q H2 hS
theorem ok_gathered_entry (B : Bl mg) (F : Fun K "gathered_entry" "gathered_entry" s_gathered_entry f fd) : FnOk P w K mg base CX 4 f fd ["table", "number"] (spEntry K gth) := by
  refine Q2.okW F sc_gathered_entry (fun vs H Q E h => ?_) (fun cdv A outer s H vs Q E hr h => ?_)
  · obtain ⟨a, xs, n, rfl, _⟩ := h; rfl
  obtain ⟨a, xs, n, rfl, hA, h1, h2, h3, q⟩ := h
  refine ⟨_,
      (Q2.wss_one (Q2.ws_ret (Q2.we_callB (Q2.call_sum rfl) rfl B.b_sum PyProof.Rows.boot_sum (Q2.wa_cons (Q2.we_comp (N := ["table", "number"]) (xs := ["k"]) (sc := defScope s_gathered_entry) rfl (by exact ⟨rfl, rfl, by decide +kernel, by decide +kernel, by decide +kernel, by decide +kernel⟩) rfl (Q2.Seen.of rfl) (Q2.wi_range2 rfl B.b_range (Q2.wa_cons Q2.we_int (Q2.wa_cons (Q2.we_op op_add (Q2.v 1) Q2.we_int) Q2.wa_nil Q2.star_b) Q2.star_c) (Q2.star2 Q2.star_c Q2.star_b) (Q2.star1 Q2.star_b)) (fun _ _ _ _ _ => ⟨Q2.wg_name (i := 2) (show (["table", "number", "k"] : List Str).Nodup by decide +kernel) rfl (Or.inl rfl) (Or.inr rfl), Q2.wts_nil, (Q2.we_ix (Q2.ix_listK (K := K) rfl) (Q2.v 0) (Q2.we_op op_sub (Q2.we_op op_fdiv (Q2.v 1) (Q2.v 2)) Q2.we_int) Q2.ix_b)⟩)) Q2.wa_nil Q2.star_lc) Q2.star_lc Q2.any0))), ?_⟩
  refine begin_ (σ' := [some (.ref a), some (.int n)]) rfl ?_
  try simp only [Q2.W, List.append_nil, decide_eq_true_eq, Bool.not_eq_true', decide_eq_false_iff_not, List.cons_append, List.nil_append, if_true, if_false, Bool.false_eq_true, Bool.not_true, Bool.not_false, not_true_eq_false, not_false_eq_true, true_and]
  refine ⟨⟨by decide, by decide, by omega, by omega⟩, ?_⟩
  rw [show (((n : Nat) : Int) + 1 - 1).toNat = n by omega]
  refine CompR.map (fun k => ent xs (n / k)) (small_len (by omega)) ?_ ?_
  · intro k hk1 hk2 y H1 s1 Ry Rn hy
    try simp only [Q2.W, List.append_nil, decide_eq_true_eq, Bool.not_eq_true', decide_eq_false_iff_not, List.cons_append, List.nil_append, if_true, if_false, Bool.false_eq_true, Bool.not_true, Bool.not_false, not_true_eq_false, not_false_eq_true, true_and]
    refine ⟨⟨by omega, by omega⟩, ?_⟩
    rw [← Int.natCast_ediv]
    have hq := Nat.div_le_self n k
    refine ⟨_, _, s1.seq hA, at_ent (Nat.div_pos hk2 hk1) (by omega), ?_⟩
    exact hy H1 (Same.refl _)
  · intro D H' hD s1 hD'
    try simp only [Q2.W, List.append_nil, decide_eq_true_eq, Bool.not_eq_true', decide_eq_false_iff_not, List.cons_append, List.nil_append, if_true, if_false, Bool.false_eq_true, Bool.not_true, Bool.not_false, not_true_eq_false, not_false_eq_true, true_and]
    refine ⟨_, SqL.of hD', ?_⟩
    rw [sum_tab]
    exact q H' s1
def spUngEntry (K : PySem.W.Frag) : Sp := fun vs H Q _ => ∃ (a b : Addr) (xs : List Int) (n : Nat), vs = [.ref a, .ref b, .int n] ∧ SqL K H a (xs.map V.int) ∧ SqL K H b ((tab xs.length sgn).map V.int) ∧ 1 ≤ n ∧ n ≤ xs.length ∧ xs.length ≤ 1000 ∧ ∀ H', Same H H' → Q (.int (ugt (ent xs) n)) H'
theorem ok_ungathered_entry (B : Bl mg) (F : Fun K "ungathered_entry" "ungathered_entry" s_ungathered_entry f fd) : FnOk P w K mg base CX 4 f fd ["table", "known", "number"] (spUngEntry K) := by
  refine Q2.okW F sc_ungathered_entry (fun vs H Q E h => ?_) (fun cdv A outer s H vs Q E hr h => ?_)
  · obtain ⟨a, b, xs, n, rfl, _⟩ := h; rfl
  obtain ⟨a, b, xs, n, rfl, hA, hB, h1, h2, h3, q⟩ := h
  refine ⟨_,
      (Q2.wss_one (Q2.ws_ret (Q2.we_callB (Q2.call_sum rfl) rfl B.b_sum PyProof.Rows.boot_sum (Q2.wa_cons (Q2.we_comp (N := ["table", "known", "number"]) (xs := ["k"]) (sc := defScope s_ungathered_entry) rfl (by exact ⟨rfl, rfl, by decide +kernel, by decide +kernel, by decide +kernel, by decide +kernel⟩) rfl (Q2.Seen.of rfl) (Q2.wi_range2 rfl B.b_range (Q2.wa_cons Q2.we_int (Q2.wa_cons (Q2.we_op op_add (Q2.v 2) Q2.we_int) Q2.wa_nil Q2.star_b) Q2.star_c) (Q2.star2 Q2.star_c Q2.star_b) (Q2.star1 Q2.star_b)) (fun _ _ _ _ _ => ⟨Q2.wg_name (i := 3) (show (["table", "known", "number", "k"] : List Str).Nodup by decide +kernel) rfl (Or.inl rfl) (Or.inr rfl), Q2.wts_nil, (Q2.we_op op_mul (Q2.we_ix (Q2.ix_listK (K := K) rfl) (Q2.v 1) (Q2.we_op op_sub (Q2.v 3) Q2.we_int) Q2.ix_b) (Q2.we_ix (Q2.ix_listK (K := K) rfl) (Q2.v 0) (Q2.we_op op_sub (Q2.we_op op_fdiv (Q2.v 2) (Q2.v 3)) Q2.we_int) Q2.ix_b))⟩)) Q2.wa_nil Q2.star_lc) Q2.star_lc Q2.any0))), ?_⟩
  refine begin_ (σ' := [some (.ref a), some (.ref b), some (.int n)]) rfl ?_
  try simp only [Q2.W, List.append_nil, decide_eq_true_eq, Bool.not_eq_true', decide_eq_false_iff_not, List.cons_append, List.nil_append, if_true, if_false, Bool.false_eq_true, Bool.not_true, Bool.not_false, not_true_eq_false, not_false_eq_true, true_and]
  refine ⟨⟨by decide, by decide, by omega, by omega⟩, ?_⟩
  rw [show (((n : Nat) : Int) + 1 - 1).toNat = n by omega]
  refine CompR.map (fun k => sgn k * ent xs (n / k)) (small_len (by omega)) ?_ ?_
  · intro k hk1 hk2 y H1 s1 Ry Rn hy
    try simp only [Q2.W, List.append_nil, decide_eq_true_eq, Bool.not_eq_true', decide_eq_false_iff_not, List.cons_append, List.nil_append, if_true, if_false, Bool.false_eq_true, Bool.not_true, Bool.not_false, not_true_eq_false, not_false_eq_true, true_and]
    refine ⟨_, _, s1.seq hB, at_ent hk1 (by rw [tab_len]; omega), ?_⟩
    rw [ent_tab hk1 (by omega)]
    try simp only [Q2.W, List.append_nil, decide_eq_true_eq, Bool.not_eq_true', decide_eq_false_iff_not, List.cons_append, List.nil_append, if_true, if_false, Bool.false_eq_true, Bool.not_true, Bool.not_false, not_true_eq_false, not_false_eq_true, true_and]
    refine ⟨⟨by omega, by omega⟩, ?_⟩
    rw [← Int.natCast_ediv]
    have hq := Nat.div_le_self n k
    refine ⟨_, _, s1.seq hA, at_ent (Nat.div_pos hk2 hk1) (by omega), ?_⟩
    try simp only [Q2.W, List.append_nil, decide_eq_true_eq, Bool.not_eq_true', decide_eq_false_iff_not, List.cons_append, List.nil_append, if_true, if_false, Bool.false_eq_true, Bool.not_true, Bool.not_false, not_true_eq_false, not_false_eq_true, true_and]
    refine ⟨.inl (by have := sgn_small k; omega), ?_⟩
    exact hy H1 (Same.refl _)
  · intro D H' hD s1 hD'
    try simp only [Q2.W, List.append_nil, decide_eq_true_eq, Bool.not_eq_true', decide_eq_false_iff_not, List.cons_append, List.nil_append, if_true, if_false, Bool.false_eq_true, Bool.not_true, Bool.not_false, not_true_eq_false, not_false_eq_true, true_and]
    refine ⟨_, SqL.of hD', ?_⟩
    rw [sum_tab]
    exact q H' s1
/-! #### the promises, refusals included -/
def spCheckE (C : Addr) : Sp := fun vs H Q E => ∃ n : Int, vs = [.int n] ∧ (n < 1 → E (.ref C) none H) ∧ (1 ≤ n → Q .non H)
def spPartsE (C : Addr) : Sp := fun vs H Q E => ∃ z : Int, vs = [.int z] ∧ z ≤ 100000 ∧ (z < 1 → E (.ref C) none H) ∧ ∀ n : Nat, z = n → 1 ≤ n → ∀ r, H r = none → Q (.ref r) (upd H r (.lst (ofN (pU n n))))
def spPrimesE (C : Addr) : Sp := fun vs H Q E => ∃ z : Int, vs = [.int z] ∧ z ≤ 100000 ∧ (z < 1 → E (.ref C) none H) ∧ ∀ n : Nat, z = n → 1 ≤ n → ∀ (r : Addr) (as : List Addr) (H' : Hp), Same H H' → H r = none → H' r = some (.lst (as.map V.ref)) → Tups H' as (ppL n) → Q (.ref r) H'
def spSignE (C : Addr) : Sp := fun vs H Q E => ∃ z : Int, vs = [.int z] ∧ z ≤ 100000 ∧ (z < 1 → E (.ref C) none H) ∧ ∀ n : Nat, z = n → 1 ≤ n → ∀ H', Same H H' → Q (.int (sgn n)) H'
def spNewE (C : Addr) (L : Nat → List Int) : Sp := fun vs H Q E => ∃ z : Int, vs = [.int z] ∧ z ≤ 1000 ∧ (z < 1 → E (.ref C) none H) ∧ ∀ n : Nat, z = n → 1 ≤ n → ∀ (r : Addr) (H' : Hp), Same H H' → H r = none → H' r = some (.lst ((L n).map V.int)) → Q (.ref r) H'
def spCheckTE (K : PySem.W.Frag) (C : Addr) : Sp := fun vs H Q E => ∃ (a : Addr) (xs : List Int), vs = [.ref a] ∧ SqL K H a (xs.map V.int) ∧ (xs = [] → E (.ref C) none H) ∧ (1 ≤ xs.length → Q .non H)
def spTabE (K : PySem.W.Frag) (C : Addr) (g : (Nat → Int) → Nat → Int) : Sp := fun vs H Q E => ∃ (a : Addr) (xs : List Int), vs = [.ref a] ∧ SqL K H a (xs.map V.int) ∧ xs.length ≤ 1000 ∧ (xs = [] → E (.ref C) none H) ∧
  (1 ≤ xs.length → ∀ (r : Addr) (H' : Hp), Same H H' → H r = none → H' r = some (.lst ((tab xs.length (g (ent xs))).map V.int)) → Q (.ref r) H')
theorem ok_checkE {e_BadNumber : Addr} (m_BadNumber : mg "BadNumber" = some (.ref e_BadNumber)) (q_BadNumber : Q2.errIn K e_BadNumber = true) (F : Fun K "check_number" "check_number" s_check_number f fd) : FnOk P w K mg base (CX1 P w) 1 f fd ["number"] (spCheckE e_BadNumber) := by
  refine Q2.okE F sc_check_number (fun vs H Q E h => ?_) (fun cdv A outer s H vs Q E hr h => ?_)
  · obtain ⟨n, rfl, _⟩ := h; rfl
  obtain ⟨n, rfl, hE, hQ⟩ := h
  refine ⟨_,
      (Q2.wss_one (Q2.ws_if (Q2.wt_cmp op_lt (Q2.v 0) Q2.we_int (nomark _))
        (Q2.wss_one (Q2.ws_raise rfl m_BadNumber q_BadNumber (Q2.wa_cons Q2.we_str Q2.wa_nil Q2.star_c) Q2.star_c Q2.any0))
        Q2.wss_nil)), ?_⟩
  refine begin_ (σ' := [some (.int n)]) rfl ?_
  try simp only [Q2.W, List.append_nil, decide_eq_true_eq, Bool.not_eq_true', decide_eq_false_iff_not, List.cons_append, List.nil_append, if_true, if_false, Bool.false_eq_true, Bool.not_true, Bool.not_false, not_true_eq_false, not_false_eq_true, true_and]
  refine ite2 (fun c => ?_) (fun c => ?_)
  · exact ⟨(show 1 ≤ sizeLine by decide), hE c⟩
  · exact hQ (by omega)
theorem ok_checkTE {e_BadTable : Addr} (m_BadTable : mg "BadTable" = some (.ref e_BadTable)) (q_BadTable : Q2.errIn K e_BadTable = true) (B : Bl mg) (F : Fun K "check_table" "check_table" s_check_table f fd) : FnOk P w K mg base (CX1 P w) 1 f fd ["table"] (spCheckTE K e_BadTable) := by
  refine Q2.okE F sc_check_table (fun vs H Q E h => ?_) (fun cdv A outer s H vs Q E hr h => ?_)
  · obtain ⟨a, xs, rfl, _⟩ := h; rfl
  obtain ⟨a, xs, rfl, hA, hE, hQ⟩ := h
  refine ⟨_,
      (Q2.wss_one (Q2.ws_if (Q2.wt_cmp op_eq (Q2.we_callB call_len_seq rfl B.b_len PySem.boot_len (Q2.wa_cons (Q2.v 0) Q2.wa_nil Q2.star_n) Q2.star_n Q2.any0) Q2.we_int (nomark _))
        (Q2.wss_one (Q2.ws_raise rfl m_BadTable q_BadTable (Q2.wa_cons Q2.we_str Q2.wa_nil Q2.star_c) Q2.star_c Q2.any0))
        Q2.wss_nil)), ?_⟩
  refine begin_ (σ' := [some (.ref a)]) rfl ?_
  try simp only [Q2.W, List.append_nil, decide_eq_true_eq, Bool.not_eq_true', decide_eq_false_iff_not, List.cons_append, List.nil_append, if_true, if_false, Bool.false_eq_true, Bool.not_true, Bool.not_false, not_true_eq_false, not_false_eq_true, true_and]
  refine ⟨a, _, rfl, .inl hA, ?_⟩
  try simp only [Q2.W, List.append_nil, decide_eq_true_eq, Bool.not_eq_true', decide_eq_false_iff_not, List.cons_append, List.nil_append, if_true, if_false, Bool.false_eq_true, Bool.not_true, Bool.not_false, not_true_eq_false, not_false_eq_true, true_and]
  rw [List.length_map]
  refine ite2 (fun c => ?_) (fun c => ?_)
  · exact ⟨(show 1 ≤ sizeLine by decide), hE (List.eq_nil_of_length_eq_zero (by omega))⟩
  · exact hQ (by omega)
theorem ok_partsE {e_BadNumber : Addr} (B : Bl mg) (F : Fun K "parts" "parts" s_parts f fd) (c_check_number : Cal P w K mg base (CX1 P w) 1 "check_number" ["number"] (spCheckE e_BadNumber)) : FnOk P w K mg base (CX1 P w) 2 f fd ["number"] (spPartsE e_BadNumber) := by
  refine Q2.okE F sc_parts (fun vs H Q E h => ?_) (fun cdv A outer s H vs Q E hr h => ?_)
  · obtain ⟨n, rfl, _⟩ := h; rfl
  obtain ⟨z, rfl, h2, hE, hQ⟩ := h
  refine ⟨_,
      (Q2.wss_cons (Q2.ws_expr (Q2.we_calE c_check_number (hr.mono (by decide)) rfl Q2.pass1 (Q2.wa_cons (Q2.v 0) Q2.wa_nil Q2.star_n) Q2.star_n Q2.any0))
      (Q2.wss_one (Q2.ws_ret (Q2.we_comp (N := ["number"]) (xs := ["part"]) (sc := defScope s_parts) rfl (by exact ⟨rfl, rfl, by decide +kernel, by decide +kernel, by decide +kernel, by decide +kernel⟩) rfl (Q2.Seen.of rfl) (Q2.wi_range2 rfl B.b_range (Q2.wa_cons Q2.we_int (Q2.wa_cons (Q2.we_op op_add (Q2.v 0) Q2.we_int) Q2.wa_nil Q2.star_b) Q2.star_c) (Q2.star2 Q2.star_c Q2.star_b) (Q2.star1 Q2.star_b)) (fun _ _ _ _ _ => ⟨Q2.wg_name (i := 1) (show (["number", "part"] : List Str).Nodup by decide +kernel) rfl (Or.inl rfl) (Or.inr rfl), Q2.wts_one (Q2.wt_cmp op_eq (Q2.we_op op_mod (Q2.v 0) (Q2.v 1)) Q2.we_int (nomark _)), (Q2.v 1)⟩))))), ?_⟩
  refine begin_ (σ' := [some (.int z)]) rfl ?_
  try simp only [Q2.W, List.append_nil, decide_eq_true_eq, Bool.not_eq_true', decide_eq_false_iff_not, List.cons_append, List.nil_append, if_true, if_false, Bool.false_eq_true, Bool.not_true, Bool.not_false, not_true_eq_false, not_false_eq_true, true_and]
  refine ⟨z, rfl, hE, fun hz => ?_⟩
  obtain ⟨n, rfl⟩ : ∃ n : Nat, z = n := ⟨z.toNat, by omega⟩
  have h1 : 1 ≤ n := by omega
  have h2 : n ≤ 100000 := by omega
  have q := hQ n rfl h1
  try simp only [Q2.W, List.append_nil, decide_eq_true_eq, Bool.not_eq_true', decide_eq_false_iff_not, List.cons_append, List.nil_append, if_true, if_false, Bool.false_eq_true, Bool.not_true, Bool.not_false, not_true_eq_false, not_false_eq_true, true_and]
  refine ⟨⟨by decide, by decide, by omega, by omega⟩, ?_⟩
  refine CompR.of (fun D i σ1 H1 => ∃ y, σ1 = [some (.int n), y] ∧ H1 = upd H D (.lst (ofN (pU n i)))) (fun D hD => ⟨none, rfl, rfl⟩) ?_ ?_
  · rintro D hD i σ1 H1 hi ⟨y, rfl, rfl⟩ U hU
    try simp only [Q2.W, List.append_nil, decide_eq_true_eq, Bool.not_eq_true', decide_eq_false_iff_not, List.cons_append, List.nil_append, if_true, if_false, Bool.false_eq_true, Bool.not_true, Bool.not_false, not_true_eq_false, not_false_eq_true, true_and]
    refine ⟨by omega, ?_⟩
    have hi' : i < n := by omega
    have e1 : (1 : Int) + (i : Nat) = ((i + 1 : Nat) : Int) := by omega
    rw [e1, ← Int.natCast_emod]
    have hz := pU_len n i
    refine ite2 (fun c => ?_) (fun c => ?_)
    · refine ⟨_, upd_same, ?_, hU _ _ ⟨some (.int ((i + 1 : Nat) : Int)), rfl, ?_⟩⟩
      · rw [ofN_len]; exact Nat.lt_of_le_of_lt hz (Nat.lt_of_lt_of_le hi' (Nat.le_trans h2 (by decide)))
      · rw [upd_upd, pU_succ, if_pos (by omega), ofN_append]
        rfl
    · refine hU _ _ ⟨some (.int ((i + 1 : Nat) : Int)), rfl, ?_⟩
      rw [pU_succ, if_neg (by omega), List.append_nil]
  · rintro D hD σ1 H1 ⟨y, rfl, rfl⟩
    have e : ((n : Int) + 1 - 1).toNat = n := by omega
    rw [e]
    exact q D hD
theorem ok_primesE {e_BadNumber : Addr} (B : Bl mg) (F : Fun K "prime_parts" "prime_parts" s_prime_parts f fd) (c_check_number : Cal P w K mg base (CX1 P w) 1 "check_number" ["number"] (spCheckE e_BadNumber)) : FnOk P w K mg base (CX1 P w) 2 f fd ["number"] (spPrimesE e_BadNumber) := by
  refine Q2.okE F sc_prime_parts (fun vs H Q E h => ?_) (fun cdv A outer s H vs Q E hr h => ?_)
  · obtain ⟨n, rfl, _⟩ := h; rfl
  obtain ⟨z, rfl, h2, hE, hQ⟩ := h
  refine ⟨_,
      (Q2.wss_cons (Q2.ws_expr (Q2.we_calE c_check_number (hr.mono (by decide)) rfl Q2.pass1 (Q2.wa_cons (Q2.v 0) Q2.wa_nil Q2.star_n) Q2.star_n Q2.any0))
      (Q2.wss_cons (Q2.ws_set (i := 1) sc_prime_parts.nd rfl (Or.inl rfl) (Q2.we_lst Q2.wa_nil) Q2.sw_l)
      (Q2.wss_cons (Q2.ws_set (i := 2) sc_prime_parts.nd rfl (Or.inl rfl) (Q2.v 0) Q2.sw_n)
      (Q2.wss_cons (Q2.ws_set (i := 3) sc_prime_parts.nd rfl (Or.inl rfl) Q2.we_int Q2.sw_c)
      (Q2.wss_cons (Q2.ws_nox (Q2.ws_while PassesOwn.never (Q2.wt_cmp op_gt (Q2.v 2) Q2.we_int (nomark _))
        (Q2.wss_cons (Q2.ws_set (i := 4) sc_prime_parts.nd rfl (Or.inl rfl) Q2.we_int Q2.sw_c)
        (Q2.wss_cons (Q2.ws_while PassesOwn.never (Q2.wt_cmp op_eq (Q2.we_op op_mod (Q2.v 2) (Q2.v 3)) Q2.we_int (nomark _))
          (Q2.wss_cons (Q2.ws_set (i := 2) sc_prime_parts.nd rfl (Or.inl rfl) (Q2.we_op op_fdiv (Q2.v 2) (Q2.v 3)) Q2.sw_b)
          (Q2.wss_one (Q2.ws_set (i := 4) sc_prime_parts.nd rfl (Or.inl rfl) (Q2.we_op op_add (Q2.v 4) Q2.we_int) Q2.sw_b))))
        (Q2.wss_cons (Q2.ws_if (Q2.wt_cmp op_gt (Q2.v 4) Q2.we_int (nomark _))
          (Q2.wss_one (Q2.ws_expr (Q2.we_bm PySem.F.plainAttrs_list PySem.F.slot_list_append PySem.F.type_list_append mt_append (Q2.v 1) (Q2.wa_cons (Q2.we_tup (Q2.wa_cons (Q2.v 3) (Q2.wa_cons (Q2.v 4) Q2.wa_nil Q2.star_n) Q2.star_n)) Q2.wa_nil Q2.star_t) Q2.star_t Q2.ab_n)))
          Q2.wss_nil)
        (Q2.wss_one (Q2.ws_set (i := 3) sc_prime_parts.nd rfl (Or.inl rfl) (Q2.we_op op_add (Q2.v 3) Q2.we_int) Q2.sw_b)))))))
      (Q2.wss_one (Q2.ws_ret (Q2.v 1)))))))), ?_⟩
  refine begin_ (σ' := [some (.int z), none, none, none, none]) rfl ?_
  try simp only [Q2.W, List.append_nil, decide_eq_true_eq, Bool.not_eq_true', decide_eq_false_iff_not, List.cons_append, List.nil_append, if_true, if_false, Bool.false_eq_true, Bool.not_true, Bool.not_false, not_true_eq_false, not_false_eq_true, true_and]
  refine ⟨z, rfl, hE, fun hz => ?_⟩
  obtain ⟨n, rfl⟩ : ∃ n : Nat, z = n := ⟨z.toNat, by omega⟩
  have h1 : 1 ≤ n := by omega
  have h2 : n ≤ 100000 := by omega
  have q := hQ n rfl h1
  try simp only [Q2.W, List.append_nil, decide_eq_true_eq, Bool.not_eq_true', decide_eq_false_iff_not, List.cons_append, List.nil_append, if_true, if_false, Bool.false_eq_true, Bool.not_true, Bool.not_false, not_true_eq_false, not_false_eq_true, true_and]
  refine ⟨Nat.zero_le _, fun r hr0 => ?_⟩
  try simp only [Q2.W, List.append_nil, decide_eq_true_eq, Bool.not_eq_true', decide_eq_false_iff_not, List.cons_append, List.nil_append, if_true, if_false, Bool.false_eq_true, Bool.not_true, Bool.not_false, not_true_eq_false, not_false_eq_true, true_and]
  refine While.of (fun m σ H1 => ∃ (rest d : Nat) (as : List Addr) (y : Option V), σ = [some (.int n), some (.ref r), some (.int rest), some (.int d), y] ∧ Seek n d rest ∧ Same H H1 ∧ H1 r = some (.lst (as.map V.ref)) ∧ Tups H1 as (pick n d) ∧ m = rest + 1 - d)
    (n + 1 - 2) ⟨n, 2, [], none, rfl, Seek.start h1, upd_new (Same.refl H) hr0, upd_same, by rw [pick_two]; trivial, rfl⟩ ?_
  rintro m σ H1 ⟨rest, d, as, y, rfl, S, hS, hr1, hT, rfl⟩
  try simp only [Q2.W, List.append_nil, decide_eq_true_eq, Bool.not_eq_true', decide_eq_false_iff_not, List.cons_append, List.nil_append, if_true, if_false, Bool.false_eq_true, Bool.not_true, Bool.not_false, not_true_eq_false, not_false_eq_true, true_and]
  have hrn : rest ≤ n := Nat.le_of_dvd h1 S.dvd
  have hd2 := S.d2
  refine ite2 (fun c => ?_) (fun c => ?_)
  · have hle := S.le (by omega)
    refine NextW.of fun U hU => ?_
    try simp only [Q2.W, List.append_nil, decide_eq_true_eq, Bool.not_eq_true', decide_eq_false_iff_not, List.cons_append, List.nil_append, if_true, if_false, Bool.false_eq_true, Bool.not_true, Bool.not_false, not_true_eq_false, not_false_eq_true, true_and]
    refine While.of (fun m σ H2 => ∃ r2 t2 : Nat, σ = [some (.int n), some (.ref r), some (.int r2), some (.int d), some (.int t2)] ∧ H2 = H1 ∧ 1 ≤ r2 ∧ vl d rest = t2 + vl d r2 ∧ st d r2 = st d rest ∧ m = r2)
      rest ⟨rest, 0, rfl, rfl, S.r1, (Nat.zero_add _).symm, rfl, rfl⟩ ?_
    rintro m σ H2 ⟨r2, t2, rfl, rfl, hr2, hv, hst, rfl⟩
    try simp only [Q2.W, List.append_nil, decide_eq_true_eq, Bool.not_eq_true', decide_eq_false_iff_not, List.cons_append, List.nil_append, if_true, if_false, Bool.false_eq_true, Bool.not_true, Bool.not_false, not_true_eq_false, not_false_eq_true, true_and]
    refine ⟨by omega, ?_⟩
    rw [← Int.natCast_emod]
    refine ite2 (fun c2 => ?_) (fun c2 => ?_)
    · have c2' : m % d = 0 := by omega
      refine NextW.of fun U2 hU2 => ?_
      try simp only [Q2.W, List.append_nil, decide_eq_true_eq, Bool.not_eq_true', decide_eq_false_iff_not, List.cons_append, List.nil_append, if_true, if_false, Bool.false_eq_true, Bool.not_true, Bool.not_false, not_true_eq_false, not_false_eq_true, true_and]
      refine ⟨⟨by omega, by omega⟩, ?_⟩
      refine hU2 (m / d) _ _ (quot_lt hd2 hr2) ⟨m / d, t2 + 1, ?_, rfl, quot_pos hd2 hr2 c2', ?_, ?_, rfl⟩
      · rw [← Int.natCast_ediv]
        rfl
      · rw [hv, vl_pos hd2 hr2 c2']; omega
      · rw [← hst, st_pos hd2 hr2 c2']
    · have c2' : m % d ≠ 0 := by omega
      rw [vl_zero c2', Nat.add_zero] at hv
      rw [st_zero c2'] at hst
      subst hst
      try simp only [Q2.W, List.append_nil, decide_eq_true_eq, Bool.not_eq_true', decide_eq_false_iff_not, List.cons_append, List.nil_append, if_true, if_false, Bool.false_eq_true, Bool.not_true, Bool.not_false, not_true_eq_false, not_false_eq_true, true_and]
      have Sn := S.step
      refine ite2 (fun c3 => ?_) (fun c3 => ?_)
      · have hd0 : rest % d = 0 := Classical.byContradiction fun z => by rw [vl_zero z] at hv; omega
        refine ⟨.inl ⟨rfl, _, SqL.of hr1⟩, (show 2 ≤ sizeLine by decide), fun p hp => ?_⟩
        have hpr : r ≠ p := ne_of_none hr1 hp
        refine ⟨_, (by rw [upd_ne hpr]; exact hr1), ?_, ?_⟩
        · have e1 := hT.len
          have e2 : (pick n d).length ≤ d := by
            unfold pick
            rw [List.length_map]
            refine Nat.le_trans (List.length_filter_le _ _) ?_
            rw [List.length_range]
            exact Nat.le_refl _
          rw [List.length_map, e1]
          exact Nat.lt_of_le_of_lt (Nat.le_trans e2 (Nat.le_trans hle (Nat.le_trans hrn h2))) (by decide)
        try simp only [Q2.W, List.append_nil, decide_eq_true_eq, Bool.not_eq_true', decide_eq_false_iff_not, List.cons_append, List.nil_append, if_true, if_false, Bool.false_eq_true, Bool.not_true, Bool.not_false, not_true_eq_false, not_false_eq_true, true_and]
        refine hU (st d rest + 1 - (d + 1)) _ _ ?_ ⟨st d rest, d + 1, as ++ [p], some (.int t2), rfl, Sn, ?_, ?_, ?_, rfl⟩
        · obtain ⟨_, _, e⟩ := st_spec hd2 rest S.r1
          have : st d rest ≤ rest := Nat.le_of_dvd S.r1 ⟨_, by rw [Nat.mul_comm]; exact e⟩
          omega
        · exact upd_new (upd_new hS (hS.free hp)) hr0
        · rw [upd_same, List.map_append]
          rfl
        · rw [S.pick_yes hd0, hv]
          refine Tups.snoc (x := (d, t2)) ?_ (hT.mono fun b xs e => ?_)
          · rw [upd_ne hpr.symm, upd_same]
          · rw [upd_ne (ne_of e hr1 (by intro z; cases z)), upd_ne (ne_of_none e hp)]
            exact e
      · have hd0 : rest % d ≠ 0 := fun z => by rw [vl_pos hd2 S.r1 z] at hv; omega
        refine hU (st d rest + 1 - (d + 1)) _ _ ?_ ⟨st d rest, d + 1, as, some (.int t2), rfl, Sn, hS, hr1, ?_, rfl⟩
        · obtain ⟨_, _, e⟩ := st_spec hd2 rest S.r1
          have : st d rest ≤ rest := Nat.le_of_dvd S.r1 ⟨_, by rw [Nat.mul_comm]; exact e⟩
          omega
        · rw [S.pick_no hd0]
          exact hT
  · try simp only [Q2.W, List.append_nil, decide_eq_true_eq, Bool.not_eq_true', decide_eq_false_iff_not, List.cons_append, List.nil_append, if_true, if_false, Bool.false_eq_true, Bool.not_true, Bool.not_false, not_true_eq_false, not_false_eq_true, true_and]
    have e := S.done (by omega)
    exact q r as H1 hS hr0 hr1 (e ▸ hT)

theorem ok_signE {e_BadNumber : Addr} (F : Fun K "sign" "sign" s_sign f fd) (c_prime_parts : Cal P w K mg base (CX1 P w) 2 "prime_parts" ["number"] (spPrimesE e_BadNumber)) : FnOk P w K mg base (CX1 P w) 3 f fd ["number"] (spSignE e_BadNumber) := by
  refine Q2.okE F sc_sign (fun vs H Q E h => ?_) (fun cdv A outer s H vs Q E hr h => ?_)
  · obtain ⟨n, rfl, _⟩ := h; rfl
  obtain ⟨z, rfl, h2, hE, hQ⟩ := h
  refine ⟨_,
      (Q2.wss_cons (Q2.ws_set (i := 1) sc_sign.nd rfl (Or.inl rfl) Q2.we_int Q2.sw_c)
      (Q2.wss_cons (Q2.ws_forE rfl (Q2.wi_list (Q2.we_calE c_prime_parts (hr.mono (by decide)) rfl Q2.pass1 (Q2.wa_cons (Q2.v 0) Q2.wa_nil Q2.star_n) Q2.star_n Q2.any0)) (Q2.wg_tup rfl (Q2.wgs_cons (Q2.wg_name (i := 2) sc_sign.nd rfl (Or.inl rfl)) (Q2.wgs_cons (Q2.wg_name (i := 3) sc_sign.nd rfl (Or.inl rfl)) Q2.wgs_nil)))
        (Q2.wss_cons (Q2.ws_if (Q2.wt_cmp op_gt (Q2.v 3) Q2.we_int (nomark _))
          (Q2.wss_one (Q2.ws_ret Q2.we_int))
          Q2.wss_nil)
        (Q2.wss_one (Q2.ws_set (i := 1) sc_sign.nd rfl (Or.inl rfl) (Q2.we_un un_neg (Q2.v 1)) Q2.sw_u))) (fun x => Q2.fs_call x))
      (Q2.wss_one (Q2.ws_ret (Q2.v 1))))), ?_⟩
  refine begin_ (σ' := [some (.int z), none, none, none]) rfl ?_
  try simp only [Q2.W, List.append_nil, decide_eq_true_eq, Bool.not_eq_true', decide_eq_false_iff_not, List.cons_append, List.nil_append, if_true, if_false, Bool.false_eq_true, Bool.not_true, Bool.not_false, not_true_eq_false, not_false_eq_true, true_and]
  refine ⟨z, rfl, h2, hE, fun n en h1 r as H1 hS hr0 hr1 hT => ?_⟩
  subst en
  have q := hQ n rfl h1
  try simp only [Q2.W, List.append_nil, decide_eq_true_eq, Bool.not_eq_true', decide_eq_false_iff_not, List.cons_append, List.nil_append, if_true, if_false, Bool.false_eq_true, Bool.not_true, Bool.not_false, not_true_eq_false, not_false_eq_true, true_and]
  refine ⟨⟨_, SqL.of hr1⟩, ?_⟩
  refine ForL.of (xs := as.map V.ref) (fun i σ H2 => ∃ (zz : Int) (y1 y2 : Option V), σ = [some (.int n), some (.int zz), y1, y2] ∧ H2 = H1 ∧ sgn n = zz * sgnL ((ppL n).drop i))
    ⟨1, none, none, rfl, rfl, by rw [List.drop_zero, Int.one_mul]; rfl⟩ (fun i σ H2 _ ⟨_, _, _, _, e, _⟩ => e ▸ SqL.of hr1) ?_ ?_
  · rintro i v σ H2 hi ⟨zz, y1, y2, rfl, rfl, hz⟩ U hU
    obtain ⟨a, x, rfl, hx, ha⟩ := hT.get hi
    have hlt : i < (ppL n).length := (List.getElem?_eq_some_iff.mp hx).1
    have hdr : (ppL n).drop i = x :: (ppL n).drop (i + 1) := by
      rw [List.drop_eq_getElem_cons hlt]
      have := (List.getElem?_eq_some_iff.mp hx).2
      rw [this]
    refine ⟨a, _, rfl, SqT.of ha, rfl, _, _, rfl, ?_⟩
    try simp only [Q2.W, List.append_nil, decide_eq_true_eq, Bool.not_eq_true', decide_eq_false_iff_not, List.cons_append, List.nil_append, if_true, if_false, Bool.false_eq_true, Bool.not_true, Bool.not_false, not_true_eq_false, not_false_eq_true, true_and]
    refine ⟨_, _, rfl, ?_⟩
    try simp only [Q2.W, List.append_nil, decide_eq_true_eq, Bool.not_eq_true', decide_eq_false_iff_not, List.cons_append, List.nil_append, if_true, if_false, Bool.false_eq_true, Bool.not_true, Bool.not_false, not_true_eq_false, not_false_eq_true, true_and]
    refine ⟨rfl, ?_⟩
    try simp only [Q2.W, List.append_nil, decide_eq_true_eq, Bool.not_eq_true', decide_eq_false_iff_not, List.cons_append, List.nil_append, if_true, if_false, Bool.false_eq_true, Bool.not_true, Bool.not_false, not_true_eq_false, not_false_eq_true, true_and]
    rw [hdr, sgnL] at hz
    refine ite2 (fun c => ?_) (fun c => ?_)
    · rw [if_pos (by omega), Int.mul_zero] at hz
      have := q H2 hS
      rwa [hz] at this
    · rw [if_neg (by omega)] at hz
      refine hU _ _ ⟨-zz, _, _, rfl, rfl, ?_⟩
      rw [hz, Int.neg_mul, Int.mul_neg]
  · rintro σ H2 ⟨zz, y1, y2, rfl, rfl, hz⟩
    try simp only [Q2.W, List.append_nil, decide_eq_true_eq, Bool.not_eq_true', decide_eq_false_iff_not, List.cons_append, List.nil_append, if_true, if_false, Bool.false_eq_true, Bool.not_true, Bool.not_false, not_true_eq_false, not_false_eq_true, true_and]
    rw [List.length_map, hT.len, List.drop_length, sgnL, Int.mul_one] at hz
    have := q H2 hS
    rwa [hz] at this
theorem ok_signsE {e_BadNumber : Addr} (B : Bl mg) (F : Fun K "signs" "signs" s_signs f fd) (c_check_number : Cal P w K mg base (CX1 P w) 1 "check_number" ["number"] (spCheckE e_BadNumber)) (c_sign : Cal P w K mg base (CX1 P w) 3 "sign" ["number"] spSign) : FnOk P w K mg base (CX1 P w) 7 f fd ["size"] (spNewE e_BadNumber fun n => tab n sgn) := by
  refine Q2.okE F sc_signs (fun vs H Q E h => ?_) (fun cdv A outer s H vs Q E hr h => ?_)
  · obtain ⟨n, rfl, _⟩ := h; rfl
  obtain ⟨z, rfl, h2, hE, hQ⟩ := h
  refine ⟨_,
      (Q2.wss_cons (Q2.ws_expr (Q2.we_calE c_check_number (hr.mono (by decide)) rfl Q2.pass1 (Q2.wa_cons (Q2.v 0) Q2.wa_nil Q2.star_n) Q2.star_n Q2.any0))
      (Q2.wss_one (Q2.ws_ret (Q2.we_comp (N := ["size"]) (xs := ["number"]) (sc := defScope s_signs) rfl (by exact ⟨rfl, rfl, by decide +kernel, by decide +kernel, by decide +kernel, by decide +kernel⟩) rfl (Q2.Seen.of rfl) (Q2.wi_range2 rfl B.b_range (Q2.wa_cons Q2.we_int (Q2.wa_cons (Q2.we_op op_add (Q2.v 0) Q2.we_int) Q2.wa_nil Q2.star_b) Q2.star_c) (Q2.star2 Q2.star_c Q2.star_b) (Q2.star1 Q2.star_b)) (fun _ _ _ _ _ => ⟨Q2.wg_name (i := 1) (show (["size", "number"] : List Str).Nodup by decide +kernel) rfl (Or.inl rfl) (Or.inr rfl), Q2.wts_nil, (Q2.we_cal c_sign (hr.mono (by decide)) rfl (Q2.wa_cons (Q2.v 1) Q2.wa_nil Q2.star_n) Q2.star_n Q2.any0)⟩))))), ?_⟩
  refine begin_ (σ' := [some (.int z)]) rfl ?_
  try simp only [Q2.W, List.append_nil, decide_eq_true_eq, Bool.not_eq_true', decide_eq_false_iff_not, List.cons_append, List.nil_append, if_true, if_false, Bool.false_eq_true, Bool.not_true, Bool.not_false, not_true_eq_false, not_false_eq_true, true_and]
  refine ⟨z, rfl, hE, fun hz => ?_⟩
  obtain ⟨n, rfl⟩ : ∃ n : Nat, z = n := ⟨z.toNat, by omega⟩
  have h1 : 1 ≤ n := by omega
  have h2 : n ≤ 1000 := by omega
  have q := hQ n rfl h1
  try simp only [Q2.W, List.append_nil, decide_eq_true_eq, Bool.not_eq_true', decide_eq_false_iff_not, List.cons_append, List.nil_append, if_true, if_false, Bool.false_eq_true, Bool.not_true, Bool.not_false, not_true_eq_false, not_false_eq_true, true_and]
  refine ⟨⟨by decide, by decide, by omega, by omega⟩, ?_⟩
  rw [show (((n : Nat) : Int) + 1 - 1).toNat = n by omega]
  refine CompR.map sgn (small_len (by omega)) ?_ (fun D H' hD s1 h1 => q D H' s1 hD h1)
  intro k hk1 hk2 y H1 s1 Ry Rn hy
  try simp only [Q2.W, List.append_nil, decide_eq_true_eq, Bool.not_eq_true', decide_eq_false_iff_not, List.cons_append, List.nil_append, if_true, if_false, Bool.false_eq_true, Bool.not_true, Bool.not_false, not_true_eq_false, not_false_eq_true, true_and]
  refine ⟨k, rfl, hk1, by omega, fun H2 s2 => ?_⟩
  exact hy H2 s2
theorem ok_unitE {e_BadNumber : Addr} (F : Fun K "unit" "unit" s_unit f fd) (c_check_number : Cal P w K mg base (CX1 P w) 1 "check_number" ["number"] (spCheckE e_BadNumber)) : FnOk P w K mg base (CX1 P w) 8 f fd ["size"] (spNewE e_BadNumber fun n => 1 :: List.replicate (n - 1) 0) := by
  refine Q2.okE F sc_unit (fun vs H Q E h => ?_) (fun cdv A outer s H vs Q E hr h => ?_)
  · obtain ⟨n, rfl, _⟩ := h; rfl
  obtain ⟨z, rfl, h2, hE, hQ⟩ := h
  refine ⟨_,
      (Q2.wss_cons (Q2.ws_expr (Q2.we_calE c_check_number (hr.mono (by decide)) rfl Q2.pass1 (Q2.wa_cons (Q2.v 0) Q2.wa_nil Q2.star_n) Q2.star_n Q2.any0))
      (Q2.wss_one (Q2.ws_ret (Q2.we_op op_cat (Q2.we_lst (Q2.wa_cons Q2.we_int Q2.wa_nil Q2.star_c)) (Q2.we_op op_rep (Q2.we_lst (Q2.wa_cons Q2.we_int Q2.wa_nil Q2.star_c)) (Q2.we_op op_sub (Q2.v 0) Q2.we_int)))))), ?_⟩
  refine begin_ (σ' := [some (.int z)]) rfl ?_
  try simp only [Q2.W, List.append_nil, decide_eq_true_eq, Bool.not_eq_true', decide_eq_false_iff_not, List.cons_append, List.nil_append, if_true, if_false, Bool.false_eq_true, Bool.not_true, Bool.not_false, not_true_eq_false, not_false_eq_true, true_and]
  refine ⟨z, rfl, hE, fun hz => ?_⟩
  obtain ⟨n, rfl⟩ : ∃ n : Nat, z = n := ⟨z.toNat, by omega⟩
  have h1 : 1 ≤ n := by omega
  have h2 : n ≤ 1000 := by omega
  have q := hQ n rfl h1
  try simp only [Q2.W, List.append_nil, decide_eq_true_eq, Bool.not_eq_true', decide_eq_false_iff_not, List.cons_append, List.nil_append, if_true, if_false, Bool.false_eq_true, Bool.not_true, Bool.not_false, not_true_eq_false, not_false_eq_true, true_and]
  refine ⟨(show 1 ≤ sizeLine by decide), fun p1 hp1 => ⟨(show 1 ≤ sizeLine by decide), fun p2 hp2 => ?_⟩⟩
  have e1 : ((n : Nat) : Int) - 1 = ((n - 1 : Nat) : Int) := by omega
  rw [e1]
  refine ⟨_, upd_same, by omega, by omega, ?_, fun p3 hp3 => ?_⟩
  · rw [Int.toNat_natCast]
    exact Nat.le_of_lt (small_len (by show 1 * (n - 1) ≤ 100000; omega))
  have s1 := upd_new (Same.refl H) hp1 (o := .lst [.int 1])
  have s2 := upd_free s1 hp2 (o := .lst [.int 0])
  have s3 := upd_free s2 hp3 (o := .lst (List.replicate (n - 1) (V.int 0)))
  rw [Int.toNat_natCast, List.flatten_replicate_singleton]
  have n12 : p1 ≠ p2 := ne_of_none upd_same hp2
  have n13 : p1 ≠ p3 := ne_of_none (show upd (upd H p1 (.lst [.int 1])) p2 (.lst [.int 0]) p1 = some (.lst [.int 1]) by rw [upd_ne n12, upd_same]) hp3
  refine ⟨[.int 1], List.replicate (n - 1) (V.int 0), ?_, upd_same, ?_, fun r hr0 => ?_⟩
  · rw [upd_ne n13, upd_ne n12, upd_same]
  · rw [List.length_replicate]
    exact Nat.le_of_lt (small_len (by show 1 + (n - 1) ≤ 100000; omega))
  · refine q r _ (upd_free s3 hr0) (s3.free hr0) ?_
    rw [upd_same, List.map_cons, List.map_replicate]
    rfl
theorem ok_strangeE {e_BadNumber e_BadTable : Addr} (B : Bl mg) (F : Fun K "strange" "strange" s_strange f fd) (c_check_number : Cal P w K mg base (CX1 P w) 1 "check_number" ["number"] (spCheckE e_BadNumber)) (c_taken_back : Cal P w K mg base (CX1 P w) 8 "taken_back" ["table"] (spTabE K e_BadTable (cv sgn))) :
    FnOk P w K mg base (CX1 P w) 9 f fd ["size"] (spNewE e_BadNumber fun n => tab n (cv sgn idn)) := by
  refine Q2.okE F sc_strange (fun vs H Q E h => ?_) (fun cdv A outer s H vs Q E hr h => ?_)
  · obtain ⟨n, rfl, _⟩ := h; rfl
  obtain ⟨z, rfl, h2, hE, hQ⟩ := h
  refine ⟨_,
      (Q2.wss_cons (Q2.ws_expr (Q2.we_calE c_check_number (hr.mono (by decide)) rfl Q2.pass1 (Q2.wa_cons (Q2.v 0) Q2.wa_nil Q2.star_n) Q2.star_n Q2.any0))
      (Q2.wss_one (Q2.ws_ret (Q2.we_calE c_taken_back (hr.mono (by decide)) rfl Q2.pass1 (Q2.wa_cons (Q2.we_callTy (Q2.call_list_rng rfl) rfl B.b_list PyProof.Rows.boot_list (Q2.wa_cons (Q2.we_callTy Q2.call_rng rfl B.b_range PyProof.Rows.boot_range (Q2.wa_cons Q2.we_int (Q2.wa_cons (Q2.we_op op_add (Q2.v 0) Q2.we_int) Q2.wa_nil Q2.star_b) Q2.star_c) Q2.star_c (Q2.anyS Q2.star_b Q2.any0)) Q2.wa_nil Q2.star_call) Q2.star_call Q2.any0) Q2.wa_nil Q2.star_call) Q2.star_call Q2.any0)))), ?_⟩
  refine begin_ (σ' := [some (.int z)]) rfl ?_
  try simp only [Q2.W, List.append_nil, decide_eq_true_eq, Bool.not_eq_true', decide_eq_false_iff_not, List.cons_append, List.nil_append, if_true, if_false, Bool.false_eq_true, Bool.not_true, Bool.not_false, not_true_eq_false, not_false_eq_true, true_and]
  refine ⟨z, rfl, hE, fun hz => ?_⟩
  obtain ⟨n, rfl⟩ : ∃ n : Nat, z = n := ⟨z.toNat, by omega⟩
  have h1 : 1 ≤ n := by omega
  have h2 : n ≤ 1000 := by omega
  have q := hQ n rfl h1
  try simp only [Q2.W, List.append_nil, decide_eq_true_eq, Bool.not_eq_true', decide_eq_false_iff_not, List.cons_append, List.nil_append, if_true, if_false, Bool.false_eq_true, Bool.not_true, Bool.not_false, not_true_eq_false, not_false_eq_true, true_and]
  intro p hp
  refine ⟨_, _, upd_same, ⟨by decide, by omega, by omega⟩, fun l hl => ?_⟩
  have e : (List.range (((n : Nat) : Int) + 1 - 1).toNat).map (fun k => V.int (1 + (k : Nat))) = (tab n idn).map V.int := by
    rw [show (((n : Nat) : Int) + 1 - 1).toNat = n by omega]
    unfold tab
    rw [List.map_map]
    refine List.map_congr_left fun i _ => ?_
    show V.int (1 + (i : Nat)) = V.int ((i + 1 : Nat) : Int)
    rw [Int.add_comm]
    rfl
  rw [e]
  have s0 := upd_free (upd_new (Same.refl H) hp (o := .rng 1 (((n : Nat) : Int) + 1))) hl (o := .lst ((tab n idn).map V.int))
  refine ⟨l, tab n idn, rfl, SqL.of upd_same, by rw [tab_len]; omega, fun z => by have z' := congrArg List.length z; rw [tab_len] at z'; exact absurd z' (by show ¬ n = 0; omega), fun _ r H' s1 hr0 hr1 => ?_⟩
  refine q r H' (fun b u e => s1 b u (s0 b u e)) (s0.free hr0) ?_
  rw [hr1, tab_len]
  congr 3
  exact tab_congr fun i h3 h4 => cv_congr (fun _ _ _ => rfl) fun j h5 h6 => ent_tab h5 (by omega)
theorem ok_summedE {e_BadTable : Addr} (B : Bl mg) (F : Fun K "summed" "summed" s_summed f fd) (c_check_table : Cal P w K mg base (CX1 P w) 1 "check_table" ["table"] (spCheckTE K e_BadTable)) (c_summed_entry : Cal P w K mg base (CX1 P w) 4 "summed_entry" ["table", "number"] (spEntry K (cv one1))) :
    FnOk P w K mg base (CX1 P w) 8 f fd ["table"] (spTabE K e_BadTable (cv one1)) := by
  refine Q2.okE F sc_summed (fun vs H Q E h => ?_) (fun cdv A outer s H vs Q E hr h => ?_)
  · obtain ⟨a, xs, rfl, _⟩ := h; rfl
  obtain ⟨a, xs, rfl, hA, h2, hE, hQ⟩ := h
  refine ⟨_,
      (Q2.wss_cons (Q2.ws_expr (Q2.we_calE c_check_table (hr.mono (by decide)) rfl Q2.pass1 (Q2.wa_cons (Q2.v 0) Q2.wa_nil Q2.star_n) Q2.star_n Q2.any0))
      (Q2.wss_one (Q2.ws_ret (Q2.we_comp (N := ["table"]) (xs := ["number"]) (sc := defScope s_summed) rfl (by exact ⟨rfl, rfl, by decide +kernel, by decide +kernel, by decide +kernel, by decide +kernel⟩) rfl (Q2.Seen.of rfl) (Q2.wi_range2 rfl B.b_range (Q2.wa_cons Q2.we_int (Q2.wa_cons (Q2.we_op op_add (Q2.we_callB call_len_seq rfl B.b_len PySem.boot_len (Q2.wa_cons (Q2.v 0) Q2.wa_nil Q2.star_n) Q2.star_n Q2.any0) Q2.we_int) Q2.wa_nil Q2.star_b) Q2.star_c) (Q2.star2 Q2.star_c Q2.star_b) (Q2.star1 Q2.star_b)) (fun _ _ _ _ _ => ⟨Q2.wg_name (i := 1) (show (["table", "number"] : List Str).Nodup by decide +kernel) rfl (Or.inl rfl) (Or.inr rfl), Q2.wts_nil, (Q2.we_cal c_summed_entry (hr.mono (by decide)) rfl (Q2.wa_cons (Q2.v 0) (Q2.wa_cons (Q2.v 1) Q2.wa_nil Q2.star_n) Q2.star_n) Q2.star_n (Q2.anyS Q2.star_n Q2.any0))⟩))))), ?_⟩
  refine begin_ (σ' := [some (.ref a)]) rfl ?_
  try simp only [Q2.W, List.append_nil, decide_eq_true_eq, Bool.not_eq_true', decide_eq_false_iff_not, List.cons_append, List.nil_append, if_true, if_false, Bool.false_eq_true, Bool.not_true, Bool.not_false, not_true_eq_false, not_false_eq_true, true_and]
  refine ⟨a, xs, rfl, hA, hE, fun h1 => ?_⟩
  have q := hQ h1
  try simp only [Q2.W, List.append_nil, decide_eq_true_eq, Bool.not_eq_true', decide_eq_false_iff_not, List.cons_append, List.nil_append, if_true, if_false, Bool.false_eq_true, Bool.not_true, Bool.not_false, not_true_eq_false, not_false_eq_true, true_and]
  refine ⟨a, _, rfl, .inl hA, ?_⟩
  try simp only [Q2.W, List.append_nil, decide_eq_true_eq, Bool.not_eq_true', decide_eq_false_iff_not, List.cons_append, List.nil_append, if_true, if_false, Bool.false_eq_true, Bool.not_true, Bool.not_false, not_true_eq_false, not_false_eq_true, true_and]
  rw [List.length_map]
  refine ⟨⟨by decide, by decide, by omega, by omega⟩, ?_⟩
  rw [show (((xs.length : Nat) : Int) + 1 - 1).toNat = xs.length by omega]
  refine CompR.map (cv one1 (ent xs)) (small_len (by omega)) ?_ (fun D H' hD s1 h1 => q D H' s1 hD h1)
  intro k hk1 hk2 y H1 s1 Ry Rn hy
  try simp only [Q2.W, List.append_nil, decide_eq_true_eq, Bool.not_eq_true', decide_eq_false_iff_not, List.cons_append, List.nil_append, if_true, if_false, Bool.false_eq_true, Bool.not_true, Bool.not_false, not_true_eq_false, not_false_eq_true, true_and]
  refine ⟨a, xs, k, rfl, s1.seq hA, hk1, hk2, h2, fun H2 s2 => ?_⟩
  exact hy H2 s2
theorem ok_taken_backE {e_BadTable : Addr} (B : Bl mg) (F : Fun K "taken_back" "taken_back" s_taken_back f fd) (c_check_table : Cal P w K mg base (CX1 P w) 1 "check_table" ["table"] (spCheckTE K e_BadTable)) (c_taken_back_entry : Cal P w K mg base (CX1 P w) 4 "taken_back_entry" ["table", "number"] (spEntry K (cv sgn))) :
    FnOk P w K mg base (CX1 P w) 8 f fd ["table"] (spTabE K e_BadTable (cv sgn)) := by
  refine Q2.okE F sc_taken_back (fun vs H Q E h => ?_) (fun cdv A outer s H vs Q E hr h => ?_)
  · obtain ⟨a, xs, rfl, _⟩ := h; rfl
  obtain ⟨a, xs, rfl, hA, h2, hE, hQ⟩ := h
  refine ⟨_,
      (Q2.wss_cons (Q2.ws_expr (Q2.we_calE c_check_table (hr.mono (by decide)) rfl Q2.pass1 (Q2.wa_cons (Q2.v 0) Q2.wa_nil Q2.star_n) Q2.star_n Q2.any0))
      (Q2.wss_one (Q2.ws_ret (Q2.we_comp (N := ["table"]) (xs := ["number"]) (sc := defScope s_taken_back) rfl (by exact ⟨rfl, rfl, by decide +kernel, by decide +kernel, by decide +kernel, by decide +kernel⟩) rfl (Q2.Seen.of rfl) (Q2.wi_range2 rfl B.b_range (Q2.wa_cons Q2.we_int (Q2.wa_cons (Q2.we_op op_add (Q2.we_callB call_len_seq rfl B.b_len PySem.boot_len (Q2.wa_cons (Q2.v 0) Q2.wa_nil Q2.star_n) Q2.star_n Q2.any0) Q2.we_int) Q2.wa_nil Q2.star_b) Q2.star_c) (Q2.star2 Q2.star_c Q2.star_b) (Q2.star1 Q2.star_b)) (fun _ _ _ _ _ => ⟨Q2.wg_name (i := 1) (show (["table", "number"] : List Str).Nodup by decide +kernel) rfl (Or.inl rfl) (Or.inr rfl), Q2.wts_nil, (Q2.we_cal c_taken_back_entry (hr.mono (by decide)) rfl (Q2.wa_cons (Q2.v 0) (Q2.wa_cons (Q2.v 1) Q2.wa_nil Q2.star_n) Q2.star_n) Q2.star_n (Q2.anyS Q2.star_n Q2.any0))⟩))))), ?_⟩
  refine begin_ (σ' := [some (.ref a)]) rfl ?_
  try simp only [Q2.W, List.append_nil, decide_eq_true_eq, Bool.not_eq_true', decide_eq_false_iff_not, List.cons_append, List.nil_append, if_true, if_false, Bool.false_eq_true, Bool.not_true, Bool.not_false, not_true_eq_false, not_false_eq_true, true_and]
  refine ⟨a, xs, rfl, hA, hE, fun h1 => ?_⟩
  have q := hQ h1
  try simp only [Q2.W, List.append_nil, decide_eq_true_eq, Bool.not_eq_true', decide_eq_false_iff_not, List.cons_append, List.nil_append, if_true, if_false, Bool.false_eq_true, Bool.not_true, Bool.not_false, not_true_eq_false, not_false_eq_true, true_and]
  refine ⟨a, _, rfl, .inl hA, ?_⟩
  try simp only [Q2.W, List.append_nil, decide_eq_true_eq, Bool.not_eq_true', decide_eq_false_iff_not, List.cons_append, List.nil_append, if_true, if_false, Bool.false_eq_true, Bool.not_true, Bool.not_false, not_true_eq_false, not_false_eq_true, true_and]
  rw [List.length_map]
  refine ⟨⟨by decide, by decide, by omega, by omega⟩, ?_⟩
  rw [show (((xs.length : Nat) : Int) + 1 - 1).toNat = xs.length by omega]
  refine CompR.map (cv sgn (ent xs)) (small_len (by omega)) ?_ (fun D H' hD s1 h1 => q D H' s1 hD h1)
  intro k hk1 hk2 y H1 s1 Ry Rn hy
  try simp only [Q2.W, List.append_nil, decide_eq_true_eq, Bool.not_eq_true', decide_eq_false_iff_not, List.cons_append, List.nil_append, if_true, if_false, Bool.false_eq_true, Bool.not_true, Bool.not_false, not_true_eq_false, not_false_eq_true, true_and]
  refine ⟨a, xs, k, rfl, s1.seq hA, hk1, hk2, h2, fun H2 s2 => ?_⟩
  exact hy H2 s2
theorem ok_gatheredE {e_BadTable : Addr} (B : Bl mg) (F : Fun K "gathered" "gathered" s_gathered f fd) (c_check_table : Cal P w K mg base (CX1 P w) 1 "check_table" ["table"] (spCheckTE K e_BadTable)) (c_gathered_entry : Cal P w K mg base (CX1 P w) 4 "gathered_entry" ["table", "number"] (spEntry K gth)) :
    FnOk P w K mg base (CX1 P w) 8 f fd ["table"] (spTabE K e_BadTable gth) := by
  refine Q2.okE F sc_gathered (fun vs H Q E h => ?_) (fun cdv A outer s H vs Q E hr h => ?_)
  · obtain ⟨a, xs, rfl, _⟩ := h; rfl
  obtain ⟨a, xs, rfl, hA, h2, hE, hQ⟩ := h
  refine ⟨_,
      (Q2.wss_cons (Q2.ws_expr (Q2.we_calE c_check_table (hr.mono (by decide)) rfl Q2.pass1 (Q2.wa_cons (Q2.v 0) Q2.wa_nil Q2.star_n) Q2.star_n Q2.any0))
      (Q2.wss_one (Q2.ws_ret (Q2.we_comp (N := ["table"]) (xs := ["number"]) (sc := defScope s_gathered) rfl (by exact ⟨rfl, rfl, by decide +kernel, by decide +kernel, by decide +kernel, by decide +kernel⟩) rfl (Q2.Seen.of rfl) (Q2.wi_range2 rfl B.b_range (Q2.wa_cons Q2.we_int (Q2.wa_cons (Q2.we_op op_add (Q2.we_callB call_len_seq rfl B.b_len PySem.boot_len (Q2.wa_cons (Q2.v 0) Q2.wa_nil Q2.star_n) Q2.star_n Q2.any0) Q2.we_int) Q2.wa_nil Q2.star_b) Q2.star_c) (Q2.star2 Q2.star_c Q2.star_b) (Q2.star1 Q2.star_b)) (fun _ _ _ _ _ => ⟨Q2.wg_name (i := 1) (show (["table", "number"] : List Str).Nodup by decide +kernel) rfl (Or.inl rfl) (Or.inr rfl), Q2.wts_nil, (Q2.we_cal c_gathered_entry (hr.mono (by decide)) rfl (Q2.wa_cons (Q2.v 0) (Q2.wa_cons (Q2.v 1) Q2.wa_nil Q2.star_n) Q2.star_n) Q2.star_n (Q2.anyS Q2.star_n Q2.any0))⟩))))), ?_⟩
  refine begin_ (σ' := [some (.ref a)]) rfl ?_
  try simp only [Q2.W, List.append_nil, decide_eq_true_eq, Bool.not_eq_true', decide_eq_false_iff_not, List.cons_append, List.nil_append, if_true, if_false, Bool.false_eq_true, Bool.not_true, Bool.not_false, not_true_eq_false, not_false_eq_true, true_and]
  refine ⟨a, xs, rfl, hA, hE, fun h1 => ?_⟩
  have q := hQ h1
  try simp only [Q2.W, List.append_nil, decide_eq_true_eq, Bool.not_eq_true', decide_eq_false_iff_not, List.cons_append, List.nil_append, if_true, if_false, Bool.false_eq_true, Bool.not_true, Bool.not_false, not_true_eq_false, not_false_eq_true, true_and]
  refine ⟨a, _, rfl, .inl hA, ?_⟩
  try simp only [Q2.W, List.append_nil, decide_eq_true_eq, Bool.not_eq_true', decide_eq_false_iff_not, List.cons_append, List.nil_append, if_true, if_false, Bool.false_eq_true, Bool.not_true, Bool.not_false, not_true_eq_false, not_false_eq_true, true_and]
  rw [List.length_map]
  refine ⟨⟨by decide, by decide, by omega, by omega⟩, ?_⟩
  rw [show (((xs.length : Nat) : Int) + 1 - 1).toNat = xs.length by omega]
  refine CompR.map (gth (ent xs)) (small_len (by omega)) ?_ (fun D H' hD s1 h1 => q D H' s1 hD h1)
  intro k hk1 hk2 y H1 s1 Ry Rn hy
  try simp only [Q2.W, List.append_nil, decide_eq_true_eq, Bool.not_eq_true', decide_eq_false_iff_not, List.cons_append, List.nil_append, if_true, if_false, Bool.false_eq_true, Bool.not_true, Bool.not_false, not_true_eq_false, not_false_eq_true, true_and]
  refine ⟨a, xs, k, rfl, s1.seq hA, hk1, hk2, h2, fun H2 s2 => ?_⟩
  exact hy H2 s2
theorem ok_ungatheredE {e_BadTable e_BadNumber : Addr} (B : Bl mg) (F : Fun K "ungathered" "ungathered" s_ungathered f fd) (c_check_table : Cal P w K mg base (CX1 P w) 1 "check_table" ["table"] (spCheckTE K e_BadTable)) (c_signs : Cal P w K mg base (CX1 P w) 7 "signs" ["size"] (spNewE e_BadNumber fun n => tab n sgn))
    (c_ungathered_entry : Cal P w K mg base (CX1 P w) 4 "ungathered_entry" ["table", "known", "number"] (spUngEntry K)) : FnOk P w K mg base (CX1 P w) 8 f fd ["table"] (spTabE K e_BadTable ugt) := by
  refine Q2.okE F sc_ungathered (fun vs H Q E h => ?_) (fun cdv A outer s H vs Q E hr h => ?_)
  · obtain ⟨a, xs, rfl, _⟩ := h; rfl
  obtain ⟨a, xs, rfl, hA, h2, hE, hQ⟩ := h
  refine ⟨_,
      (Q2.wss_cons (Q2.ws_expr (Q2.we_calE c_check_table (hr.mono (by decide)) rfl Q2.pass1 (Q2.wa_cons (Q2.v 0) Q2.wa_nil Q2.star_n) Q2.star_n Q2.any0))
      (Q2.wss_cons (Q2.ws_set (i := 1) sc_ungathered.nd rfl (Or.inr rfl) (Q2.we_calE c_signs (hr.mono (by decide)) rfl Q2.pass1 (Q2.wa_cons (Q2.we_callB call_len_seq rfl B.b_len PySem.boot_len (Q2.wa_cons (Q2.v 0) Q2.wa_nil Q2.star_n) Q2.star_n Q2.any0) Q2.wa_nil Q2.star_call) Q2.star_call Q2.any0) Q2.sw_call)
      (Q2.wss_one (Q2.ws_ret (Q2.we_comp (N := ["table", "known"]) (xs := ["number"]) (sc := defScope s_ungathered) rfl (by exact ⟨rfl, rfl, by decide +kernel, by decide +kernel, by decide +kernel, by decide +kernel⟩) rfl (Q2.Seen.of rfl) (Q2.wi_range2 rfl B.b_range (Q2.wa_cons Q2.we_int (Q2.wa_cons (Q2.we_op op_add (Q2.we_callB call_len_seq rfl B.b_len PySem.boot_len (Q2.wa_cons (Q2.v 0) Q2.wa_nil Q2.star_n) Q2.star_n Q2.any0) Q2.we_int) Q2.wa_nil Q2.star_b) Q2.star_c) (Q2.star2 Q2.star_c Q2.star_b) (Q2.star1 Q2.star_b)) (fun _ _ _ _ _ => ⟨Q2.wg_name (i := 2) (show (["table", "known", "number"] : List Str).Nodup by decide +kernel) rfl (Or.inl rfl) (Or.inr rfl), Q2.wts_nil, (Q2.we_cal c_ungathered_entry (hr.mono (by decide)) rfl (Q2.wa_cons (Q2.v 0) (Q2.wa_cons (Q2.v 1) (Q2.wa_cons (Q2.v 2) Q2.wa_nil Q2.star_n) Q2.star_n) Q2.star_n) Q2.star_n (Q2.anyS Q2.star_n (Q2.anyS Q2.star_n Q2.any0)))⟩)))))), ?_⟩
  refine begin_ (σ' := [some (.ref a), none]) rfl ?_
  try simp only [Q2.W, List.append_nil, decide_eq_true_eq, Bool.not_eq_true', decide_eq_false_iff_not, List.cons_append, List.nil_append, if_true, if_false, Bool.false_eq_true, Bool.not_true, Bool.not_false, not_true_eq_false, not_false_eq_true, true_and]
  refine ⟨a, xs, rfl, hA, hE, fun h1 => ?_⟩
  have q := hQ h1
  try simp only [Q2.W, List.append_nil, decide_eq_true_eq, Bool.not_eq_true', decide_eq_false_iff_not, List.cons_append, List.nil_append, if_true, if_false, Bool.false_eq_true, Bool.not_true, Bool.not_false, not_true_eq_false, not_false_eq_true, true_and]
  refine ⟨a, _, rfl, .inl hA, ?_⟩
  try simp only [Q2.W, List.append_nil, decide_eq_true_eq, Bool.not_eq_true', decide_eq_false_iff_not, List.cons_append, List.nil_append, if_true, if_false, Bool.false_eq_true, Bool.not_true, Bool.not_false, not_true_eq_false, not_false_eq_true, true_and]
  rw [List.length_map]
  refine ⟨_, rfl, by omega, fun z => by omega, fun n en _ r H0 s0 hr0 hr1 => ?_⟩
  have en : n = xs.length := by omega
  subst en
  try simp only [Q2.W, List.append_nil, decide_eq_true_eq, Bool.not_eq_true', decide_eq_false_iff_not, List.cons_append, List.nil_append, if_true, if_false, Bool.false_eq_true, Bool.not_true, Bool.not_false, not_true_eq_false, not_false_eq_true, true_and]
  refine ⟨a, _, rfl, .inl (s0.seq hA), ?_⟩
  try simp only [Q2.W, List.append_nil, decide_eq_true_eq, Bool.not_eq_true', decide_eq_false_iff_not, List.cons_append, List.nil_append, if_true, if_false, Bool.false_eq_true, Bool.not_true, Bool.not_false, not_true_eq_false, not_false_eq_true, true_and]
  rw [List.length_map]
  refine ⟨⟨by decide, by decide, by omega, by omega⟩, ?_⟩
  rw [show (((xs.length : Nat) : Int) + 1 - 1).toNat = xs.length by omega]
  refine CompR.map (ugt (ent xs)) (small_len (by omega)) ?_ (fun D H' hD s1 h1 => q D H' (fun b u e => s1 b u (s0 b u e)) (s0.free hD) h1)
  intro k hk1 hk2 y H1 s1 Ry Rn hy
  try simp only [Q2.W, List.append_nil, decide_eq_true_eq, Bool.not_eq_true', decide_eq_false_iff_not, List.cons_append, List.nil_append, if_true, if_false, Bool.false_eq_true, Bool.not_true, Bool.not_false, not_true_eq_false, not_false_eq_true, true_and]
  refine ⟨a, r, xs, k, rfl, s1.seq (s0.seq hA), SqL.of (s1 _ _ hr1), hk1, hk2, h2, fun H2 s2 => ?_⟩
  exact hy H2 s2
def spProductE (K : PySem.W.Frag) (C C2 : Addr) : Sp := fun vs H Q E => ∃ (a b : Addr) (xs ys : List Int), vs = [.ref a, .ref b] ∧ SqL K H a (xs.map V.int) ∧ SqL K H b (ys.map V.int) ∧ xs.length ≤ 1000 ∧ (∀ x ∈ xs, ∀ y ∈ ys, IntMulOk x y) ∧
  (xs = [] → E (.ref C) none H) ∧ (1 ≤ xs.length → ys = [] → E (.ref C) none H) ∧ (1 ≤ xs.length → 1 ≤ ys.length → ys.length ≠ xs.length → E (.ref C2) none H) ∧
  (1 ≤ xs.length → ys.length = xs.length → ∀ (r : Addr) (H' : Hp), Same H H' → H r = none → H' r = some (.lst ((tab xs.length (cv (ent xs) (ent ys))).map V.int)) → Q (.ref r) H')
theorem ok_productE {e_BadTable e_BadSize : Addr} (m_BadSize : mg "BadSize" = some (.ref e_BadSize)) (q_BadSize : Q2.errIn K e_BadSize = true) (B : Bl mg) (F : Fun K "product" "product" s_product f fd) (c_check_table : Cal P w K mg base (CX1 P w) 1 "check_table" ["table"] (spCheckTE K e_BadTable)) (c_product_entry : Cal P w K mg base (CX1 P w) 4 "product_entry" ["one", "two", "number"] (spEntry2 K)) :
    FnOk P w K mg base (CX1 P w) 8 f fd ["one", "two"] (spProductE K e_BadTable e_BadSize) := by
  refine Q2.okE F sc_product (fun vs H Q E h => ?_) (fun cdv A outer s H vs Q E hr h => ?_)
  · obtain ⟨a, b, xs, ys, rfl, _⟩ := h; rfl
  obtain ⟨a, b, xs, ys, rfl, hA, hB, h2, hM, hE, hE2, hE3, hQ⟩ := h
  refine ⟨_,
      (Q2.wss_cons (Q2.ws_expr (Q2.we_calE c_check_table (hr.mono (by decide)) rfl Q2.pass1 (Q2.wa_cons (Q2.v 0) Q2.wa_nil Q2.star_n) Q2.star_n Q2.any0))
      (Q2.wss_cons (Q2.ws_expr (Q2.we_calE c_check_table (hr.mono (by decide)) rfl Q2.pass1 (Q2.wa_cons (Q2.v 1) Q2.wa_nil Q2.star_n) Q2.star_n Q2.any0))
      (Q2.wss_cons (Q2.ws_if (Q2.wt_cmp op_ne (Q2.we_callB call_len_seq rfl B.b_len PySem.boot_len (Q2.wa_cons (Q2.v 0) Q2.wa_nil Q2.star_n) Q2.star_n Q2.any0) (Q2.we_callB call_len_seq rfl B.b_len PySem.boot_len (Q2.wa_cons (Q2.v 1) Q2.wa_nil Q2.star_n) Q2.star_n Q2.any0) (nomark _))
        (Q2.wss_one (Q2.ws_raise rfl m_BadSize q_BadSize (Q2.wa_cons Q2.we_str Q2.wa_nil Q2.star_c) Q2.star_c Q2.any0))
        Q2.wss_nil)
      (Q2.wss_one (Q2.ws_ret (Q2.we_comp (N := ["one", "two"]) (xs := ["number"]) (sc := defScope s_product) rfl (by exact ⟨rfl, rfl, by decide +kernel, by decide +kernel, by decide +kernel, by decide +kernel⟩) rfl (Q2.Seen.of rfl) (Q2.wi_range2 rfl B.b_range (Q2.wa_cons Q2.we_int (Q2.wa_cons (Q2.we_op op_add (Q2.we_callB call_len_seq rfl B.b_len PySem.boot_len (Q2.wa_cons (Q2.v 0) Q2.wa_nil Q2.star_n) Q2.star_n Q2.any0) Q2.we_int) Q2.wa_nil Q2.star_b) Q2.star_c) (Q2.star2 Q2.star_c Q2.star_b) (Q2.star1 Q2.star_b)) (fun _ _ _ _ _ => ⟨Q2.wg_name (i := 2) (show (["one", "two", "number"] : List Str).Nodup by decide +kernel) rfl (Or.inl rfl) (Or.inr rfl), Q2.wts_nil, (Q2.we_cal c_product_entry (hr.mono (by decide)) rfl (Q2.wa_cons (Q2.v 0) (Q2.wa_cons (Q2.v 1) (Q2.wa_cons (Q2.v 2) Q2.wa_nil Q2.star_n) Q2.star_n) Q2.star_n) Q2.star_n (Q2.anyS Q2.star_n (Q2.anyS Q2.star_n Q2.any0)))⟩))))))), ?_⟩
  refine begin_ (σ' := [some (.ref a), some (.ref b)]) rfl ?_
  try simp only [Q2.W, List.append_nil, decide_eq_true_eq, Bool.not_eq_true', decide_eq_false_iff_not, List.cons_append, List.nil_append, if_true, if_false, Bool.false_eq_true, Bool.not_true, Bool.not_false, not_true_eq_false, not_false_eq_true, true_and]
  refine ⟨a, xs, rfl, hA, fun z => hE z, fun h1 => ?_⟩
  try simp only [Q2.W, List.append_nil, decide_eq_true_eq, Bool.not_eq_true', decide_eq_false_iff_not, List.cons_append, List.nil_append, if_true, if_false, Bool.false_eq_true, Bool.not_true, Bool.not_false, not_true_eq_false, not_false_eq_true, true_and]
  refine ⟨b, ys, rfl, hB, fun z => hE2 h1 z, fun h1y => ?_⟩
  try simp only [Q2.W, List.append_nil, decide_eq_true_eq, Bool.not_eq_true', decide_eq_false_iff_not, List.cons_append, List.nil_append, if_true, if_false, Bool.false_eq_true, Bool.not_true, Bool.not_false, not_true_eq_false, not_false_eq_true, true_and]
  refine ⟨a, _, rfl, .inl hA, b, _, rfl, .inl hB, ?_⟩
  try simp only [Q2.W, List.append_nil, decide_eq_true_eq, Bool.not_eq_true', decide_eq_false_iff_not, List.cons_append, List.nil_append, if_true, if_false, Bool.false_eq_true, Bool.not_true, Bool.not_false, not_true_eq_false, not_false_eq_true, true_and]
  rw [List.length_map, List.length_map]
  refine ite2 (fun c => ⟨(show 1 ≤ sizeLine by decide), hE3 h1 h1y (by omega)⟩) (fun c => ?_)
  have h3 : ys.length = xs.length := by omega
  have q := hQ h1 h3
  refine ⟨a, _, rfl, .inl hA, ?_⟩
  try simp only [Q2.W, List.append_nil, decide_eq_true_eq, Bool.not_eq_true', decide_eq_false_iff_not, List.cons_append, List.nil_append, if_true, if_false, Bool.false_eq_true, Bool.not_true, Bool.not_false, not_true_eq_false, not_false_eq_true, true_and]
  rw [List.length_map]
  refine ⟨⟨by decide, by decide, by omega, by omega⟩, ?_⟩
  rw [show (((xs.length : Nat) : Int) + 1 - 1).toNat = xs.length by omega]
  refine CompR.map (cv (ent xs) (ent ys)) (small_len (by omega)) ?_ (fun D H' hD s1 h1 => q D H' s1 hD h1)
  intro k hk1 hk2 y H1 s1 Ry Rn hy
  try simp only [Q2.W, List.append_nil, decide_eq_true_eq, Bool.not_eq_true', decide_eq_false_iff_not, List.cons_append, List.nil_append, if_true, if_false, Bool.false_eq_true, Bool.not_true, Bool.not_false, not_true_eq_false, not_false_eq_true, true_and]
  refine ⟨a, b, xs, ys, k, rfl, s1.seq hA, s1.seq hB, hk1, hk2, h2, h3, hM, fun H2 s2 => ?_⟩
  exact hy H2 s2
def spTurnedT (K : PySem.W.Frag) (C0 C : Addr) : Sp := fun vs H Q E => ∃ (a : Addr) (xs : List Int), vs = [.ref a] ∧ SqL K H a (xs.map V.int) ∧ xs.length ≤ 1000 ∧ (xs = [] → E (.ref C0) none H) ∧ (1 ≤ xs.length → (¬ Uni (ent xs) → E (.ref C) none H) ∧ (Uni (ent xs) →
  (∀ i j, 1 ≤ i → i ≤ xs.length → 1 ≤ j → j ≤ xs.length → IntMulOk (ent xs i) (trn (ent xs) j)) ∧
  ∀ (r : Addr) (H' : Hp), Same H H' → H r = none → H' r = some (.lst ((tab xs.length (trn (ent xs))).map V.int)) → Q (.ref r) H'))
theorem ok_turnedE {e_NoTurn e_BadTable : Addr} (B : Bl mg) (m_NoTurn : mg "NoTurn" = some (.ref e_NoTurn)) (q_NoTurn : Q2.errIn K e_NoTurn = true) (F : Fun K "turned" "turned" s_turned f fd) (c_check_table : Cal P w K mg base (CX1 P w) 1 "check_table" ["table"] (spCheckTE K e_BadTable)) (c_sum_without_one : Cal P w K mg base (CX1 P w) 4 "sum_without_one" ["table", "answer", "number"] (spWithout K)) :
    FnOk P w K mg base (CX1 P w) 8 f fd ["table"] (spTurnedT K e_BadTable e_NoTurn) := by
  refine Q2.okE F sc_turned (fun vs H Q E h => ?_) (fun cdv A outer s H vs Q E hr h => ?_)
  · obtain ⟨a, xs, rfl, _⟩ := h; rfl
  obtain ⟨a, xs, rfl, hA, h2, hT, hEQ⟩ := h
  refine ⟨_,
      (Q2.wss_cons (Q2.ws_expr (Q2.we_calE c_check_table (hr.mono (by decide)) rfl Q2.pass1 (Q2.wa_cons (Q2.v 0) Q2.wa_nil Q2.star_n) Q2.star_n Q2.any0))
      (Q2.wss_cons (Q2.ws_set (i := 1) sc_turned.nd rfl (Or.inl rfl) (Q2.we_ix ix_list (Q2.v 0) Q2.we_int Q2.ix_c) Q2.sw_s)
      (Q2.wss_cons (Q2.ws_if (Q2.wt_w (Q2.ww_and (Q2.wt_cmp op_ne (Q2.v 1) Q2.we_int (nomark _)) (Q2.ww_and1 (Q2.wt_cmp op_ne (Q2.v 1) (Q2.we_un un_neg Q2.we_int) (nomark _)))))
        (Q2.wss_one (Q2.ws_raise rfl m_NoTurn q_NoTurn (Q2.wa_cons Q2.we_str Q2.wa_nil Q2.star_c) Q2.star_c Q2.any0))
        Q2.wss_nil)
      (Q2.wss_cons (Q2.ws_set (i := 2) sc_turned.nd rfl (Or.inl rfl) (Q2.we_lst (Q2.wa_cons (Q2.v 1) Q2.wa_nil Q2.star_n)) Q2.sw_l)
      (Q2.wss_cons (Q2.ws_forE rfl (Q2.wi_range2 rfl B.b_range (Q2.wa_cons Q2.we_int (Q2.wa_cons (Q2.we_op op_add (Q2.we_callB call_len_seq rfl B.b_len PySem.boot_len (Q2.wa_cons (Q2.v 0) Q2.wa_nil Q2.star_n) Q2.star_n Q2.any0) Q2.we_int) Q2.wa_nil Q2.star_b) Q2.star_c) (Q2.star2 Q2.star_c Q2.star_b) (Q2.star1 Q2.star_b)) (Q2.wg_name (i := 3) sc_turned.nd rfl (Or.inl rfl))
        (Q2.wss_one (Q2.ws_expr (Q2.we_bm PySem.F.plainAttrs_list PySem.F.slot_list_append PySem.F.type_list_append mt_append (Q2.v 2) (Q2.wa_cons (Q2.we_op op_mul (Q2.we_un un_neg (Q2.v 1)) (Q2.we_cal c_sum_without_one (hr.mono (by decide)) rfl (Q2.wa_cons (Q2.v 0) (Q2.wa_cons (Q2.v 2) (Q2.wa_cons (Q2.v 3) Q2.wa_nil Q2.star_n) Q2.star_n) Q2.star_n) Q2.star_n (Q2.anyS Q2.star_n (Q2.anyS Q2.star_n Q2.any0)))) Q2.wa_nil Q2.star_b) Q2.star_b Q2.ab_n))) (fun x => Q2.fs_call x))
      (Q2.wss_one (Q2.ws_ret (Q2.v 2)))))))), ?_⟩
  refine begin_ (σ' := [some (.ref a), none, none, none]) rfl ?_
  rw [tSeq_ap]
  try simp only [Q2.W0, List.append_nil, decide_eq_true_eq, Bool.not_eq_true', decide_eq_false_iff_not, List.cons_append, List.nil_append, if_true, if_false, Bool.false_eq_true, Bool.not_true, Bool.not_false, not_true_eq_false, not_false_eq_true, true_and]
  refine ⟨a, xs, rfl, hA, hT, fun h1 => ?_⟩
  have a0 : atI (xs.map V.int) 0 = some (.int (ent xs 1)) := at_ent (k := 1) (Nat.le_refl 1) h1
  obtain ⟨hE, hQ⟩ := hEQ h1
  try simp only [Q2.W0, List.append_nil, decide_eq_true_eq, Bool.not_eq_true', decide_eq_false_iff_not, List.cons_append, List.nil_append, if_true, if_false, Bool.false_eq_true, Bool.not_true, Bool.not_false, not_true_eq_false, not_false_eq_true, true_and]
  rw [tSeq_ap]
  try simp only [Q2.W0, List.append_nil, decide_eq_true_eq, Bool.not_eq_true', decide_eq_false_iff_not, List.cons_append, List.nil_append, if_true, if_false, Bool.false_eq_true, Bool.not_true, Bool.not_false, not_true_eq_false, not_false_eq_true, true_and]
  refine ⟨_, _, hA, a0, ?_⟩
  try simp only [Q2.W0, List.append_nil, decide_eq_true_eq, Bool.not_eq_true', decide_eq_false_iff_not, List.cons_append, List.nil_append, if_true, if_false, Bool.false_eq_true, Bool.not_true, Bool.not_false, not_true_eq_false, not_false_eq_true, true_and]
  refine seq_cut (fun σ H1 => Uni (ent xs) ∧ σ = [some (.ref a), some (.int (ent xs 1)), none, none] ∧ H1 = H) ?_ ?_
  · rintro _ _ ⟨hU1, rfl, eH⟩
    rw [eH]
    obtain ⟨hM, q⟩ := hQ hU1
    try simp only [Q2.W, List.append_nil, decide_eq_true_eq, Bool.not_eq_true', decide_eq_false_iff_not, List.cons_append, List.nil_append, if_true, if_false, Bool.false_eq_true, Bool.not_true, Bool.not_false, not_true_eq_false, not_false_eq_true, true_and]
    refine ⟨(show 1 ≤ sizeLine by decide), fun r hr0 => ?_⟩
    try simp only [Q2.W, List.append_nil, decide_eq_true_eq, Bool.not_eq_true', decide_eq_false_iff_not, List.cons_append, List.nil_append, if_true, if_false, Bool.false_eq_true, Bool.not_true, Bool.not_false, not_true_eq_false, not_false_eq_true, true_and]
    have s0 := upd_new (Same.refl _) hr0 (o := .lst [.int (ent xs 1)])
    refine ⟨a, _, rfl, .inl (s0.seq hA), ?_⟩
    try simp only [Q2.W, List.append_nil, decide_eq_true_eq, Bool.not_eq_true', decide_eq_false_iff_not, List.cons_append, List.nil_append, if_true, if_false, Bool.false_eq_true, Bool.not_true, Bool.not_false, not_true_eq_false, not_false_eq_true, true_and]
    rw [List.length_map]
    refine ⟨⟨by decide, by decide, by omega, by omega⟩, ?_⟩
    rw [show (((xs.length : Nat) : Int) + 1 - 2).toNat = xs.length - 1 by omega]
    refine ForR.of (fun i σ H2 => ∃ y, σ = [some (.ref a), some (.int (ent xs 1)), some (.ref r), y] ∧ Same H H2 ∧ H2 r = some (.lst ((trL (ent xs) (i + 1)).map V.int))) ⟨none, rfl, s0, upd_same⟩ ?_ ?_
    · rintro i σ H2 hi ⟨y, rfl, s1, hr1⟩ U hU
      rw [show (2 : Int) + (i : Nat) = ((i + 2 : Nat) : Int) by omega]
      try simp only [Q2.W, List.append_nil, decide_eq_true_eq, Bool.not_eq_true', decide_eq_false_iff_not, List.cons_append, List.nil_append, if_true, if_false, Bool.false_eq_true, Bool.not_true, Bool.not_false, not_true_eq_false, not_false_eq_true, true_and]
      refine ⟨.inl ⟨rfl, _, SqL.of hr1⟩, ?_⟩
      refine ⟨a, r, xs, i + 2, rfl, s1.seq hA, SqL.of hr1, by omega, by omega, h2, hM, fun H3 s2 => ?_⟩
      try simp only [Q2.W, List.append_nil, decide_eq_true_eq, Bool.not_eq_true', decide_eq_false_iff_not, List.cons_append, List.nil_append, if_true, if_false, Bool.false_eq_true, Bool.not_true, Bool.not_false, not_true_eq_false, not_false_eq_true, true_and]
      refine ⟨.inl (by rcases hU1 with e | e <;> rw [e] <;> decide), _, s2 _ _ hr1, by rw [List.length_map, trL_len]; exact small_len (by omega), hU _ _ ⟨_, rfl, upd_new (fun b u e => s2 b u (s1 b u e)) hr0, ?_⟩⟩
      rw [upd_same, trL_succ _ (show 1 ≤ i + 1 by omega), List.map_append]
      rfl
    · rintro σ H2 ⟨y, rfl, s1, hr1⟩
      try simp only [Q2.W, List.append_nil, decide_eq_true_eq, Bool.not_eq_true', decide_eq_false_iff_not, List.cons_append, List.nil_append, if_true, if_false, Bool.false_eq_true, Bool.not_true, Bool.not_false, not_true_eq_false, not_false_eq_true, true_and]
      refine q r H2 s1 hr0 ?_
      rw [hr1, trL_tab, Nat.sub_add_cancel h1]
  · intro U hU
    try simp only [Q2.W, List.append_nil, decide_eq_true_eq, Bool.not_eq_true', decide_eq_false_iff_not, List.cons_append, List.nil_append, if_true, if_false, Bool.false_eq_true, Bool.not_true, Bool.not_false, not_true_eq_false, not_false_eq_true, true_and]
    refine ite2 (fun c1 => ?_) (fun c1 => ?_)
    · refine ite2 (fun c2 => ?_) (fun c2 => ?_)
      · exact ⟨(show 1 ≤ sizeLine by decide), hE fun z => by rcases z with z | z <;> omega⟩
      · exact hU _ _ ⟨.inr (by omega), rfl, rfl⟩
    · exact hU _ _ ⟨.inl (by omega), rfl, rfl⟩
def spByPE (K : PySem.W.Frag) (C : Addr) : Sp := fun vs H Q E => ∃ (a : Addr) (xs : List Int), vs = [.ref a] ∧ SqL K H a (xs.map V.int) ∧ xs.length ≤ 1000 ∧ (∀ n, 1 ≤ n → n ≤ xs.length → MulP (ent xs) n) ∧ (xs = [] → E (.ref C) none H) ∧
  (1 ≤ xs.length → ∀ (r : Addr) (H' : Hp), Same H H' → H r = none → H' r = some (.lst ((tab xs.length (bpr (ent xs))).map V.int)) → Q (.ref r) H')
def spGoesE (K : PySem.W.Frag) (C : Addr) : Sp := fun vs H Q E => ∃ (a : Addr) (xs : List Int), vs = [.ref a] ∧ SqL K H a (xs.map V.int) ∧ xs.length ≤ 1000 ∧ (∀ n, 1 ≤ n → n ≤ xs.length → MulP (ent xs) n) ∧ (xs = [] → E (.ref C) none H) ∧
  (1 ≤ xs.length → ∀ H', Same H H' → Q (.bl (decide (xs = tab xs.length (bpr (ent xs))))) H')
theorem ok_by_primesE {e_BadTable : Addr} (B : Bl mg) (F : Fun K "by_primes" "by_primes" s_by_primes f fd) (c_check_table : Cal P w K mg base (CX1 P w) 1 "check_table" ["table"] (spCheckTE K e_BadTable)) (c_entry_by_primes : Cal P w K mg base (CX1 P w) 4 "entry_by_primes" ["table", "number"] (spEntryP K)) :
    FnOk P w K mg base (CX1 P w) 8 f fd ["table"] (spByPE K e_BadTable) := by
  refine Q2.okE F sc_by_primes (fun vs H Q E h => ?_) (fun cdv A outer s H vs Q E hr h => ?_)
  · obtain ⟨a, xs, rfl, _⟩ := h; rfl
  obtain ⟨a, xs, rfl, hA, h2, hM, hE, hQ⟩ := h
  refine ⟨_,
      (Q2.wss_cons (Q2.ws_expr (Q2.we_calE c_check_table (hr.mono (by decide)) rfl Q2.pass1 (Q2.wa_cons (Q2.v 0) Q2.wa_nil Q2.star_n) Q2.star_n Q2.any0))
      (Q2.wss_one (Q2.ws_ret (Q2.we_comp (N := ["table"]) (xs := ["number"]) (sc := defScope s_by_primes) rfl (by exact ⟨rfl, rfl, by decide +kernel, by decide +kernel, by decide +kernel, by decide +kernel⟩) rfl (Q2.Seen.of rfl) (Q2.wi_range2 rfl B.b_range (Q2.wa_cons Q2.we_int (Q2.wa_cons (Q2.we_op op_add (Q2.we_callB call_len_seq rfl B.b_len PySem.boot_len (Q2.wa_cons (Q2.v 0) Q2.wa_nil Q2.star_n) Q2.star_n Q2.any0) Q2.we_int) Q2.wa_nil Q2.star_b) Q2.star_c) (Q2.star2 Q2.star_c Q2.star_b) (Q2.star1 Q2.star_b)) (fun _ _ _ _ _ => ⟨Q2.wg_name (i := 1) (show (["table", "number"] : List Str).Nodup by decide +kernel) rfl (Or.inl rfl) (Or.inr rfl), Q2.wts_nil, (Q2.we_cal c_entry_by_primes (hr.mono (by decide)) rfl (Q2.wa_cons (Q2.v 0) (Q2.wa_cons (Q2.v 1) Q2.wa_nil Q2.star_n) Q2.star_n) Q2.star_n (Q2.anyS Q2.star_n Q2.any0))⟩))))), ?_⟩
  refine begin_ (σ' := [some (.ref a)]) rfl ?_
  try simp only [Q2.W, List.append_nil, decide_eq_true_eq, Bool.not_eq_true', decide_eq_false_iff_not, List.cons_append, List.nil_append, if_true, if_false, Bool.false_eq_true, Bool.not_true, Bool.not_false, not_true_eq_false, not_false_eq_true, true_and]
  refine ⟨a, xs, rfl, hA, hE, fun h1 => ?_⟩
  have q := hQ h1
  try simp only [Q2.W, List.append_nil, decide_eq_true_eq, Bool.not_eq_true', decide_eq_false_iff_not, List.cons_append, List.nil_append, if_true, if_false, Bool.false_eq_true, Bool.not_true, Bool.not_false, not_true_eq_false, not_false_eq_true, true_and]
  refine ⟨a, _, rfl, .inl hA, ?_⟩
  try simp only [Q2.W, List.append_nil, decide_eq_true_eq, Bool.not_eq_true', decide_eq_false_iff_not, List.cons_append, List.nil_append, if_true, if_false, Bool.false_eq_true, Bool.not_true, Bool.not_false, not_true_eq_false, not_false_eq_true, true_and]
  rw [List.length_map]
  refine ⟨⟨by decide, by decide, by omega, by omega⟩, ?_⟩
  rw [show (((xs.length : Nat) : Int) + 1 - 1).toNat = xs.length by omega]
  refine CompR.map (bpr (ent xs)) (small_len (by omega)) ?_ (fun D H' hD s1 h1 => q D H' s1 hD h1)
  intro k hk1 hk2 y H1 s1 Ry Rn hy
  try simp only [Q2.W, List.append_nil, decide_eq_true_eq, Bool.not_eq_true', decide_eq_false_iff_not, List.cons_append, List.nil_append, if_true, if_false, Bool.false_eq_true, Bool.not_true, Bool.not_false, not_true_eq_false, not_false_eq_true, true_and]
  refine ⟨a, xs, k, rfl, s1.seq hA, hk1, hk2, h2, hM k hk1 hk2, fun H2 s2 => ?_⟩
  exact hy H2 s2
theorem ok_goesE {e_BadTable : Addr} (F : Fun K "goes_by_primes" "goes_by_primes" s_goes_by_primes f fd) (c_by_primes : Cal P w K mg base (CX1 P w) 8 "by_primes" ["table"] (spByPE K e_BadTable)) : FnOk P w K mg base (CX1 P w) 9 f fd ["table"] (spGoesE K e_BadTable) := by
  refine Q2.okE F sc_goes_by_primes (fun vs H Q E h => ?_) (fun cdv A outer s H vs Q E hr h => ?_)
  · obtain ⟨a, xs, rfl, _⟩ := h; rfl
  obtain ⟨a, xs, rfl, hA, h2, hM, hE, hQ⟩ := h
  refine ⟨_,
      (Q2.wss_one (Q2.ws_ret (Q2.we_cmp (Q2.op_eqL hr.units) (Q2.v 0) (Q2.we_calE c_by_primes (hr.mono (by decide)) rfl Q2.pass1 (Q2.wa_cons (Q2.v 0) Q2.wa_nil Q2.star_n) Q2.star_n Q2.any0) (nomark _)))), ?_⟩
  refine begin_ (σ' := [some (.ref a)]) rfl ?_
  try simp only [Q2.W, List.append_nil, decide_eq_true_eq, Bool.not_eq_true', decide_eq_false_iff_not, List.cons_append, List.nil_append, if_true, if_false, Bool.false_eq_true, Bool.not_true, Bool.not_false, not_true_eq_false, not_false_eq_true, true_and]
  refine ⟨a, xs, rfl, hA, h2, hM, hE, fun h1 r H' s1 hr0 hr1 => ?_⟩
  try simp only [Q2.W, List.append_nil, decide_eq_true_eq, Bool.not_eq_true', decide_eq_false_iff_not, List.cons_append, List.nil_append, if_true, if_false, Bool.false_eq_true, Bool.not_true, Bool.not_false, not_true_eq_false, not_false_eq_true, true_and]
  exact ⟨xs, _, s1.seq hA, SqL.of hr1, hQ h1 H' s1⟩
theorem ok_at (B : Bl mg) (F : Fun K "_law_at" "_law_at" s_law_at f fd) : FnOk P w K mg base CX 1 f fd ["_law_script", "_law_k"] (spAt K) := by
  refine Q2.okW F sc_law_at (fun vs H Q E h => ?_) (fun cdv A outer s H vs Q E hr h => ?_)
  · obtain ⟨a, ns, k, rfl, _⟩ := h; rfl
  obtain ⟨a, ns, k, rfl, hS, h0, q⟩ := h
  refine ⟨_,
      (Q2.wss_cons (Q2.ws_if (Q2.wt_cmp op_lt (Q2.v 1) (Q2.we_callB call_len_seq rfl B.b_len PySem.boot_len (Q2.wa_cons (Q2.v 0) Q2.wa_nil Q2.star_n) Q2.star_n Q2.any0) (nomark _))
        (Q2.wss_one (Q2.ws_ret (Q2.we_ix ix_list (Q2.v 0) (Q2.v 1) Q2.ix_n)))
        Q2.wss_nil)
      (Q2.wss_one (Q2.ws_ret Q2.we_int))), ?_⟩
  refine begin_ (σ' := [some (.ref a), some (.int k)]) rfl ?_
  try simp only [Q2.W, List.append_nil, decide_eq_true_eq, Bool.not_eq_true', decide_eq_false_iff_not, List.cons_append, List.nil_append, if_true, if_false, Bool.false_eq_true, Bool.not_true, Bool.not_false, not_true_eq_false, not_false_eq_true, true_and]
  refine ⟨a, _, rfl, .inl hS, ?_⟩
  try simp only [Q2.W, List.append_nil, decide_eq_true_eq, Bool.not_eq_true', decide_eq_false_iff_not, List.cons_append, List.nil_append, if_true, if_false, Bool.false_eq_true, Bool.not_true, Bool.not_false, not_true_eq_false, not_false_eq_true, true_and]
  refine ite2 (fun c => ?_) (fun c => ?_)
  · obtain ⟨v, hv, hm⟩ := atI_mem (xs := ns.map V.int) h0 c
    obtain ⟨z, _, rfl⟩ := List.mem_map.mp hm
    exact ⟨_, _, hS, hv, q z⟩
  · exact q 0
/-- any table comes out, with entries of at most 16 figures -/
def Small (ys : List Int) : Prop := ∀ y ∈ ys, -(10 ^ 16) < y ∧ y < 10 ^ 16
def spTableBy (K : PySem.W.Frag) : Sp := fun vs H Q _ => ∃ (a : Addr) (ns : List Int), vs = [.ref a] ∧ SqL K H a (ns.map V.int) ∧ ns.length ≤ 1000 ∧
  ∀ (r : Addr) (ys : List Int) (H' : Hp), ys.length = ns.length → Small ys → Same H H' → H r = none → H' r = some (.lst (ys.map V.int)) → Q (.ref r) H'
theorem ok_table_by (B : Bl mg) (F : Fun K "_law_table_by" "_law_table_by" s_law_table_by f fd) : FnOk P w K mg base CX 1 f fd ["_law_cells"] (spTableBy K) := by
  refine Q2.okW F sc_law_table_by (fun vs H Q E h => ?_) (fun cdv A outer s H vs Q E hr h => ?_)
  · obtain ⟨a, ns, rfl, _⟩ := h; rfl
  obtain ⟨a, ns, rfl, hA, hn, q⟩ := h
  refine ⟨_,
      (Q2.wss_cons (Q2.ws_set (i := 1) sc_law_table_by.nd rfl (Or.inl rfl) (Q2.we_lst Q2.wa_nil) Q2.sw_l)
      (Q2.wss_cons (Q2.ws_for PassesOwn.never rfl (Q2.wi_range1 rfl B.b_range (Q2.wa_cons (Q2.we_callB call_len_seq rfl B.b_len PySem.boot_len (Q2.wa_cons (Q2.v 0) Q2.wa_nil Q2.star_n) Q2.star_n Q2.any0) Q2.wa_nil Q2.star_call) (Q2.star1 Q2.star_call)) (Q2.wg_name (i := 2) sc_law_table_by.nd rfl (Or.inl rfl))
        (Q2.wss_cons (Q2.ws_set (i := 3) sc_law_table_by.nd rfl (Or.inl rfl) (Q2.we_op op_sub (Q2.we_op op_mod (Q2.we_op op_add (Q2.we_ix ix_list (Q2.v 0) (Q2.v 2) Q2.ix_n) (Q2.we_op op_mul Q2.we_int (Q2.v 2))) Q2.we_int) Q2.we_int) Q2.sw_b)
        (Q2.wss_cons (Q2.ws_if (Q2.wt_cmp op_eq (Q2.we_op op_mod (Q2.we_op op_add (Q2.we_ix ix_list (Q2.v 0) (Q2.v 2) Q2.ix_n) (Q2.we_op op_mul Q2.we_int (Q2.v 2))) Q2.we_int) Q2.we_int (nomark _))
          (Q2.wss_one (Q2.ws_set (i := 3) sc_law_table_by.nd rfl (Or.inl rfl) (Q2.we_op op_mul (Q2.v 3) Q2.we_int) Q2.sw_b))
          Q2.wss_nil)
        (Q2.wss_cons (Q2.ws_if (Q2.wt_cmp op_eq (Q2.we_op op_mod (Q2.we_op op_add (Q2.we_ix ix_list (Q2.v 0) (Q2.v 2) Q2.ix_n) (Q2.v 2)) Q2.we_int) Q2.we_int (nomark _))
          (Q2.wss_one (Q2.ws_set (i := 3) sc_law_table_by.nd rfl (Or.inl rfl) (Q2.we_op op_mul (Q2.we_op op_mod (Q2.we_op op_fdiv (Q2.we_ix ix_list (Q2.v 0) (Q2.v 2) Q2.ix_n) Q2.we_int) (Q2.we_op op_pow Q2.we_int Q2.we_int)) (Q2.we_ix ix_list (Q2.we_lst (Q2.wa_cons Q2.we_int (Q2.wa_cons (Q2.we_un un_neg Q2.we_int) Q2.wa_nil Q2.star_u) Q2.star_c)) (Q2.we_op op_mod (Q2.v 2) Q2.we_int) Q2.ix_b)) Q2.sw_b))
          Q2.wss_nil)
        (Q2.wss_one (Q2.ws_expr (Q2.we_bm PySem.F.plainAttrs_list PySem.F.slot_list_append PySem.F.type_list_append mt_append (Q2.v 1) (Q2.wa_cons (Q2.v 3) Q2.wa_nil Q2.star_n) Q2.star_n Q2.ab_n)))))) (fun x => Q2.fs_call x))
      (Q2.wss_one (Q2.ws_ret (Q2.v 1))))), ?_⟩
  refine begin_ (σ' := [some (.ref a), none, none, none]) rfl ?_
  try simp only [Q2.W, List.append_nil, decide_eq_true_eq, Bool.not_eq_true', decide_eq_false_iff_not, List.cons_append, List.nil_append, if_true, if_false, Bool.false_eq_true, Bool.not_true, Bool.not_false, not_true_eq_false, not_false_eq_true, true_and]
  refine ⟨Nat.zero_le _, fun r hr0 => ?_⟩
  try simp only [Q2.W, List.append_nil, decide_eq_true_eq, Bool.not_eq_true', decide_eq_false_iff_not, List.cons_append, List.nil_append, if_true, if_false, Bool.false_eq_true, Bool.not_true, Bool.not_false, not_true_eq_false, not_false_eq_true, true_and]
  have s0 : Same H (upd H r (.lst [])) := upd_new (Same.refl H) hr0
  refine ⟨a, _, rfl, .inl (s0.seq hA), ?_⟩
  try simp only [Q2.W, List.append_nil, decide_eq_true_eq, Bool.not_eq_true', decide_eq_false_iff_not, List.cons_append, List.nil_append, if_true, if_false, Bool.false_eq_true, Bool.not_true, Bool.not_false, not_true_eq_false, not_false_eq_true, true_and]
  rw [List.length_map]
  refine ⟨by omega, by omega, ?_⟩
  refine ForR.of (fun i σ H1 => ∃ (ys : List Int) (y1 y2 : Option V), σ = [some (.ref a), some (.ref r), y1, y2] ∧ Same H H1 ∧ H1 r = some (.lst (ys.map V.int)) ∧ ys.length = i ∧ Small ys) ⟨[], none, none, rfl, s0, upd_same, rfl, fun y hy => absurd hy (by simp)⟩ ?_ ?_
  · rintro i σ H1 hi ⟨ys, y1, y2, rfl, hS, hr1, hlen, hb⟩ U hU
    have hi' : i < ns.length := by omega
    have hat : atI (ns.map V.int) ((0 : Int) + (i : Nat)) = some (.int ns[i]) := by
      rw [Int.zero_add]
      exact at_ints hi'
    have hA1 := hS.seq hA
    try simp only [Q2.W0, List.append_nil, decide_eq_true_eq, Bool.not_eq_true', decide_eq_false_iff_not, List.cons_append, List.nil_append, if_true, if_false, Bool.false_eq_true, Bool.not_true, Bool.not_false, not_true_eq_false, not_false_eq_true, true_and]
    rw [tSeq_ap]
    try simp only [Q2.W0, List.append_nil, decide_eq_true_eq, Bool.not_eq_true', decide_eq_false_iff_not, List.cons_append, List.nil_append, if_true, if_false, Bool.false_eq_true, Bool.not_true, Bool.not_false, not_true_eq_false, not_false_eq_true, true_and]
    refine ⟨_, _, hA1, hat, ?_⟩
    try simp only [Q2.W0, List.append_nil, decide_eq_true_eq, Bool.not_eq_true', decide_eq_false_iff_not, List.cons_append, List.nil_append, if_true, if_false, Bool.false_eq_true, Bool.not_true, Bool.not_false, not_true_eq_false, not_false_eq_true, true_and]
    refine ⟨.inl ⟨by decide, by decide⟩, by decide, ?_⟩
    generalize ns[i] = c at *
    have e1 := Int.emod_nonneg (c + 4 * ((0 : Int) + (i : Nat))) (show (19 : Int) ≠ 0 by decide)
    have e2 := Int.emod_lt_of_pos (c + 4 * ((0 : Int) + (i : Nat))) (show (0 : Int) < 19 by decide)
    generalize (c + 4 * ((0 : Int) + (i : Nat))) % 19 = z0 at *
    refine seq_cut (fun σ H2 => ∃ z : Int, σ = [some (.ref a), some (.ref r), some (.int ((0 : Int) + (i : Nat))), some (.int z)] ∧ H2 = H1 ∧ -9000000000000000 ≤ z ∧ z ≤ 9000000000000000) ?_ ?_
    · rintro σ H2 ⟨z, rfl, rfl, hz1, hz2⟩
      refine seq_cut (fun σ H3 => ∃ z : Int, σ = [some (.ref a), some (.ref r), some (.int ((0 : Int) + (i : Nat))), some (.int z)] ∧ Same H H3 ∧ H3 r = some (.lst (ys.map V.int)) ∧ -9000000000000000 ≤ z ∧ z ≤ 9000000000000000) ?_ ?_
      · rintro σ H3 ⟨z, rfl, hS3, hr3, hz1, hz2⟩
        try simp only [Q2.W, List.append_nil, decide_eq_true_eq, Bool.not_eq_true', decide_eq_false_iff_not, List.cons_append, List.nil_append, if_true, if_false, Bool.false_eq_true, Bool.not_true, Bool.not_false, not_true_eq_false, not_false_eq_true, true_and]
        refine ⟨.inl ⟨rfl, _, SqL.of hr3⟩, _, hr3, by rw [List.length_map]; exact small_len (by omega), hU _ _ ⟨ys ++ [z], _, _, rfl, ?_, ?_, ?_, ?_⟩⟩
        · exact upd_new hS3 hr0
        · rw [upd_same, List.map_append]
          rfl
        · rw [List.length_append, hlen]
          rfl
        · intro y hy
          rcases List.mem_append.mp hy with e | e
          · exact hb y e
          · rw [List.mem_singleton.mp e]
            omega
      · intro U2 hU2
        try simp only [Q2.W, List.append_nil, decide_eq_true_eq, Bool.not_eq_true', decide_eq_false_iff_not, List.cons_append, List.nil_append, if_true, if_false, Bool.false_eq_true, Bool.not_true, Bool.not_false, not_true_eq_false, not_false_eq_true, true_and]
        refine ⟨_, _, hA1, hat, ?_⟩
        try simp only [Q2.W, List.append_nil, decide_eq_true_eq, Bool.not_eq_true', decide_eq_false_iff_not, List.cons_append, List.nil_append, if_true, if_false, Bool.false_eq_true, Bool.not_true, Bool.not_false, not_true_eq_false, not_false_eq_true, true_and]
        refine ⟨by decide, ?_⟩
        refine ite2 (fun c1 => ?_) (fun c1 => ?_)
        · refine ⟨_, _, hA1, hat, ?_⟩
          try simp only [Q2.W, List.append_nil, decide_eq_true_eq, Bool.not_eq_true', decide_eq_false_iff_not, List.cons_append, List.nil_append, if_true, if_false, Bool.false_eq_true, Bool.not_true, Bool.not_false, not_true_eq_false, not_false_eq_true, true_and]
          refine ⟨⟨by decide, by decide⟩, ⟨by decide, by decide, by decide⟩, ?_⟩
          have p15 : (10 : Int) ^ (15 : Int).toNat = 1000000000000000 := by decide
          rw [p15]
          refine ⟨by decide, (show 2 ≤ sizeLine by decide), fun me hme => ?_⟩
          try simp only [Q2.W, List.append_nil, decide_eq_true_eq, Bool.not_eq_true', decide_eq_false_iff_not, List.cons_append, List.nil_append, if_true, if_false, Bool.false_eq_true, Bool.not_true, Bool.not_false, not_true_eq_false, not_false_eq_true, true_and]
          refine ⟨by decide, ?_⟩
          have b1 := Int.emod_nonneg ((0 : Int) + (i : Nat)) (show (2 : Int) ≠ 0 by decide)
          have b2 := Int.emod_lt_of_pos ((0 : Int) + (i : Nat)) (show (0 : Int) < 2 by decide)
          obtain ⟨v, hv, hm⟩ := atI_mem (xs := ([.int 1, .int (-1)] : List V)) b1 b2
          have hv2 : v = .int 1 ∨ v = .int (-1) := by
            rcases List.mem_cons.mp hm with e | e
            · exact .inl e
            · exact .inr (List.mem_singleton.mp e)
          have f1 := Int.emod_nonneg (c / 7) (show (1000000000000000 : Int) ≠ 0 by decide)
          have f2 := Int.emod_lt_of_pos (c / 7) (show (0 : Int) < 1000000000000000 by decide)
          generalize c / 7 % 1000000000000000 = m at *
          have s3 := upd_free hS hme (o := .lst [.int 1, .int (-1)])
          have r3 : upd H2 me (.lst [.int 1, .int (-1)]) r = some (.lst (ys.map V.int)) := by
            rw [upd_ne (ne_of_none hr1 hme)]
            exact hr1
          refine ⟨_, _, SqL.of upd_same, hv, ?_⟩
          rcases hv2 with e | e <;> subst e
          · try simp only [Q2.W, List.append_nil, decide_eq_true_eq, Bool.not_eq_true', decide_eq_false_iff_not, List.cons_append, List.nil_append, if_true, if_false, Bool.false_eq_true, Bool.not_true, Bool.not_false, not_true_eq_false, not_false_eq_true, true_and]
            exact ⟨.inr ⟨by decide, by decide⟩, hU2 _ _ ⟨m * 1, rfl, s3, r3, by omega, by omega⟩⟩
          · try simp only [Q2.W, List.append_nil, decide_eq_true_eq, Bool.not_eq_true', decide_eq_false_iff_not, List.cons_append, List.nil_append, if_true, if_false, Bool.false_eq_true, Bool.not_true, Bool.not_false, not_true_eq_false, not_false_eq_true, true_and]
            exact ⟨.inr ⟨by decide, by decide⟩, hU2 _ _ ⟨m * -1, rfl, s3, r3, by omega, by omega⟩⟩
        · exact hU2 _ _ ⟨z, rfl, hS, hr1, hz1, hz2⟩
    · intro U1 hU1
      try simp only [Q2.W, List.append_nil, decide_eq_true_eq, Bool.not_eq_true', decide_eq_false_iff_not, List.cons_append, List.nil_append, if_true, if_false, Bool.false_eq_true, Bool.not_true, Bool.not_false, not_true_eq_false, not_false_eq_true, true_and]
      refine ⟨_, _, hA1, hat, ?_⟩
      try simp only [Q2.W, List.append_nil, decide_eq_true_eq, Bool.not_eq_true', decide_eq_false_iff_not, List.cons_append, List.nil_append, if_true, if_false, Bool.false_eq_true, Bool.not_true, Bool.not_false, not_true_eq_false, not_false_eq_true, true_and]
      refine ⟨.inl ⟨by decide, by decide⟩, by decide, ?_⟩
      refine ite2 (fun c1 => ?_) (fun c1 => ?_)
      · refine ⟨.inr ⟨by decide, by decide⟩, hU1 _ _ ⟨(z0 - 9) * 1000000000000000, rfl, rfl, by omega, by omega⟩⟩
      · exact hU1 _ _ ⟨z0 - 9, rfl, rfl, by omega, by omega⟩
  · rintro σ H1 ⟨ys, y1, y2, rfl, hS, hr1, hlen, hb⟩
    try simp only [Q2.W, List.append_nil, decide_eq_true_eq, Bool.not_eq_true', decide_eq_false_iff_not, List.cons_append, List.nil_append, if_true, if_false, Bool.false_eq_true, Bool.not_true, Bool.not_false, not_true_eq_false, not_false_eq_true, true_and]
    exact q r ys H1 (by omega) hb hS hr0 hr1
/-! #### what comes out -/
inductive Out where
  | done
  | table
  | size
  | number
  | turn
def byT (w : Nat) (xs ys : List Int) : Out :=
  if xs = [] then .table else if 7 ≤ w then (if ys = [] then .table else if ys.length ≠ xs.length then .size else .done) else if w = 2 ∧ ent xs 1 ≠ 1 ∧ ent xs 1 ≠ -1 then .turn else .done
def outOf (w : Nat) (xs ys : List Int) (n : Int) : Out := if w < 9 then byT w xs ys else if n < 1 then .number else .done
def word : Out → Str
  | .done => "done"
  | .table => "table"
  | .size => "size"
  | .number => "number"
  | .turn => "turn"
def isR : Out → Bool
  | .done => false
  | _ => true
def clsOf (eT eS eN eU : Addr) : Out → Addr
  | .done => eT
  | .table => eT
  | .size => eS
  | .number => eN
  | .turn => eU
theorem ne_nil {xs : List Int} (h : 1 ≤ xs.length) : xs ≠ [] := fun z => by rw [z] at h; exact absurd h (by decide)
theorem byT_nil {w : Nat} {xs ys : List Int} (h : xs = []) : byT w xs ys = .table := if_pos h
theorem byT_plain {w : Nat} {xs ys : List Int} (h : 1 ≤ xs.length) (h1 : w < 7) (h2 : w ≠ 2) : byT w xs ys = .done := by
  unfold byT
  rw [if_neg (ne_nil h), if_neg (by omega), if_neg fun z => h2 z.1]
theorem byT_two {xs ys : List Int} (h : 1 ≤ xs.length) (hu : Uni (ent xs)) : byT 2 xs ys = .done := by
  unfold byT
  rw [if_neg (ne_nil h), if_neg (by omega), if_neg fun z => by rcases hu with e | e; exact z.2.1 e; exact z.2.2 e]
theorem byT_turn {xs ys : List Int} (h : 1 ≤ xs.length) (hu : ¬ Uni (ent xs)) : byT 2 xs ys = .turn := by
  unfold byT
  rw [if_neg (ne_nil h), if_neg (by omega), if_pos ⟨rfl, fun z => hu (.inl z), fun z => hu (.inr z)⟩]
theorem byT_other {w : Nat} {xs ys : List Int} (h : 1 ≤ xs.length) (hw : 7 ≤ w) (hy : ys = []) : byT w xs ys = .table := by
  unfold byT
  rw [if_neg (ne_nil h), if_pos hw, if_pos hy]
theorem byT_size {w : Nat} {xs ys : List Int} (h : 1 ≤ xs.length) (hw : 7 ≤ w) (hy : 1 ≤ ys.length) (hs : ys.length ≠ xs.length) : byT w xs ys = .size := by
  unfold byT
  rw [if_neg (ne_nil h), if_pos hw, if_neg (ne_nil hy), if_pos hs]
theorem byT_same {w : Nat} {xs ys : List Int} (h : 1 ≤ xs.length) (hw : 7 ≤ w) (hs : ys.length = xs.length) : byT w xs ys = .done := by
  unfold byT
  rw [if_neg (ne_nil h), if_pos hw, if_neg (ne_nil (by omega)), if_neg fun z => z hs]
theorem small_mul {xs ys : List Int} (h : Small xs) : ∀ x ∈ xs, ∀ y ∈ ys, IntMulOk x y := fun x hx y _ => CMul.ok (j := y) (.inl (by have := h x hx; omega))
theorem small_mulP {xs : List Int} (h : Small xs) : ∀ n, 1 ≤ n → n ≤ xs.length → MulP (ent xs) n := fun n h1 h2 i x hx => by
  obtain ⟨a, b⟩ := pw_le h1 (List.mem_of_getElem? hx)
  exact CMul.ok (.inr (by have := h _ (ent_mem a (show x.1 ^ x.2 ≤ xs.length by omega)); omega))
def spByTable (K : PySem.W.Frag) (eT eS eN eU : Addr) : Sp := fun vs H Q E => ∃ (w : Nat) (a b : Addr) (xs ys : List Int), vs = [.int (w : Nat), .ref a, .ref b] ∧ w ≤ 8 ∧ SqL K H a (xs.map V.int) ∧ SqL K H b (ys.map V.int) ∧ xs.length ≤ 100 ∧ ys.length ≤ 100 ∧ Small xs ∧ Small ys ∧
  (byT w xs ys ≠ .done → E (.ref (clsOf eT eS eN eU (byT w xs ys))) none H) ∧ (byT w xs ys = .done → ∀ H', Same H H' → Q .non H')
theorem ok_by_table {e_BadTable e_BadSize e_BadNumber e_NoTurn : Addr} (F : Fun K "_law_by_table" "_law_by_table" s_law_by_table f fd) (c_summed : Cal P w K mg base (CX1 P w) 8 "summed" ["table"] (spTabE K e_BadTable (cv one1))) (c_taken_back : Cal P w K mg base (CX1 P w) 8 "taken_back" ["table"] (spTabE K e_BadTable (cv sgn)))
    (c_turned : Cal P w K mg base (CX1 P w) 8 "turned" ["table"] (spTurnedT K e_BadTable e_NoTurn)) (c_by_primes : Cal P w K mg base (CX1 P w) 8 "by_primes" ["table"] (spByPE K e_BadTable)) (c_goes_by_primes : Cal P w K mg base (CX1 P w) 9 "goes_by_primes" ["table"] (spGoesE K e_BadTable))
    (c_gathered : Cal P w K mg base (CX1 P w) 8 "gathered" ["table"] (spTabE K e_BadTable gth)) (c_ungathered : Cal P w K mg base (CX1 P w) 8 "ungathered" ["table"] (spTabE K e_BadTable ugt)) (c_product : Cal P w K mg base (CX1 P w) 8 "product" ["one", "two"] (spProductE K e_BadTable e_BadSize)) :
    FnOk P w K mg base (CX1 P w) 10 f fd ["_law_which", "_law_table", "_law_other"] (spByTable K e_BadTable e_BadSize e_BadNumber e_NoTurn) := by
  refine Q2.okE F sc_law_by_table (fun vs H Q E h => ?_) (fun cdv A outer s H vs Q E hr h => ?_)
  · obtain ⟨w, a, b, xs, ys, rfl, _⟩ := h; rfl
  obtain ⟨w, a, b, xs, ys, rfl, hw, hA, hB, hx, hy, hSx, hSy, hE, hQ⟩ := h
  have hE' : ∀ o, byT w xs ys = o → o ≠ .done → E (.ref (clsOf e_BadTable e_BadSize e_BadNumber e_NoTurn o)) none H := fun o e hn => by
    subst e
    exact hE hn
  have hT : xs = [] → E (.ref e_BadTable) none H := fun z => hE' .table (byT_nil z) (fun e => by cases e)
  refine ⟨_,
      (Q2.wss_one (Q2.ws_if (Q2.wt_cmp op_eq (Q2.v 0) Q2.we_int (nomark _))
        (Q2.wss_one (Q2.ws_expr (Q2.we_calE c_summed (hr.mono (by decide)) rfl Q2.pass1 (Q2.wa_cons (Q2.v 1) Q2.wa_nil Q2.star_n) Q2.star_n Q2.any0)))
        (Q2.wss_one (Q2.ws_if (Q2.wt_cmp op_eq (Q2.v 0) Q2.we_int (nomark _))
          (Q2.wss_one (Q2.ws_expr (Q2.we_calE c_taken_back (hr.mono (by decide)) rfl Q2.pass1 (Q2.wa_cons (Q2.v 1) Q2.wa_nil Q2.star_n) Q2.star_n Q2.any0)))
          (Q2.wss_one (Q2.ws_if (Q2.wt_cmp op_eq (Q2.v 0) Q2.we_int (nomark _))
            (Q2.wss_one (Q2.ws_expr (Q2.we_calE c_turned (hr.mono (by decide)) rfl Q2.pass1 (Q2.wa_cons (Q2.v 1) Q2.wa_nil Q2.star_n) Q2.star_n Q2.any0)))
            (Q2.wss_one (Q2.ws_if (Q2.wt_cmp op_eq (Q2.v 0) Q2.we_int (nomark _))
              (Q2.wss_one (Q2.ws_expr (Q2.we_calE c_by_primes (hr.mono (by decide)) rfl Q2.pass1 (Q2.wa_cons (Q2.v 1) Q2.wa_nil Q2.star_n) Q2.star_n Q2.any0)))
              (Q2.wss_one (Q2.ws_if (Q2.wt_cmp op_eq (Q2.v 0) Q2.we_int (nomark _))
                (Q2.wss_one (Q2.ws_expr (Q2.we_calE c_goes_by_primes (hr.mono (by decide)) rfl Q2.pass1 (Q2.wa_cons (Q2.v 1) Q2.wa_nil Q2.star_n) Q2.star_n Q2.any0)))
                (Q2.wss_one (Q2.ws_if (Q2.wt_cmp op_eq (Q2.v 0) Q2.we_int (nomark _))
                  (Q2.wss_one (Q2.ws_expr (Q2.we_calE c_gathered (hr.mono (by decide)) rfl Q2.pass1 (Q2.wa_cons (Q2.v 1) Q2.wa_nil Q2.star_n) Q2.star_n Q2.any0)))
                  (Q2.wss_one (Q2.ws_if (Q2.wt_cmp op_eq (Q2.v 0) Q2.we_int (nomark _))
                    (Q2.wss_one (Q2.ws_expr (Q2.we_calE c_ungathered (hr.mono (by decide)) rfl Q2.pass1 (Q2.wa_cons (Q2.v 1) Q2.wa_nil Q2.star_n) Q2.star_n Q2.any0)))
                    (Q2.wss_one (Q2.ws_if (Q2.wt_cmp op_eq (Q2.v 0) Q2.we_int (nomark _))
                      (Q2.wss_one (Q2.ws_expr (Q2.we_calE c_product (hr.mono (by decide)) rfl Q2.pass1 (Q2.wa_cons (Q2.v 1) (Q2.wa_cons (Q2.v 2) Q2.wa_nil Q2.star_n) Q2.star_n) Q2.star_n (Q2.anyS Q2.star_n Q2.any0))))
                      (Q2.wss_one (Q2.ws_expr (Q2.we_calE c_product (hr.mono (by decide)) rfl Q2.pass1 (Q2.wa_cons (Q2.v 2) (Q2.wa_cons (Q2.v 1) Q2.wa_nil Q2.star_n) Q2.star_n) Q2.star_n (Q2.anyS Q2.star_n Q2.any0)))))))))))))))))))), ?_⟩
  refine begin_ (σ' := [some (.int w), some (.ref a), some (.ref b)]) rfl ?_
  try simp only [Q2.W, List.append_nil, decide_eq_true_eq, Bool.not_eq_true', decide_eq_false_iff_not, List.cons_append, List.nil_append, if_true, if_false, Bool.false_eq_true, Bool.not_true, Bool.not_false, not_true_eq_false, not_false_eq_true, true_and]
  refine ite2 (fun c => ?_) (fun c => ?_)
  · exact ⟨a, xs, rfl, hA, by omega, hT, fun h1 r H' s1 _ _ => hQ (byT_plain h1 (by omega) (by omega)) H' s1⟩
  refine ite2 (fun c => ?_) (fun c => ?_)
  · exact ⟨a, xs, rfl, hA, by omega, hT, fun h1 r H' s1 _ _ => hQ (byT_plain h1 (by omega) (by omega)) H' s1⟩
  refine ite2 (fun c => ?_) (fun c => ?_)
  · have e2 : w = 2 := by omega
    subst e2
    refine ⟨a, xs, rfl, hA, by omega, hT, fun h1 => ⟨fun hu => hE' .turn (byT_turn h1 hu) (fun e => by cases e), fun hu => ⟨fun i j a1 a2 _ _ => CMul.ok (.inl (by have := hSx _ (ent_mem a1 a2); omega)), fun r H' s1 _ _ => hQ (byT_two h1 hu) H' s1⟩⟩⟩
  refine ite2 (fun c => ?_) (fun c => ?_)
  · exact ⟨a, xs, rfl, hA, by omega, small_mulP hSx, hT, fun h1 r H' s1 _ _ => hQ (byT_plain h1 (by omega) (by omega)) H' s1⟩
  refine ite2 (fun c => ?_) (fun c => ?_)
  · exact ⟨a, xs, rfl, hA, by omega, small_mulP hSx, hT, fun h1 H' s1 => hQ (byT_plain h1 (by omega) (by omega)) H' s1⟩
  refine ite2 (fun c => ?_) (fun c => ?_)
  · exact ⟨a, xs, rfl, hA, by omega, hT, fun h1 r H' s1 _ _ => hQ (byT_plain h1 (by omega) (by omega)) H' s1⟩
  refine ite2 (fun c => ?_) (fun c => ?_)
  · exact ⟨a, xs, rfl, hA, by omega, hT, fun h1 r H' s1 _ _ => hQ (byT_plain h1 (by omega) (by omega)) H' s1⟩
  have hw7 : 7 ≤ w := by omega
  refine ite2 (fun c => ?_) (fun c => ?_)
  · exact ⟨a, b, xs, ys, rfl, hA, hB, by omega, small_mul hSx, hT, fun h1 z => hE' .table (byT_other h1 hw7 z) (fun e => by cases e), fun h1 h1y hne => hE' .size (byT_size h1 hw7 h1y hne) (fun e => by cases e),
      fun h1 heq r H' s1 _ _ => hQ (byT_same h1 hw7 heq) H' s1⟩
  · refine ⟨b, a, ys, xs, rfl, hB, hA, by omega, small_mul hSy, fun z => ?_, fun h1 z => hT z, fun h1 h1x hne => hE' .size (byT_size h1x hw7 h1 (by omega)) (fun e => by cases e), fun h1 heq r H' s1 _ _ => hQ (byT_same (by omega) hw7 (by omega)) H' s1⟩
    by_cases hx0 : xs = []
    · exact hT hx0
    · exact hE' .table (byT_other (Nat.pos_of_ne_zero fun e => hx0 (List.eq_nil_of_length_eq_zero e)) hw7 z) (fun e => by cases e)
def spByNumber (C : Addr) : Sp := fun vs H Q E => ∃ (w : Nat) (z : Int), vs = [.int (w : Nat), .int z] ∧ z ≤ 1000 ∧ (z < 1 → E (.ref C) none H) ∧ (1 ≤ z → ∀ H', Same H H' → Q .non H')
theorem ok_by_number {e_BadNumber : Addr} (F : Fun K "_law_by_number" "_law_by_number" s_law_by_number f fd) (c_parts : Cal P w K mg base (CX1 P w) 2 "parts" ["number"] (spPartsE e_BadNumber)) (c_prime_parts : Cal P w K mg base (CX1 P w) 2 "prime_parts" ["number"] (spPrimesE e_BadNumber))
    (c_sign : Cal P w K mg base (CX1 P w) 3 "sign" ["number"] (spSignE e_BadNumber)) (c_unit : Cal P w K mg base (CX1 P w) 8 "unit" ["size"] (spNewE e_BadNumber fun n => 1 :: List.replicate (n - 1) 0)) (c_signs : Cal P w K mg base (CX1 P w) 7 "signs" ["size"] (spNewE e_BadNumber fun n => tab n sgn))
    (c_strange : Cal P w K mg base (CX1 P w) 9 "strange" ["size"] (spNewE e_BadNumber fun n => tab n (cv sgn idn))) : FnOk P w K mg base (CX1 P w) 10 f fd ["_law_which", "_law_number"] (spByNumber e_BadNumber) := by
  refine Q2.okE F sc_law_by_number (fun vs H Q E h => ?_) (fun cdv A outer s H vs Q E hr h => ?_)
  · obtain ⟨w, z, rfl, _⟩ := h; rfl
  obtain ⟨w, z, rfl, hz, hE, hQ⟩ := h
  refine ⟨_,
      (Q2.wss_one (Q2.ws_if (Q2.wt_cmp op_eq (Q2.v 0) Q2.we_int (nomark _))
        (Q2.wss_one (Q2.ws_expr (Q2.we_calE c_parts (hr.mono (by decide)) rfl Q2.pass1 (Q2.wa_cons (Q2.v 1) Q2.wa_nil Q2.star_n) Q2.star_n Q2.any0)))
        (Q2.wss_one (Q2.ws_if (Q2.wt_cmp op_eq (Q2.v 0) Q2.we_int (nomark _))
          (Q2.wss_one (Q2.ws_expr (Q2.we_calE c_prime_parts (hr.mono (by decide)) rfl Q2.pass1 (Q2.wa_cons (Q2.v 1) Q2.wa_nil Q2.star_n) Q2.star_n Q2.any0)))
          (Q2.wss_one (Q2.ws_if (Q2.wt_cmp op_eq (Q2.v 0) Q2.we_int (nomark _))
            (Q2.wss_one (Q2.ws_expr (Q2.we_calE c_sign (hr.mono (by decide)) rfl Q2.pass1 (Q2.wa_cons (Q2.v 1) Q2.wa_nil Q2.star_n) Q2.star_n Q2.any0)))
            (Q2.wss_one (Q2.ws_if (Q2.wt_cmp op_eq (Q2.v 0) Q2.we_int (nomark _))
              (Q2.wss_one (Q2.ws_expr (Q2.we_calE c_unit (hr.mono (by decide)) rfl Q2.pass1 (Q2.wa_cons (Q2.v 1) Q2.wa_nil Q2.star_n) Q2.star_n Q2.any0)))
              (Q2.wss_one (Q2.ws_if (Q2.wt_cmp op_eq (Q2.v 0) Q2.we_int (nomark _))
                (Q2.wss_one (Q2.ws_expr (Q2.we_calE c_signs (hr.mono (by decide)) rfl Q2.pass1 (Q2.wa_cons (Q2.v 1) Q2.wa_nil Q2.star_n) Q2.star_n Q2.any0)))
                (Q2.wss_one (Q2.ws_expr (Q2.we_calE c_strange (hr.mono (by decide)) rfl Q2.pass1 (Q2.wa_cons (Q2.v 1) Q2.wa_nil Q2.star_n) Q2.star_n Q2.any0))))))))))))), ?_⟩
  refine begin_ (σ' := [some (.int w), some (.int z)]) rfl ?_
  try simp only [Q2.W, List.append_nil, decide_eq_true_eq, Bool.not_eq_true', decide_eq_false_iff_not, List.cons_append, List.nil_append, if_true, if_false, Bool.false_eq_true, Bool.not_true, Bool.not_false, not_true_eq_false, not_false_eq_true, true_and]
  refine ite2 (fun c => ?_) (fun c => ?_)
  · exact ⟨z, rfl, by omega, hE, fun n en h1 r hr0 => hQ (by omega) _ (upd_new (Same.refl H) hr0)⟩
  refine ite2 (fun c => ?_) (fun c => ?_)
  · exact ⟨z, rfl, by omega, hE, fun n en h1 r as H' s1 _ _ _ => hQ (by omega) H' s1⟩
  refine ite2 (fun c => ?_) (fun c => ?_)
  · exact ⟨z, rfl, by omega, hE, fun n en h1 H' s1 => hQ (by omega) H' s1⟩
  refine ite2 (fun c => ?_) (fun c => ?_)
  · exact ⟨z, rfl, hz, hE, fun n en h1 r H' s1 _ _ => hQ (by omega) H' s1⟩
  refine ite2 (fun c => ?_) (fun c => ?_)
  · exact ⟨z, rfl, hz, hE, fun n en h1 r H' s1 _ _ => hQ (by omega) H' s1⟩
  · exact ⟨z, rfl, hz, hE, fun n en h1 r H' s1 _ _ => hQ (by omega) H' s1⟩
/-- the handlers that are asked, by the class of the error -/
structure Hd (K : PySem.W.Frag) (eT eS eN eU : Addr) : Prop where
  tt : PySem.W.exmOne K (.ref eT) (.ref eT) = some true
  st : PySem.W.exmOne K (.ref eS) (.ref eT) = some false
  ss : PySem.W.exmOne K (.ref eS) (.ref eS) = some true
  nt : PySem.W.exmOne K (.ref eN) (.ref eT) = some false
  ns : PySem.W.exmOne K (.ref eN) (.ref eS) = some false
  nn : PySem.W.exmOne K (.ref eN) (.ref eN) = some true
  ut : PySem.W.exmOne K (.ref eU) (.ref eT) = some false
  us : PySem.W.exmOne K (.ref eU) (.ref eS) = some false
  un : PySem.W.exmOne K (.ref eU) (.ref eN) = some false
  uu : PySem.W.exmOne K (.ref eU) (.ref eU) = some true
def spAsk (K : PySem.W.Frag) (R : Out → V) : Sp := fun vs H Q _ => ∃ (w : Nat) (a b : Addr) (xs ys : List Int) (z : Int), vs = [.int (w : Nat), .ref a, .ref b, .int z] ∧ SqL K H a (xs.map V.int) ∧ SqL K H b (ys.map V.int) ∧ xs.length ≤ 100 ∧ ys.length ≤ 100 ∧ Small xs ∧ Small ys ∧ z ≤ 1000 ∧
  ∀ H', Same H H' → Q (R (outOf w xs ys z)) H'
theorem out_lt {w : Nat} {xs ys : List Int} {z : Int} (h : w < 9) : outOf w xs ys z = byT w xs ys := if_pos h
theorem out_no {w : Nat} {xs ys : List Int} {z : Int} (h : ¬ w < 9) (hz : z < 1) : outOf w xs ys z = .number := by
  unfold outOf
  rw [if_neg h, if_pos hz]
theorem out_ok {w : Nat} {xs ys : List Int} {z : Int} (h : ¬ w < 9) (hz : 1 ≤ z) : outOf w xs ys z = .done := by
  unfold outOf
  rw [if_neg h, if_neg (by omega)]
theorem ok_said {e_BadTable e_BadSize e_BadNumber e_NoTurn : Addr} (m_BadTable : mg "BadTable" = some (.ref e_BadTable)) (m_BadSize : mg "BadSize" = some (.ref e_BadSize)) (m_BadNumber : mg "BadNumber" = some (.ref e_BadNumber)) (m_NoTurn : mg "NoTurn" = some (.ref e_NoTurn))
    (X : Hd K e_BadTable e_BadSize e_BadNumber e_NoTurn) (F : Fun K "_law_said" "_law_said" s_law_said f fd)
    (c_law_by_table : Cal P w K mg base (CX1 P w) 10 "_law_by_table" ["_law_which", "_law_table", "_law_other"] (spByTable K e_BadTable e_BadSize e_BadNumber e_NoTurn)) (c_law_by_number : Cal P w K mg base (CX1 P w) 10 "_law_by_number" ["_law_which", "_law_number"] (spByNumber e_BadNumber)) :
    FnOk P w K mg base (CX1 P w) 11 f fd ["_law_which", "_law_table", "_law_other", "_law_number"] (spAsk K fun o => .str (word o)) := by
  refine Q2.okW F sc_law_said (fun vs H Q E h => ?_) (fun cdv A outer s H vs Q E hr h => ?_)
  · obtain ⟨w, a, b, xs, ys, z, rfl, _⟩ := h; rfl
  obtain ⟨w, a, b, xs, ys, z, rfl, hA, hB, hx, hy, hSx, hSy, hz, q⟩ := h
  refine ⟨_,
      (Q2.wss_cons (Q2.ws_set (i := 4) sc_law_said.nd rfl (Or.inl rfl) Q2.we_str Q2.sw_c)
      (Q2.wss_cons (Q2.ws_try rfl rfl (Q2.ph_cons rfl m_BadTable (by decide) (fun _ =>
        (Q2.wss_one (Q2.ws_set (i := 4) sc_law_said.nd rfl (Or.inl rfl) Q2.we_str Q2.sw_c))) (Q2.ph_cons rfl m_BadSize (by decide) (fun _ =>
        (Q2.wss_one (Q2.ws_set (i := 4) sc_law_said.nd rfl (Or.inl rfl) Q2.we_str Q2.sw_c))) (Q2.ph_cons rfl m_BadNumber (by decide) (fun _ =>
        (Q2.wss_one (Q2.ws_set (i := 4) sc_law_said.nd rfl (Or.inl rfl) Q2.we_str Q2.sw_c))) (Q2.ph_cons rfl m_NoTurn (by decide) (fun _ =>
        (Q2.wss_one (Q2.ws_set (i := 4) sc_law_said.nd rfl (Or.inl rfl) Q2.we_str Q2.sw_c))) Q2.PH.nil)))) (fun _ _ _ hx =>
        (Q2.wss_one (Q2.ws_if (Q2.wt_cmp op_lt (Q2.v 0) Q2.we_int (nomark _))
          (Q2.wss_one (Q2.ws_expr (Q2.we_calS c_law_by_table (hr.mono (by decide)) rfl hx (Q2.wa_cons (Q2.v 0) (Q2.wa_cons (Q2.v 1) (Q2.wa_cons (Q2.v 2) Q2.wa_nil Q2.star_n) Q2.star_n) Q2.star_n) Q2.star_n (Q2.anyS Q2.star_n (Q2.anyS Q2.star_n Q2.any0)))))
          (Q2.wss_one (Q2.ws_expr (Q2.we_calS c_law_by_number (hr.mono (by decide)) rfl hx (Q2.wa_cons (Q2.v 0) (Q2.wa_cons (Q2.v 3) Q2.wa_nil Q2.star_n) Q2.star_n) Q2.star_n (Q2.anyS Q2.star_n Q2.any0))))))))
      (Q2.wss_one (Q2.ws_ret (Q2.v 4))))), ?_⟩
  refine begin_ (σ' := [some (.int w), some (.ref a), some (.ref b), some (.int z), none]) rfl ?_
  try simp only [Q2.W, List.append_nil, decide_eq_true_eq, Bool.not_eq_true', decide_eq_false_iff_not, List.cons_append, List.nil_append, if_true, if_false, Bool.false_eq_true, Bool.not_true, Bool.not_false, not_true_eq_false, not_false_eq_true, true_and]
  refine ite2 (fun c => ?_) (fun c => ?_)
  · rw [out_lt (by omega)] at q
    refine ⟨w, a, b, xs, ys, rfl, by omega, hA, hB, hx, hy, hSx, hSy, fun hne => ?_, fun hd H' s1 => ?_⟩
    · have q1 := q H (Same.refl H)
      generalize byT w xs ys = o at hne q1 ⊢
      cases o with
      | done => exact absurd rfl hne
      | table =>
        simp only [clsOf]
        try simp only [Q2.W, List.append_nil, decide_eq_true_eq, Bool.not_eq_true', decide_eq_false_iff_not, List.cons_append, List.nil_append, if_true, if_false, Bool.false_eq_true, Bool.not_true, Bool.not_false, not_true_eq_false, not_false_eq_true, true_and]
        refine ⟨true, X.tt, ?_⟩
        try simp only [Q2.W, List.append_nil, decide_eq_true_eq, Bool.not_eq_true', decide_eq_false_iff_not, List.cons_append, List.nil_append, if_true, if_false, Bool.false_eq_true, Bool.not_true, Bool.not_false, not_true_eq_false, not_false_eq_true, true_and]
        exact q1
      | size =>
        simp only [clsOf]
        try simp only [Q2.W, List.append_nil, decide_eq_true_eq, Bool.not_eq_true', decide_eq_false_iff_not, List.cons_append, List.nil_append, if_true, if_false, Bool.false_eq_true, Bool.not_true, Bool.not_false, not_true_eq_false, not_false_eq_true, true_and]
        refine ⟨false, X.st, ?_⟩
        try simp only [Q2.W, List.append_nil, decide_eq_true_eq, Bool.not_eq_true', decide_eq_false_iff_not, List.cons_append, List.nil_append, if_true, if_false, Bool.false_eq_true, Bool.not_true, Bool.not_false, not_true_eq_false, not_false_eq_true, true_and]
        refine ⟨true, X.ss, ?_⟩
        try simp only [Q2.W, List.append_nil, decide_eq_true_eq, Bool.not_eq_true', decide_eq_false_iff_not, List.cons_append, List.nil_append, if_true, if_false, Bool.false_eq_true, Bool.not_true, Bool.not_false, not_true_eq_false, not_false_eq_true, true_and]
        exact q1
      | number =>
        simp only [clsOf]
        try simp only [Q2.W, List.append_nil, decide_eq_true_eq, Bool.not_eq_true', decide_eq_false_iff_not, List.cons_append, List.nil_append, if_true, if_false, Bool.false_eq_true, Bool.not_true, Bool.not_false, not_true_eq_false, not_false_eq_true, true_and]
        refine ⟨false, X.nt, ?_⟩
        try simp only [Q2.W, List.append_nil, decide_eq_true_eq, Bool.not_eq_true', decide_eq_false_iff_not, List.cons_append, List.nil_append, if_true, if_false, Bool.false_eq_true, Bool.not_true, Bool.not_false, not_true_eq_false, not_false_eq_true, true_and]
        refine ⟨false, X.ns, ?_⟩
        try simp only [Q2.W, List.append_nil, decide_eq_true_eq, Bool.not_eq_true', decide_eq_false_iff_not, List.cons_append, List.nil_append, if_true, if_false, Bool.false_eq_true, Bool.not_true, Bool.not_false, not_true_eq_false, not_false_eq_true, true_and]
        refine ⟨true, X.nn, ?_⟩
        try simp only [Q2.W, List.append_nil, decide_eq_true_eq, Bool.not_eq_true', decide_eq_false_iff_not, List.cons_append, List.nil_append, if_true, if_false, Bool.false_eq_true, Bool.not_true, Bool.not_false, not_true_eq_false, not_false_eq_true, true_and]
        exact q1
      | turn =>
        simp only [clsOf]
        try simp only [Q2.W, List.append_nil, decide_eq_true_eq, Bool.not_eq_true', decide_eq_false_iff_not, List.cons_append, List.nil_append, if_true, if_false, Bool.false_eq_true, Bool.not_true, Bool.not_false, not_true_eq_false, not_false_eq_true, true_and]
        refine ⟨false, X.ut, ?_⟩
        try simp only [Q2.W, List.append_nil, decide_eq_true_eq, Bool.not_eq_true', decide_eq_false_iff_not, List.cons_append, List.nil_append, if_true, if_false, Bool.false_eq_true, Bool.not_true, Bool.not_false, not_true_eq_false, not_false_eq_true, true_and]
        refine ⟨false, X.us, ?_⟩
        try simp only [Q2.W, List.append_nil, decide_eq_true_eq, Bool.not_eq_true', decide_eq_false_iff_not, List.cons_append, List.nil_append, if_true, if_false, Bool.false_eq_true, Bool.not_true, Bool.not_false, not_true_eq_false, not_false_eq_true, true_and]
        refine ⟨false, X.un, ?_⟩
        try simp only [Q2.W, List.append_nil, decide_eq_true_eq, Bool.not_eq_true', decide_eq_false_iff_not, List.cons_append, List.nil_append, if_true, if_false, Bool.false_eq_true, Bool.not_true, Bool.not_false, not_true_eq_false, not_false_eq_true, true_and]
        refine ⟨true, X.uu, ?_⟩
        try simp only [Q2.W, List.append_nil, decide_eq_true_eq, Bool.not_eq_true', decide_eq_false_iff_not, List.cons_append, List.nil_append, if_true, if_false, Bool.false_eq_true, Bool.not_true, Bool.not_false, not_true_eq_false, not_false_eq_true, true_and]
        exact q1
    · have q1 := q H' s1
      rw [hd] at q1
      exact q1
  · refine ⟨w, z, rfl, hz, fun h0 => ?_, fun h0 H' s1 => ?_⟩
    · have q1 := q H (Same.refl H)
      rw [out_no (by omega) h0] at q1
      try simp only [Q2.W, List.append_nil, decide_eq_true_eq, Bool.not_eq_true', decide_eq_false_iff_not, List.cons_append, List.nil_append, if_true, if_false, Bool.false_eq_true, Bool.not_true, Bool.not_false, not_true_eq_false, not_false_eq_true, true_and]
      refine ⟨false, X.nt, ?_⟩
      try simp only [Q2.W, List.append_nil, decide_eq_true_eq, Bool.not_eq_true', decide_eq_false_iff_not, List.cons_append, List.nil_append, if_true, if_false, Bool.false_eq_true, Bool.not_true, Bool.not_false, not_true_eq_false, not_false_eq_true, true_and]
      refine ⟨false, X.ns, ?_⟩
      try simp only [Q2.W, List.append_nil, decide_eq_true_eq, Bool.not_eq_true', decide_eq_false_iff_not, List.cons_append, List.nil_append, if_true, if_false, Bool.false_eq_true, Bool.not_true, Bool.not_false, not_true_eq_false, not_false_eq_true, true_and]
      refine ⟨true, X.nn, ?_⟩
      try simp only [Q2.W, List.append_nil, decide_eq_true_eq, Bool.not_eq_true', decide_eq_false_iff_not, List.cons_append, List.nil_append, if_true, if_false, Bool.false_eq_true, Bool.not_true, Bool.not_false, not_true_eq_false, not_false_eq_true, true_and]
      exact q1
    · have q1 := q H' s1
      rw [out_ok (by omega) h0] at q1
      exact q1
/-- what the law asks of an error's class -/
structure EF (K : PySem.W.Frag) (eB eN eT eS eU C : Addr) : Prop where
  z : ExcK K C
  x : PySem.W.exmOne K (.ref C) (.ref eB) = some true
  v : PySem.W.kitOne K (.ref C) (.type "ValueError") = some true
  b : ∃ b1 b2 b3 b4, PySem.W.kitOne K (.ref C) (.ref eN) = some b1 ∧ PySem.W.kitOne K (.ref C) (.ref eT) = some b2 ∧ PySem.W.kitOne K (.ref C) (.ref eS) = some b3 ∧ PySem.W.kitOne K (.ref C) (.ref eU) = some b4 ∧ [b1, b2, b3, b4].count true = 1
theorem isR_of {o : Out} (h : o ≠ .done) : isR o = true := by
  cases o with
  | done => exact absurd rfl h
  | _ => rfl
theorem ok_refuses (B : Bl mg) {e_BookError e_BadTable e_BadSize e_BadNumber e_NoTurn : Addr} (m_BookError : mg "BookError" = some (.ref e_BookError)) (m_BadTable : mg "BadTable" = some (.ref e_BadTable)) (m_BadSize : mg "BadSize" = some (.ref e_BadSize)) (m_BadNumber : mg "BadNumber" = some (.ref e_BadNumber)) (m_NoTurn : mg "NoTurn" = some (.ref e_NoTurn))
    (X : ∀ o, EF K e_BookError e_BadNumber e_BadTable e_BadSize e_NoTurn (clsOf e_BadTable e_BadSize e_BadNumber e_NoTurn o)) (F : Fun K "_law_refuses" "_law_refuses" s_law_refuses f fd)
    (c_law_by_table : Cal P w K mg base (CX1 P w) 10 "_law_by_table" ["_law_which", "_law_table", "_law_other"] (spByTable K e_BadTable e_BadSize e_BadNumber e_NoTurn)) (c_law_by_number : Cal P w K mg base (CX1 P w) 10 "_law_by_number" ["_law_which", "_law_number"] (spByNumber e_BadNumber)) :
    FnOk P w K mg base (CX1 P w) 11 f fd ["_law_which", "_law_table", "_law_other", "_law_number"] (spAsk K fun o => .bl (isR o)) := by
  refine Q2.okW F sc_law_refuses (fun vs H Q E h => ?_) (fun cdv A outer s H vs Q E hr h => ?_)
  · obtain ⟨w, a, b, xs, ys, z, rfl, _⟩ := h; rfl
  obtain ⟨w, a, b, xs, ys, z, rfl, hA, hB, hx, hy, hSx, hSy, hz, q⟩ := h
  refine ⟨_,
      (Q2.wss_cons (Q2.ws_tryAs (i := 4) rfl rfl rfl m_BookError (by decide) sc_law_refuses.nd rfl rfl (fun x C ob hob =>
        (Q2.wss_cons (Q2.ws_set (i := 5) sc_law_refuses.nd rfl (Or.inl rfl) (Q2.we_lst (Q2.wa_cons (Q2.we_callB (Q2.call_isiEK (K := K) rfl (List.mem_append_right _ (List.mem_singleton.mpr rfl)) hob) rfl B.b_isinstance PyProof.Rows.boot_isinstance (Q2.wa_cons (Q2.v 4) (Q2.wa_cons (Q2.we_glob (v := .ref e_BadNumber) rfl m_BadNumber rfl) Q2.wa_nil Q2.star_n) Q2.star_n) Q2.star_n (Q2.anyS Q2.star_n Q2.any0)) (Q2.wa_cons (Q2.we_callB (Q2.call_isiEK (K := K) rfl (List.mem_append_right _ (List.mem_singleton.mpr rfl)) hob) rfl B.b_isinstance PyProof.Rows.boot_isinstance (Q2.wa_cons (Q2.v 4) (Q2.wa_cons (Q2.we_glob (v := .ref e_BadTable) rfl m_BadTable rfl) Q2.wa_nil Q2.star_n) Q2.star_n) Q2.star_n (Q2.anyS Q2.star_n Q2.any0)) (Q2.wa_cons (Q2.we_callB (Q2.call_isiEK (K := K) rfl (List.mem_append_right _ (List.mem_singleton.mpr rfl)) hob) rfl B.b_isinstance PyProof.Rows.boot_isinstance (Q2.wa_cons (Q2.v 4) (Q2.wa_cons (Q2.we_glob (v := .ref e_BadSize) rfl m_BadSize rfl) Q2.wa_nil Q2.star_n) Q2.star_n) Q2.star_n (Q2.anyS Q2.star_n Q2.any0)) Q2.wa_nil Q2.star_call) Q2.star_call) Q2.star_call)) Q2.sw_l)
        (Q2.wss_cons (Q2.ws_set (i := 5) sc_law_refuses.nd rfl (Or.inl rfl) (Q2.we_op op_cat (Q2.v 5) (Q2.we_lst (Q2.wa_cons (Q2.we_callB (Q2.call_isiEK (K := K) rfl (List.mem_append_right _ (List.mem_singleton.mpr rfl)) hob) rfl B.b_isinstance PyProof.Rows.boot_isinstance (Q2.wa_cons (Q2.v 4) (Q2.wa_cons (Q2.we_glob (v := .ref e_NoTurn) rfl m_NoTurn rfl) Q2.wa_nil Q2.star_n) Q2.star_n) Q2.star_n (Q2.anyS Q2.star_n Q2.any0)) Q2.wa_nil Q2.star_call))) Q2.sw_b)
        (Q2.wss_one (Q2.ws_ret (Q2.we_and (Q2.we_callB (Q2.call_isiEK (K := K) rfl (List.mem_append_right _ (List.mem_singleton.mpr rfl)) hob) rfl B.b_isinstance PyProof.Rows.boot_isinstance (Q2.wa_cons (Q2.v 4) (Q2.wa_cons (Q2.we_bltn (v := .ty "ValueError") rfl B.b_ValueError Q2.boot_ValueError rfl) Q2.wa_nil Q2.star_n) Q2.star_n) Q2.star_n (Q2.anyS Q2.star_n Q2.any0)) (Q2.we_one (Q2.we_cmp op_eq (Q2.we_bmK (K := K) rfl PySem.F.plainAttrs_list PySem.F.slot_list_count PySem.F.type_list_count (Q2.mt_countBK (K := K) rfl) (Q2.v 5) (Q2.wa_cons Q2.we_bl Q2.wa_nil Q2.star_c) Q2.star_c Q2.ab_n) Q2.we_int (nomark _))))))))) (fun _ _ _ hx =>
        (Q2.wss_one (Q2.ws_if (Q2.wt_cmp op_lt (Q2.v 0) Q2.we_int (nomark _))
          (Q2.wss_one (Q2.ws_expr (Q2.we_calS c_law_by_table (hr.mono (by decide)) rfl hx (Q2.wa_cons (Q2.v 0) (Q2.wa_cons (Q2.v 1) (Q2.wa_cons (Q2.v 2) Q2.wa_nil Q2.star_n) Q2.star_n) Q2.star_n) Q2.star_n (Q2.anyS Q2.star_n (Q2.anyS Q2.star_n Q2.any0)))))
          (Q2.wss_one (Q2.ws_expr (Q2.we_calS c_law_by_number (hr.mono (by decide)) rfl hx (Q2.wa_cons (Q2.v 0) (Q2.wa_cons (Q2.v 3) Q2.wa_nil Q2.star_n) Q2.star_n) Q2.star_n (Q2.anyS Q2.star_n Q2.any0))))))))
      (Q2.wss_one (Q2.ws_ret Q2.we_bl))), ?_⟩
  refine begin_ (σ' := [some (.int w), some (.ref a), some (.ref b), some (.int z), none, none]) rfl ?_
  try simp only [Q2.W, List.append_nil, decide_eq_true_eq, Bool.not_eq_true', decide_eq_false_iff_not, List.cons_append, List.nil_append, if_true, if_false, Bool.false_eq_true, Bool.not_true, Bool.not_false, not_true_eq_false, not_false_eq_true, true_and]
  refine ite2 (fun c => ?_) (fun c => ?_)
  · rw [out_lt (by omega)] at q
    refine ⟨w, a, b, xs, ys, rfl, by omega, hA, hB, hx, hy, hSx, hSy, fun hne => ?_, fun hd H' s1 => ?_⟩
    · have q1 : ∀ H', Same H H' → Q (.bl true) H' := fun H' s1 => by
        have this : Q (.bl (isR (byT w xs ys))) H' := q H' s1
        rwa [isR_of hne] at this
      have Z := X (byT w xs ys)
      generalize clsOf e_BadTable e_BadSize e_BadNumber e_NoTurn (byT w xs ys) = C at Z ⊢
      try simp only [Q2.W, List.append_nil, decide_eq_true_eq, Bool.not_eq_true', decide_eq_false_iff_not, List.cons_append, List.nil_append, if_true, if_false, Bool.false_eq_true, Bool.not_true, Bool.not_false, not_true_eq_false, not_false_eq_true, true_and]
      obtain ⟨f1, f2, f3, f4, y1, y2, y3, y4, hcount⟩ := Z.b
      refine ⟨true, Z.x, rfl, fun x => ?_⟩
      have es : ([some (V.int w), some (V.ref a), some (V.ref b), some (V.int z), none, none] : St).set 4 (some (V.ref x)) = [some (V.int w), some (V.ref a), some (V.ref b), some (V.int z), some (V.ref x), none] := rfl
      rw [es]
      try simp only [Q2.W, List.append_nil, decide_eq_true_eq, Bool.not_eq_true', decide_eq_false_iff_not, List.cons_append, List.nil_append, if_true, if_false, Bool.false_eq_true, Bool.not_true, Bool.not_false, not_true_eq_false, not_false_eq_true, true_and]
      refine ⟨Z.z, _, y1, ?_⟩
      try simp only [Q2.W, List.append_nil, decide_eq_true_eq, Bool.not_eq_true', decide_eq_false_iff_not, List.cons_append, List.nil_append, if_true, if_false, Bool.false_eq_true, Bool.not_true, Bool.not_false, not_true_eq_false, not_false_eq_true, true_and]
      refine ⟨Z.z, _, y2, ?_⟩
      try simp only [Q2.W, List.append_nil, decide_eq_true_eq, Bool.not_eq_true', decide_eq_false_iff_not, List.cons_append, List.nil_append, if_true, if_false, Bool.false_eq_true, Bool.not_true, Bool.not_false, not_true_eq_false, not_false_eq_true, true_and]
      refine ⟨Z.z, _, y3, (show 3 ≤ sizeLine by decide), fun p1 hp1 => ?_⟩
      try simp only [Q2.W, List.append_nil, decide_eq_true_eq, Bool.not_eq_true', decide_eq_false_iff_not, List.cons_append, List.nil_append, if_true, if_false, Bool.false_eq_true, Bool.not_true, Bool.not_false, not_true_eq_false, not_false_eq_true, true_and]
      refine ⟨Z.z, _, y4, (show 1 ≤ sizeLine by decide), fun p2 hp2 => ?_⟩
      try simp only [Q2.W, List.append_nil, decide_eq_true_eq, Bool.not_eq_true', decide_eq_false_iff_not, List.cons_append, List.nil_append, if_true, if_false, Bool.false_eq_true, Bool.not_true, Bool.not_false, not_true_eq_false, not_false_eq_true, true_and]
      have s1 := upd_new (Same.refl H) hp1 (o := .lst [.bl f1, .bl f2, .bl f3])
      have s2 := upd_free s1 hp2 (o := .lst [.bl f4])
      refine ⟨[.bl f1, .bl f2, .bl f3], [.bl f4], by rw [upd_ne (ne_of_none upd_same hp2), upd_same], upd_same, (show 4 ≤ sizeLine by decide), fun p3 hp3 => ?_⟩
      try simp only [Q2.W, List.append_nil, decide_eq_true_eq, Bool.not_eq_true', decide_eq_false_iff_not, List.cons_append, List.nil_append, if_true, if_false, Bool.false_eq_true, Bool.not_true, Bool.not_false, not_true_eq_false, not_false_eq_true, true_and]
      refine ⟨Z.z, _, Z.v, ?_⟩
      try simp only [Q2.W, List.append_nil, decide_eq_true_eq, Bool.not_eq_true', decide_eq_false_iff_not, List.cons_append, List.nil_append, if_true, if_false, Bool.false_eq_true, Bool.not_true, Bool.not_false, not_true_eq_false, not_false_eq_true, true_and]
      have s3 := upd_free s2 hp3 (o := .lst ([.bl f1, .bl f2, .bl f3] ++ [.bl f4]))
      refine ⟨.inl ⟨rfl, _, SqL.of upd_same⟩, [f1, f2, f3, f4], SqL.of upd_same, ?_⟩
      try simp only [Q2.W, List.append_nil, decide_eq_true_eq, Bool.not_eq_true', decide_eq_false_iff_not, List.cons_append, List.nil_append, if_true, if_false, Bool.false_eq_true, Bool.not_true, Bool.not_false, not_true_eq_false, not_false_eq_true, true_and]
      rw [hcount]
      exact q1 _ s3
    · have q1 := q H' s1
      rw [hd] at q1
      exact q1
  · refine ⟨w, z, rfl, hz, fun h0 => ?_, fun h0 H' s1 => ?_⟩
    · have q1 : ∀ H', Same H H' → Q (.bl true) H' := fun H' s1 => by
        have := q H' s1
        rwa [out_no (by omega) h0] at this
      have Z : EF K e_BookError e_BadNumber e_BadTable e_BadSize e_NoTurn e_BadNumber := X .number
      generalize hC : e_BadNumber = C at Z
      try simp only [Q2.W, List.append_nil, decide_eq_true_eq, Bool.not_eq_true', decide_eq_false_iff_not, List.cons_append, List.nil_append, if_true, if_false, Bool.false_eq_true, Bool.not_true, Bool.not_false, not_true_eq_false, not_false_eq_true, true_and]
      obtain ⟨f1, f2, f3, f4, y1, y2, y3, y4, hcount⟩ := Z.b
      refine ⟨true, Z.x, rfl, fun x => ?_⟩
      have es : ([some (V.int w), some (V.ref a), some (V.ref b), some (V.int z), none, none] : St).set 4 (some (V.ref x)) = [some (V.int w), some (V.ref a), some (V.ref b), some (V.int z), some (V.ref x), none] := rfl
      rw [es]
      try simp only [Q2.W, List.append_nil, decide_eq_true_eq, Bool.not_eq_true', decide_eq_false_iff_not, List.cons_append, List.nil_append, if_true, if_false, Bool.false_eq_true, Bool.not_true, Bool.not_false, not_true_eq_false, not_false_eq_true, true_and]
      refine ⟨Z.z, _, y1, ?_⟩
      try simp only [Q2.W, List.append_nil, decide_eq_true_eq, Bool.not_eq_true', decide_eq_false_iff_not, List.cons_append, List.nil_append, if_true, if_false, Bool.false_eq_true, Bool.not_true, Bool.not_false, not_true_eq_false, not_false_eq_true, true_and]
      refine ⟨Z.z, _, y2, ?_⟩
      try simp only [Q2.W, List.append_nil, decide_eq_true_eq, Bool.not_eq_true', decide_eq_false_iff_not, List.cons_append, List.nil_append, if_true, if_false, Bool.false_eq_true, Bool.not_true, Bool.not_false, not_true_eq_false, not_false_eq_true, true_and]
      refine ⟨Z.z, _, y3, (show 3 ≤ sizeLine by decide), fun p1 hp1 => ?_⟩
      try simp only [Q2.W, List.append_nil, decide_eq_true_eq, Bool.not_eq_true', decide_eq_false_iff_not, List.cons_append, List.nil_append, if_true, if_false, Bool.false_eq_true, Bool.not_true, Bool.not_false, not_true_eq_false, not_false_eq_true, true_and]
      refine ⟨Z.z, _, y4, (show 1 ≤ sizeLine by decide), fun p2 hp2 => ?_⟩
      try simp only [Q2.W, List.append_nil, decide_eq_true_eq, Bool.not_eq_true', decide_eq_false_iff_not, List.cons_append, List.nil_append, if_true, if_false, Bool.false_eq_true, Bool.not_true, Bool.not_false, not_true_eq_false, not_false_eq_true, true_and]
      have s1 := upd_new (Same.refl H) hp1 (o := .lst [.bl f1, .bl f2, .bl f3])
      have s2 := upd_free s1 hp2 (o := .lst [.bl f4])
      refine ⟨[.bl f1, .bl f2, .bl f3], [.bl f4], by rw [upd_ne (ne_of_none upd_same hp2), upd_same], upd_same, (show 4 ≤ sizeLine by decide), fun p3 hp3 => ?_⟩
      try simp only [Q2.W, List.append_nil, decide_eq_true_eq, Bool.not_eq_true', decide_eq_false_iff_not, List.cons_append, List.nil_append, if_true, if_false, Bool.false_eq_true, Bool.not_true, Bool.not_false, not_true_eq_false, not_false_eq_true, true_and]
      refine ⟨Z.z, _, Z.v, ?_⟩
      try simp only [Q2.W, List.append_nil, decide_eq_true_eq, Bool.not_eq_true', decide_eq_false_iff_not, List.cons_append, List.nil_append, if_true, if_false, Bool.false_eq_true, Bool.not_true, Bool.not_false, not_true_eq_false, not_false_eq_true, true_and]
      have s3 := upd_free s2 hp3 (o := .lst ([.bl f1, .bl f2, .bl f3] ++ [.bl f4]))
      refine ⟨.inl ⟨rfl, _, SqL.of upd_same⟩, [f1, f2, f3, f4], SqL.of upd_same, ?_⟩
      try simp only [Q2.W, List.append_nil, decide_eq_true_eq, Bool.not_eq_true', decide_eq_false_iff_not, List.cons_append, List.nil_append, if_true, if_false, Bool.false_eq_true, Bool.not_true, Bool.not_false, not_true_eq_false, not_false_eq_true, true_and]
      rw [hcount]
      exact q1 _ s3
    · have q1 := q H' s1
      rw [out_ok (by omega) h0] at q1
      exact q1
/-! #### the law -/
theorem cut_any {ns : List Int} {i j : Nat} (h1 : i ≤ j) : ∃ ms : List Int, cutV (ns.map V.int) (some (i : Int)) (some (j : Int)) = ms.map V.int ∧ ms.length ≤ j - i := by
  unfold cutV HT.sIx
  have e1 : ¬ ((i : Nat) : Int) < 0 := by omega
  have e2 : ¬ ((j : Nat) : Int) < 0 := by omega
  simp only [e1, e2, if_false, List.length_map, Int.toNat_natCast]
  refine ⟨(ns.drop (min i ns.length)).take (min j ns.length - min i ns.length), ?_, ?_⟩
  · rw [List.map_take, List.map_drop]
  · rw [List.length_take]
    omega
def due1 (w : Nat) (xs ys : List Int) : Str := if 6 < w ∧ ys.length ≠ xs.length then "size" else "done"
def due2 (w : Nat) (xs ys : List Int) : Str := if w = 2 ∧ xs ≠ [] ∧ ent xs 1 ≠ 1 ∧ ent xs 1 ≠ -1 then "turn" else due1 w xs ys
def due3 (w : Nat) (xs ys : List Int) : Str := if (w < 9 ∧ xs = []) ∨ ((w = 7 ∨ w = 8) ∧ ys = []) then "table" else due2 w xs ys
def due4 (w : Nat) (xs ys : List Int) (z : Int) : Str := if 8 < w then (if z < 1 then "number" else "done") else due3 w xs ys
theorem due_eq (w : Nat) (xs ys : List Int) (z : Int) : due4 w xs ys z = word (outOf w xs ys z) := by
  unfold due4 outOf
  by_cases h8 : 8 < w
  · rw [if_pos h8, if_neg (show ¬ w < 9 by omega)]
    by_cases hz : z < 1
    · rw [if_pos hz, if_pos hz]; rfl
    · rw [if_neg hz, if_neg hz]; rfl
  · rw [if_neg h8, if_pos (show w < 9 by omega)]
    unfold due3 byT
    by_cases hx : xs = []
    · rw [if_pos (.inl ⟨by omega, hx⟩), if_pos hx]; rfl
    · rw [if_neg hx]
      by_cases h7 : 7 ≤ w
      · rw [if_pos h7]
        by_cases hy : ys = []
        · rw [if_pos (.inr ⟨by omega, hy⟩), if_pos hy]; rfl
        · rw [if_neg (fun z => z.elim (fun y => hx y.2) fun y => hy y.2), if_neg hy]
          unfold due2 due1
          rw [if_neg (fun z => by omega)]
          by_cases hs : ys.length ≠ xs.length
          · rw [if_pos ⟨by omega, hs⟩, if_pos hs]; rfl
          · rw [if_neg (fun z => hs z.2), if_neg hs]; rfl
      · rw [if_neg (fun z => z.elim (fun y => hx y.2) fun y => by omega), if_neg h7]
        unfold due2 due1
        by_cases h2 : w = 2 ∧ ent xs 1 ≠ 1 ∧ ent xs 1 ≠ -1
        · rw [if_pos ⟨h2.1, hx, h2.2⟩, if_pos h2]; rfl
        · rw [if_neg (fun z => h2 ⟨z.1, z.2.2⟩), if_neg h2, if_neg (fun z => by omega)]; rfl
theorem word_done (o : Out) : (!decide (word o = ("done" : Str))) = isR o := by
  cases o <;> decide +kernel
theorem in78 (i : Nat) : inV (.int ((i : Nat) : Int)) [.int 7, .int 8] = decide (i = 7 ∨ i = 8) := by
  unfold inV
  simp only [List.any_cons, List.any_nil, eqV, Bool.or_false]
  by_cases h7 : i = 7
  · subst h7; rfl
  · by_cases h8 : i = 8
    · subst h8; rfl
    · rw [decide_eq_false (by omega), Bool.or_eq_false_iff]
      refine ⟨beq_eq_false_iff_ne.mpr (by omega), beq_eq_false_iff_ne.mpr (by omega)⟩
theorem ok_law (B : Bl mg) (F : Fun K "law" "law" s_law f fd) (c_law_table_by : Cal P w K mg base (CX1 P w) 1 "_law_table_by" ["_law_cells"] (spTableBy K)) (c_law_at : Cal P w K mg base (CX1 P w) 1 "_law_at" ["_law_script", "_law_k"] (spAt K))
    (c_law_said : Cal P w K mg base (CX1 P w) 11 "_law_said" ["_law_which", "_law_table", "_law_other", "_law_number"] (spAsk K fun o => .str (word o))) (c_law_refuses : Cal P w K mg base (CX1 P w) 11 "_law_refuses" ["_law_which", "_law_table", "_law_other", "_law_number"] (spAsk K fun o => .bl (isR o))) :
    FnOk P w K mg base (CX1 P w) 12 f fd ["_law_script"] (spLaw K) := by
  refine Q2.okW F sc_law (fun vs H Q E h => ?_) (fun cdv A outer s H vs Q E hr h => ?_)
  · obtain ⟨a, ns, rfl, _⟩ := h; rfl
  obtain ⟨a, ns, rfl, hA, hlen, q⟩ := h
  refine ⟨_,
      (Q2.wss_cons (Q2.ws_set (i := 0) sc_law.nd rfl (Or.inl rfl) (Q2.we_slice sl_list (Q2.v 0) Q2.wo_none (Q2.wo_some Q2.we_int)) Q2.sw_s)
      (Q2.wss_cons (Q2.ws_set (i := 1) sc_law.nd rfl (Or.inl rfl) (Q2.we_cal c_law_table_by (hr.mono (by decide)) rfl (Q2.wa_cons (Q2.we_slice sl_list (Q2.v 0) (Q2.wo_some Q2.we_int) (Q2.wo_some Q2.we_int)) Q2.wa_nil Q2.star_s) Q2.star_s Q2.any0) Q2.sw_call)
      (Q2.wss_cons (Q2.ws_if (Q2.wt_cmp op_eq (Q2.we_op op_mod (Q2.we_cal c_law_at (hr.mono (by decide)) rfl (Q2.wa_cons (Q2.v 0) (Q2.wa_cons Q2.we_int Q2.wa_nil Q2.star_c) Q2.star_n) Q2.star_n (Q2.anyS Q2.star_c Q2.any0)) Q2.we_int) Q2.we_int (nomark _))
        (Q2.wss_one (Q2.ws_set (i := 1) sc_law.nd rfl (Or.inl rfl) (Q2.we_lst Q2.wa_nil) Q2.sw_l))
        Q2.wss_nil)
      (Q2.wss_cons (Q2.ws_set (i := 2) sc_law.nd rfl (Or.inl rfl) (Q2.we_op op_mod (Q2.we_cal c_law_at (hr.mono (by decide)) rfl (Q2.wa_cons (Q2.v 0) (Q2.wa_cons Q2.we_int Q2.wa_nil Q2.star_c) Q2.star_n) Q2.star_n (Q2.anyS Q2.star_c Q2.any0)) Q2.we_int) Q2.sw_b)
      (Q2.wss_cons (Q2.ws_set (i := 3) sc_law.nd rfl (Or.inl rfl) (Q2.we_ix ix_list (Q2.we_lst (Q2.wa_cons (Q2.we_callTy call_list_of rfl B.b_list PyProof.Rows.boot_list (Q2.wa_cons (Q2.v 1) Q2.wa_nil Q2.star_n) Q2.star_n Q2.any0) (Q2.wa_cons (Q2.we_op op_cat (Q2.v 1) (Q2.we_lst (Q2.wa_cons Q2.we_int Q2.wa_nil Q2.star_c))) (Q2.wa_cons (Q2.we_lst (Q2.wa_cons Q2.we_int Q2.wa_nil Q2.star_c)) (Q2.wa_cons (Q2.we_callTy call_list_of rfl B.b_list PyProof.Rows.boot_list (Q2.wa_cons (Q2.v 1) Q2.wa_nil Q2.star_n) Q2.star_n Q2.any0) Q2.wa_nil Q2.star_call) Q2.star_l) Q2.star_b) Q2.star_call)) (Q2.v 2) Q2.ix_n) Q2.sw_s)
      (Q2.wss_cons (Q2.ws_set (i := 4) sc_law.nd rfl (Or.inl rfl) (Q2.we_op op_sub (Q2.we_op op_mod (Q2.we_cal c_law_at (hr.mono (by decide)) rfl (Q2.wa_cons (Q2.v 0) (Q2.wa_cons Q2.we_int Q2.wa_nil Q2.star_c) Q2.star_n) Q2.star_n (Q2.anyS Q2.star_c Q2.any0)) Q2.we_int) Q2.we_int) Q2.sw_b)
      (Q2.wss_cons (Q2.ws_for PassesOwn.never rfl (Q2.wi_range1 rfl B.b_range (Q2.wa_cons Q2.we_int Q2.wa_nil Q2.star_c) (Q2.star1 Q2.star_c)) (Q2.wg_name (i := 5) sc_law.nd rfl (Or.inl rfl))
        (Q2.wss_cons (Q2.ws_set (i := 6) sc_law.nd rfl (Or.inl rfl) Q2.we_str Q2.sw_c)
        (Q2.wss_cons (Q2.ws_if (Q2.wt_w (Q2.ww_and (Q2.wt_cmp op_gt (Q2.v 5) Q2.we_int (nomark _)) (Q2.ww_and1 (Q2.wt_cmp op_ne (Q2.we_callB call_len_seq rfl B.b_len PySem.boot_len (Q2.wa_cons (Q2.v 3) Q2.wa_nil Q2.star_n) Q2.star_n Q2.any0) (Q2.we_callB call_len_seq rfl B.b_len PySem.boot_len (Q2.wa_cons (Q2.v 1) Q2.wa_nil Q2.star_n) Q2.star_n Q2.any0) (nomark _)))))
          (Q2.wss_one (Q2.ws_set (i := 6) sc_law.nd rfl (Or.inl rfl) Q2.we_str Q2.sw_c))
          Q2.wss_nil)
        (Q2.wss_cons (Q2.ws_if (Q2.wt_w (Q2.ww_and (Q2.wt_cmp op_eq (Q2.v 5) Q2.we_int (nomark _)) (Q2.ww_and (Q2.wt_cmp (Q2.op_neL hr.units) (Q2.v 1) (Q2.we_lst Q2.wa_nil) (nomark _)) (Q2.ww_and (Q2.wt_cmp op_ne (Q2.we_ix ix_list (Q2.v 1) Q2.we_int Q2.ix_c) Q2.we_int (nomark _)) (Q2.ww_and1 (Q2.wt_cmp op_ne (Q2.we_ix ix_list (Q2.v 1) Q2.we_int Q2.ix_c) (Q2.we_un un_neg Q2.we_int) (nomark _)))))))
          (Q2.wss_one (Q2.ws_set (i := 6) sc_law.nd rfl (Or.inl rfl) Q2.we_str Q2.sw_c))
          Q2.wss_nil)
        (Q2.wss_cons (Q2.ws_if (Q2.wt_w (Q2.ww_or (Q2.wt_w (Q2.ww_and (Q2.wt_cmp op_lt (Q2.v 5) Q2.we_int (nomark _)) (Q2.ww_and1 (Q2.wt_cmp (Q2.op_eqL hr.units) (Q2.v 1) (Q2.we_lst Q2.wa_nil) (nomark _))))) (Q2.ww_or1 (Q2.wt_w (Q2.ww_and (Q2.wt_cmp op_in_seq (Q2.v 5) (Q2.we_lst (Q2.wa_cons Q2.we_int (Q2.wa_cons Q2.we_int Q2.wa_nil Q2.star_c) Q2.star_c)) rfl) (Q2.ww_and1 (Q2.wt_cmp (Q2.op_eqL hr.units) (Q2.v 3) (Q2.we_lst Q2.wa_nil) (nomark _))))))))
          (Q2.wss_one (Q2.ws_set (i := 6) sc_law.nd rfl (Or.inl rfl) Q2.we_str Q2.sw_c))
          Q2.wss_nil)
        (Q2.wss_cons (Q2.ws_if (Q2.wt_cmp op_gt (Q2.v 5) Q2.we_int (nomark _))
          (Q2.wss_one (Q2.ws_set (i := 6) sc_law.nd rfl (Or.inl rfl) (Q2.we_ix ix_list (Q2.we_lst (Q2.wa_cons Q2.we_str (Q2.wa_cons Q2.we_str Q2.wa_nil Q2.star_c) Q2.star_c)) (Q2.we_callTy call_int1 rfl B.b_int PyProof.Rows.boot_int (Q2.wa_cons (Q2.we_cmp op_lt (Q2.v 4) Q2.we_int (nomark _)) Q2.wa_nil Q2.star_cmp) Q2.star_cmp Q2.any0) Q2.ix_call) Q2.sw_s))
          Q2.wss_nil)
        (Q2.wss_cons (Q2.ws_set (i := 7) sc_law.nd rfl (Or.inl rfl) (Q2.we_callTy call_list_of rfl B.b_list PyProof.Rows.boot_list (Q2.wa_cons (Q2.v 1) Q2.wa_nil Q2.star_n) Q2.star_n Q2.any0) Q2.sw_call)
        (Q2.wss_cons (Q2.ws_set (i := 8) sc_law.nd rfl (Or.inl rfl) (Q2.we_callTy call_list_of rfl B.b_list PyProof.Rows.boot_list (Q2.wa_cons (Q2.v 3) Q2.wa_nil Q2.star_n) Q2.star_n Q2.any0) Q2.sw_call)
        (Q2.wss_cons (Q2.ws_if (Q2.wt_cmp op_ne (Q2.we_cal c_law_said (hr.mono (by decide)) rfl (Q2.wa_cons (Q2.v 5) (Q2.wa_cons (Q2.v 7) (Q2.wa_cons (Q2.v 8) (Q2.wa_cons (Q2.v 4) Q2.wa_nil Q2.star_n) Q2.star_n) Q2.star_n) Q2.star_n) Q2.star_n (Q2.anyS Q2.star_n (Q2.anyS Q2.star_n (Q2.anyS Q2.star_n Q2.any0)))) (Q2.v 6) (nomark _))
          (Q2.wss_one (Q2.ws_ret Q2.we_bl))
          Q2.wss_nil)
        (Q2.wss_cons (Q2.ws_if (Q2.wt_cmp op_ne (Q2.we_cal c_law_refuses (hr.mono (by decide)) rfl (Q2.wa_cons (Q2.v 5) (Q2.wa_cons (Q2.v 7) (Q2.wa_cons (Q2.v 8) (Q2.wa_cons (Q2.v 4) Q2.wa_nil Q2.star_n) Q2.star_n) Q2.star_n) Q2.star_n) Q2.star_n (Q2.anyS Q2.star_n (Q2.anyS Q2.star_n (Q2.anyS Q2.star_n Q2.any0)))) (Q2.we_cmp op_ne (Q2.v 6) Q2.we_str (nomark _)) (nomark _))
          (Q2.wss_one (Q2.ws_ret Q2.we_bl))
          Q2.wss_nil)
        (Q2.wss_one (Q2.ws_if (Q2.wt_w (Q2.ww_or (Q2.wt_cmp (Q2.op_neL hr.units) (Q2.v 7) (Q2.v 1) (nomark _)) (Q2.ww_or1 (Q2.wt_cmp (Q2.op_neL hr.units) (Q2.v 8) (Q2.v 3) (nomark _)))))
          (Q2.wss_one (Q2.ws_ret Q2.we_bl))
          Q2.wss_nil))))))))))) (fun x => Q2.fs_call x))
      (Q2.wss_one (Q2.ws_ret Q2.we_bl))))))))), ?_⟩
  refine begin_ (σ' := [some (.ref a), none, none, none, none, none, none, none, none]) rfl ?_
  rw [tSeq_ap]
  try simp only [Q2.W0, List.append_nil, decide_eq_true_eq, Bool.not_eq_true', decide_eq_false_iff_not, List.cons_append, List.nil_append, if_true, if_false, Bool.false_eq_true, Bool.not_true, Bool.not_false, not_true_eq_false, not_false_eq_true, true_and]
  refine ⟨_, hA, fun p hp => ?_⟩
  rw [show (500 : Int) = ((500 : Nat) : Int) from rfl, cut_to, List.take_of_length_le (by rw [List.length_map]; omega)]
  try simp only [Q2.W0, List.append_nil, decide_eq_true_eq, Bool.not_eq_true', decide_eq_false_iff_not, List.cons_append, List.nil_append, if_true, if_false, Bool.false_eq_true, Bool.not_true, Bool.not_false, not_true_eq_false, not_false_eq_true, true_and]
  rw [tSeq_ap]
  try simp only [Q2.W0, List.append_nil, decide_eq_true_eq, Bool.not_eq_true', decide_eq_false_iff_not, List.cons_append, List.nil_append, if_true, if_false, Bool.false_eq_true, Bool.not_true, Bool.not_false, not_true_eq_false, not_false_eq_true, true_and]
  obtain ⟨ms, ems0, hms⟩ := cut_any (ns := ns) (i := 3) (j := 33) (by omega)
  have ems : cutV (ns.map V.int) (some 3) (some 33) = ms.map V.int := ems0
  refine ⟨_, SqL.of upd_same, fun p2 hp2 => ?_⟩
  rw [ems]
  have g1 := upd_new (H1 := upd H p (.lst (ns.map V.int))) (Same.refl _) hp2 (o := .lst (ms.map V.int))
  have h1 := g1 _ _ upd_same
  refine ⟨p2, ms, rfl, SqL.of upd_same, by omega, fun t0 xs0 H1 hxl0 hxs0 s1 ht0 ht1 => ?_⟩
  have hp1 := s1 _ _ h1
  try simp only [Q2.W0, List.append_nil, decide_eq_true_eq, Bool.not_eq_true', decide_eq_false_iff_not, List.cons_append, List.nil_append, if_true, if_false, Bool.false_eq_true, Bool.not_true, Bool.not_false, not_true_eq_false, not_false_eq_true, true_and]
  refine seq_cut (fun σ H2 => ∃ (t : Addr) (xs : List Int), σ = [some (.ref p), some (.ref t), none, none, none, none, none, none, none] ∧ H2 p = some (.lst (ns.map V.int)) ∧ H2 t = some (.lst (xs.map V.int)) ∧ xs.length ≤ 30 ∧ Small xs) ?_ (fun U hU => ?_)
  rotate_left
  · try simp only [Q2.W, List.append_nil, decide_eq_true_eq, Bool.not_eq_true', decide_eq_false_iff_not, List.cons_append, List.nil_append, if_true, if_false, Bool.false_eq_true, Bool.not_true, Bool.not_false, not_true_eq_false, not_false_eq_true, true_and]
    refine ⟨p, ns, 0, rfl, SqL.of hp1, Int.le_refl 0, fun z => ?_⟩
    try simp only [Q2.W, List.append_nil, decide_eq_true_eq, Bool.not_eq_true', decide_eq_false_iff_not, List.cons_append, List.nil_append, if_true, if_false, Bool.false_eq_true, Bool.not_true, Bool.not_false, not_true_eq_false, not_false_eq_true, true_and]
    refine ⟨by decide, ?_⟩
    refine ite2 (fun c => ?_) (fun c => ?_)
    · refine ⟨Nat.zero_le _, fun t2 ht2 => hU _ _ ⟨t2, [], rfl, ?_, upd_same, by show 0 ≤ 30; omega, fun y hy => absurd hy (by simp)⟩⟩
      rw [upd_ne (ne_of_none hp1 ht2)]
      exact hp1
    · exact hU _ _ ⟨t0, xs0, rfl, hp1, ht1, by omega, hxs0⟩
  rintro σ H2 ⟨t, xs, rfl, hp2', ht2, hxl, hxs⟩
  rw [tSeq_ap]
  try simp only [Q2.W0, List.append_nil, decide_eq_true_eq, Bool.not_eq_true', decide_eq_false_iff_not, List.cons_append, List.nil_append, if_true, if_false, Bool.false_eq_true, Bool.not_true, Bool.not_false, not_true_eq_false, not_false_eq_true, true_and]
  refine ⟨p, ns, 1, rfl, SqL.of hp2', by decide, fun z1 => ?_⟩
  try simp only [Q2.W0, List.append_nil, decide_eq_true_eq, Bool.not_eq_true', decide_eq_false_iff_not, List.cons_append, List.nil_append, if_true, if_false, Bool.false_eq_true, Bool.not_true, Bool.not_false, not_true_eq_false, not_false_eq_true, true_and]
  refine ⟨by decide, ?_⟩
  have w1 := Int.emod_nonneg z1 (show (4 : Int) ≠ 0 by decide)
  have w2 := Int.emod_lt_of_pos z1 (show (0 : Int) < 4 by decide)
  generalize z1 % 4 = way at w1 w2 ⊢
  rw [tSeq_ap]
  try simp only [Q2.W0, List.append_nil, decide_eq_true_eq, Bool.not_eq_true', decide_eq_false_iff_not, List.cons_append, List.nil_append, if_true, if_false, Bool.false_eq_true, Bool.not_true, Bool.not_false, not_true_eq_false, not_false_eq_true, true_and]
  refine ⟨t, _, rfl, .inl (SqL.of ht2), fun l1 hl1 => ?_⟩
  have r1 := upd_new (Same.refl H2) hl1 (o := .lst (xs.map V.int))
  try simp only [Q2.W0, List.append_nil, decide_eq_true_eq, Bool.not_eq_true', decide_eq_false_iff_not, List.cons_append, List.nil_append, if_true, if_false, Bool.false_eq_true, Bool.not_true, Bool.not_false, not_true_eq_false, not_false_eq_true, true_and]
  refine ⟨(show 1 ≤ sizeLine by decide), fun p3 hp3 => ?_⟩
  have r2 := upd_free r1 hp3 (o := .lst [.int 1])
  refine ⟨xs.map V.int, [.int 1], r2 _ _ ht2, upd_same, ?_, fun l2 hl2 => ?_⟩
  · rw [List.length_map]
    exact Nat.le_of_lt (small_len (by show xs.length + 1 ≤ 100000; omega))
  have r3 := upd_free r2 hl2 (o := .lst (xs.map V.int ++ [.int 1]))
  refine ⟨(show 1 ≤ sizeLine by decide), fun l3 hl3 => ?_⟩
  have r4 := upd_free r3 hl3 (o := .lst [.int 1])
  refine ⟨t, _, rfl, .inl (SqL.of (r4 _ _ ht2)), fun l4 hl4 => ?_⟩
  have r5 := upd_free r4 hl4 (o := .lst (xs.map V.int))
  try simp only [Q2.W0, List.append_nil, decide_eq_true_eq, Bool.not_eq_true', decide_eq_false_iff_not, List.cons_append, List.nil_append, if_true, if_false, Bool.false_eq_true, Bool.not_true, Bool.not_false, not_true_eq_false, not_false_eq_true, true_and]
  refine ⟨(show 4 ≤ sizeLine by decide), fun L hL => ?_⟩
  have r6 := upd_free r5 hL (o := .lst [.ref l1, .ref l2, .ref l3, .ref l4])
  obtain ⟨v, hv, hm⟩ := atI_mem (xs := ([.ref l1, .ref l2, .ref l3, .ref l4] : List V)) w1 w2
  have k1 : ∀ {H0 : Hp} {b c : Addr} {o o2 : HO}, H0 b = some o → H0 c = none → upd H0 c o2 b = some o := fun e1 e2 => by
    rw [upd_ne (ne_of_none e1 e2)]
    exact e1
  have hv2 : ∃ (b : Addr) (ys : List Int), v = .ref b ∧ upd (upd (upd (upd (upd (upd H2 l1 (.lst (xs.map V.int))) p3 (.lst [.int 1])) l2 (.lst (xs.map V.int ++ [.int 1]))) l3 (.lst [.int 1])) l4 (.lst (xs.map V.int))) L (.lst [.ref l1, .ref l2, .ref l3, .ref l4]) b = some (.lst (ys.map V.int)) ∧ ys.length ≤ 31 ∧ Small ys := by
    have one : Small [1] := fun y hy => by rw [List.mem_singleton.mp hy]; omega
    simp only [List.mem_cons, List.not_mem_nil, or_false] at hm
    rcases hm with e | e | e | e
    · exact ⟨l1, xs, e, k1 (k1 (k1 (k1 (k1 upd_same hp3) hl2) hl3) hl4) hL, by omega, hxs⟩
    · refine ⟨l2, xs ++ [1], e, ?_, by rw [List.length_append]; show xs.length + 1 ≤ 31; omega, fun y hy => ?_⟩
      · rw [List.map_append]
        exact k1 (k1 (k1 upd_same hl3) hl4) hL
      · rcases List.mem_append.mp hy with z | z
        · exact hxs y z
        · exact one y z
    · exact ⟨l3, [1], e, k1 (k1 upd_same hl4) hL, by show 1 ≤ 31; omega, one⟩
    · exact ⟨l4, xs, e, k1 upd_same hL, by omega, hxs⟩
  obtain ⟨b, ys, rfl, hb, hyl, hys⟩ := hv2
  refine ⟨_, _, SqL.of upd_same, hv, ?_⟩
  have hp3' := r6 _ _ hp2'
  have ht3 := r6 _ _ ht2
  generalize upd (upd (upd (upd (upd (upd H2 l1 (.lst (xs.map V.int))) p3 (.lst [.int 1])) l2 (.lst (xs.map V.int ++ [.int 1]))) l3 (.lst [.int 1])) l4 (.lst (xs.map V.int))) L (.lst [.ref l1, .ref l2, .ref l3, .ref l4]) = H3 at hb hp3' ht3 ⊢
  clear r1 r2 r3 r4 r5 r6 k1 hm hv hl1 hp3 hl2 hl3 hl4 hL
  try simp only [Q2.W0, List.append_nil, decide_eq_true_eq, Bool.not_eq_true', decide_eq_false_iff_not, List.cons_append, List.nil_append, if_true, if_false, Bool.false_eq_true, Bool.not_true, Bool.not_false, not_true_eq_false, not_false_eq_true, true_and]
  rw [tSeq_ap]
  try simp only [Q2.W0, List.append_nil, decide_eq_true_eq, Bool.not_eq_true', decide_eq_false_iff_not, List.cons_append, List.nil_append, if_true, if_false, Bool.false_eq_true, Bool.not_true, Bool.not_false, not_true_eq_false, not_false_eq_true, true_and]
  refine ⟨p, ns, 2, rfl, SqL.of hp3', by decide, fun z2 => ?_⟩
  try simp only [Q2.W0, List.append_nil, decide_eq_true_eq, Bool.not_eq_true', decide_eq_false_iff_not, List.cons_append, List.nil_append, if_true, if_false, Bool.false_eq_true, Bool.not_true, Bool.not_false, not_true_eq_false, not_false_eq_true, true_and]
  refine ⟨by decide, ?_⟩
  have n1 := Int.emod_nonneg z2 (show (6 : Int) ≠ 0 by decide)
  have n2 := Int.emod_lt_of_pos z2 (show (0 : Int) < 6 by decide)
  obtain ⟨z, hz⟩ : ∃ z, z2 % 6 - 2 = z := ⟨_, rfl⟩
  have hz3 : z ≤ 1000 := by omega
  rw [hz]
  clear hz n1 n2
  rw [tSeq_ap]
  try simp only [Q2.W0, List.append_nil, decide_eq_true_eq, Bool.not_eq_true', decide_eq_false_iff_not, List.cons_append, List.nil_append, if_true, if_false, Bool.false_eq_true, Bool.not_true, Bool.not_false, not_true_eq_false, not_false_eq_true, true_and]
  refine ⟨by decide, by decide, ?_⟩
  refine ForR.of (fun i σ H4 => ∃ y5 y6 y7 y8 : Option V, σ = [some (.ref p), some (.ref t), some (.int way), some (.ref b), some (.int z), y5, y6, y7, y8] ∧ Same H3 H4) ⟨_, _, _, _, rfl, Same.refl _⟩ ?_ ?_
  · rintro i σ H4 hi ⟨y5, y6, y7, y8, rfl, s4⟩ U0 hU0
    rw [show (0 : Int) + (i : Nat) = ((i : Nat) : Int) by omega]
    try simp only [Q2.W0, List.append_nil, decide_eq_true_eq, Bool.not_eq_true', decide_eq_false_iff_not, List.cons_append, List.nil_append, if_true, if_false, Bool.false_eq_true, Bool.not_true, Bool.not_false, not_true_eq_false, not_false_eq_true, true_and]
    rw [tSeq_ap]
    try simp only [Q2.W0, List.append_nil, decide_eq_true_eq, Bool.not_eq_true', decide_eq_false_iff_not, List.cons_append, List.nil_append, if_true, if_false, Bool.false_eq_true, Bool.not_true, Bool.not_false, not_true_eq_false, not_false_eq_true, true_and]
    -- the sizes
    refine seq_cut (fun σ H5 => ∃ d : Str, σ = [some (.ref p), some (.ref t), some (.int way), some (.ref b), some (.int z), some (.int ((i : Nat) : Int)), some (.str d), y7, y8] ∧ d = due1 i xs ys ∧ Same H3 H5) ?_ (fun U hU => ?_)
    rotate_left
    · try simp only [Q2.W, List.append_nil, decide_eq_true_eq, Bool.not_eq_true', decide_eq_false_iff_not, List.cons_append, List.nil_append, if_true, if_false, Bool.false_eq_true, Bool.not_true, Bool.not_false, not_true_eq_false, not_false_eq_true, true_and]
      refine ite2 (fun c => ?_) (fun c => ?_)
      · refine ⟨b, _, rfl, .inl (SqL.of (s4 _ _ hb)), t, _, rfl, .inl (SqL.of (s4 _ _ ht3)), ?_⟩
        try simp only [Q2.W, List.append_nil, decide_eq_true_eq, Bool.not_eq_true', decide_eq_false_iff_not, List.cons_append, List.nil_append, if_true, if_false, Bool.false_eq_true, Bool.not_true, Bool.not_false, not_true_eq_false, not_false_eq_true, true_and]
        rw [List.length_map, List.length_map]
        refine ite2 (fun c2 => ?_) (fun c2 => ?_)
        · exact hU _ _ ⟨_, rfl, (if_pos ⟨by omega, by omega⟩).symm, s4⟩
        · exact hU _ _ ⟨_, rfl, (if_neg (fun z => by omega)).symm, s4⟩
      · exact hU _ _ ⟨_, rfl, (if_neg (fun z => by omega)).symm, s4⟩
    rintro _ H5 ⟨d1, rfl, hd1, s5⟩
    -- the turn
    refine seq_cut (fun σ H6 => ∃ d : Str, σ = [some (.ref p), some (.ref t), some (.int way), some (.ref b), some (.int z), some (.int ((i : Nat) : Int)), some (.str d), y7, y8] ∧ d = due2 i xs ys ∧ Same H3 H6) ?_ (fun U hU => ?_)
    rotate_left
    · try simp only [Q2.W, List.append_nil, decide_eq_true_eq, Bool.not_eq_true', decide_eq_false_iff_not, List.cons_append, List.nil_append, if_true, if_false, Bool.false_eq_true, Bool.not_true, Bool.not_false, not_true_eq_false, not_false_eq_true, true_and]
      refine ite2 (fun c => ?_) (fun c => ?_)
      · refine ⟨Nat.zero_le _, fun p9 hp9 => ⟨xs, [], SqL.of (upd_free s5 hp9 _ _ ht3), SqL.of upd_same, ?_⟩⟩
        have s6 := upd_free s5 hp9 (o := .lst [])
        try simp only [Q2.W, List.append_nil, decide_eq_true_eq, Bool.not_eq_true', decide_eq_false_iff_not, List.cons_append, List.nil_append, if_true, if_false, Bool.false_eq_true, Bool.not_true, Bool.not_false, not_true_eq_false, not_false_eq_true, true_and]
        refine ite2 (fun c2 => ?_) (fun c2 => ?_)
        · have a0 : atI (xs.map V.int) 0 = some (.int (ent xs 1)) := at_ent (k := 1) (Nat.le_refl 1) (Nat.pos_of_ne_zero fun e => c2 (List.eq_nil_of_length_eq_zero e))
          refine ⟨_, _, SqL.of (s6 _ _ ht3), a0, ?_⟩
          try simp only [Q2.W, List.append_nil, decide_eq_true_eq, Bool.not_eq_true', decide_eq_false_iff_not, List.cons_append, List.nil_append, if_true, if_false, Bool.false_eq_true, Bool.not_true, Bool.not_false, not_true_eq_false, not_false_eq_true, true_and]
          refine ite2 (fun c3 => ?_) (fun c3 => ?_)
          · refine ⟨_, _, SqL.of (s6 _ _ ht3), a0, ?_⟩
            try simp only [Q2.W, List.append_nil, decide_eq_true_eq, Bool.not_eq_true', decide_eq_false_iff_not, List.cons_append, List.nil_append, if_true, if_false, Bool.false_eq_true, Bool.not_true, Bool.not_false, not_true_eq_false, not_false_eq_true, true_and]
            refine ite2 (fun c4 => ?_) (fun c4 => ?_)
            · exact hU _ _ ⟨_, rfl, (if_pos ⟨by omega, c2, c3, c4⟩).symm, s6⟩
            · exact hU _ _ ⟨_, rfl, hd1.trans (if_neg (fun z => c4 z.2.2.2)).symm, s6⟩
          · exact hU _ _ ⟨_, rfl, hd1.trans (if_neg (fun z => c3 z.2.2.1)).symm, s6⟩
        · exact hU _ _ ⟨_, rfl, hd1.trans (if_neg (fun z => c2 z.2.1)).symm, s6⟩
      · exact hU _ _ ⟨_, rfl, hd1.trans (if_neg (fun z => c (by omega))).symm, s5⟩
    rintro _ H6 ⟨d2, rfl, hd2, s6⟩
    clear hd1 s5
    -- no entry
    refine seq_cut (fun σ H7 => ∃ d : Str, σ = [some (.ref p), some (.ref t), some (.int way), some (.ref b), some (.int z), some (.int ((i : Nat) : Int)), some (.str d), y7, y8] ∧ d = due3 i xs ys ∧ Same H3 H7) ?_ (fun U hU => ?_)
    rotate_left
    · try simp only [Q2.W, List.append_nil, decide_eq_true_eq, Bool.not_eq_true', decide_eq_false_iff_not, List.cons_append, List.nil_append, if_true, if_false, Bool.false_eq_true, Bool.not_true, Bool.not_false, not_true_eq_false, not_false_eq_true, true_and]
      refine ite2 (fun c => ?_) (fun c => ?_)
      · refine ⟨Nat.zero_le _, fun p9 hp9 => ⟨xs, [], SqL.of (upd_free s6 hp9 _ _ ht3), SqL.of upd_same, ?_⟩⟩
        have s7 := upd_free s6 hp9 (o := .lst [])
        try simp only [Q2.W, List.append_nil, decide_eq_true_eq, Bool.not_eq_true', decide_eq_false_iff_not, List.cons_append, List.nil_append, if_true, if_false, Bool.false_eq_true, Bool.not_true, Bool.not_false, not_true_eq_false, not_false_eq_true, true_and]
        refine ite2 (fun c2 => ?_) (fun c2 => ?_)
        · exact hU _ _ ⟨_, rfl, (if_pos (.inl ⟨by omega, c2⟩)).symm, s7⟩
        · refine ⟨(show 2 ≤ sizeLine by decide), fun pA hpA => ⟨_, .inl (SqL.of upd_same), rfl, rfl, ?_⟩⟩
          have s8 := upd_free s7 hpA (o := .lst [.int 7, .int 8])
          rw [in78]
          try simp only [Q2.W, List.append_nil, decide_eq_true_eq, Bool.not_eq_true', decide_eq_false_iff_not, List.cons_append, List.nil_append, if_true, if_false, Bool.false_eq_true, Bool.not_true, Bool.not_false, not_true_eq_false, not_false_eq_true, true_and]
          refine ite2 (fun c3 => ?_) (fun c3 => ?_)
          · refine ⟨Nat.zero_le _, fun pB hpB => ⟨ys, [], SqL.of (upd_free s8 hpB _ _ hb), SqL.of upd_same, ?_⟩⟩
            have s9 := upd_free s8 hpB (o := .lst [])
            try simp only [Q2.W, List.append_nil, decide_eq_true_eq, Bool.not_eq_true', decide_eq_false_iff_not, List.cons_append, List.nil_append, if_true, if_false, Bool.false_eq_true, Bool.not_true, Bool.not_false, not_true_eq_false, not_false_eq_true, true_and]
            refine ite2 (fun c4 => ?_) (fun c4 => ?_)
            · exact hU _ _ ⟨_, rfl, (if_pos (.inr ⟨c3, c4⟩)).symm, s9⟩
            · exact hU _ _ ⟨_, rfl, hd2.trans (if_neg (fun z => z.elim (fun y => c2 y.2) fun y => c4 y.2)).symm, s9⟩
          · exact hU _ _ ⟨_, rfl, hd2.trans (if_neg (fun z => z.elim (fun y => c2 y.2) fun y => c3 y.1)).symm, s8⟩
      · refine ⟨(show 2 ≤ sizeLine by decide), fun pA hpA => ⟨_, .inl (SqL.of upd_same), rfl, rfl, ?_⟩⟩
        have s8 := upd_free s6 hpA (o := .lst [.int 7, .int 8])
        rw [in78, decide_eq_false (show ¬ (i = 7 ∨ i = 8) by omega)]
        try simp only [Q2.W, List.append_nil, decide_eq_true_eq, Bool.not_eq_true', decide_eq_false_iff_not, List.cons_append, List.nil_append, if_true, if_false, Bool.false_eq_true, Bool.not_true, Bool.not_false, not_true_eq_false, not_false_eq_true, true_and]
        exact hU _ _ ⟨_, rfl, hd2.trans (if_neg (fun z => z.elim (fun y => c (by omega)) fun y => by omega)).symm, s8⟩
    rintro _ H7 ⟨d3, rfl, hd3, s7⟩
    clear hd2 s6
    -- by a number
    refine seq_cut (fun σ H8 => ∃ d : Str, σ = [some (.ref p), some (.ref t), some (.int way), some (.ref b), some (.int z), some (.int ((i : Nat) : Int)), some (.str d), y7, y8] ∧ d = due4 i xs ys z ∧ Same H3 H8) ?_ (fun U hU => ?_)
    rotate_left
    · try simp only [Q2.W, List.append_nil, decide_eq_true_eq, Bool.not_eq_true', decide_eq_false_iff_not, List.cons_append, List.nil_append, if_true, if_false, Bool.false_eq_true, Bool.not_true, Bool.not_false, not_true_eq_false, not_false_eq_true, true_and]
      refine ite2 (fun c => ?_) (fun c => ?_)
      · refine ⟨(show 2 ≤ sizeLine by decide), fun pA hpA => ?_⟩
        have s8 := upd_free s7 hpA (o := .lst [.str "done", .str "number"])
        refine .inr ⟨_, rfl, ?_⟩
        try simp only [Q2.W, List.append_nil, decide_eq_true_eq, Bool.not_eq_true', decide_eq_false_iff_not, List.cons_append, List.nil_append, if_true, if_false, Bool.false_eq_true, Bool.not_true, Bool.not_false, not_true_eq_false, not_false_eq_true, true_and]
        by_cases hz1 : z < 1
        · rw [if_pos hz1]
          refine ⟨_, .str "number", SqL.of upd_same, rfl, hU _ _ ⟨_, rfl, ?_, s8⟩⟩
          unfold due4
          rw [if_pos (by omega), if_pos hz1]
        · rw [if_neg hz1]
          refine ⟨_, .str "done", SqL.of upd_same, rfl, hU _ _ ⟨_, rfl, ?_, s8⟩⟩
          unfold due4
          rw [if_pos (by omega), if_neg hz1]
      · exact hU _ _ ⟨_, rfl, hd3.trans (if_neg (by omega)).symm, s7⟩
    rintro _ H8 ⟨d4, rfl, hd4, s8⟩
    clear hd3 s7
    rw [due_eq] at hd4
    subst hd4
    try simp only [Q2.W, List.append_nil, decide_eq_true_eq, Bool.not_eq_true', decide_eq_false_iff_not, List.cons_append, List.nil_append, if_true, if_false, Bool.false_eq_true, Bool.not_true, Bool.not_false, not_true_eq_false, not_false_eq_true, true_and]
    refine ⟨t, _, rfl, .inl (SqL.of (s8 _ _ ht3)), fun l hl => ?_⟩
    have sa := upd_free s8 hl (o := .lst (xs.map V.int))
    try simp only [Q2.W, List.append_nil, decide_eq_true_eq, Bool.not_eq_true', decide_eq_false_iff_not, List.cons_append, List.nil_append, if_true, if_false, Bool.false_eq_true, Bool.not_true, Bool.not_false, not_true_eq_false, not_false_eq_true, true_and]
    refine ⟨b, _, rfl, .inl (SqL.of (sa _ _ hb)), fun g hg => ?_⟩
    have sb := upd_free sa hg (o := .lst (ys.map V.int))
    have hl' : upd (upd H8 l (.lst (xs.map V.int))) g (.lst (ys.map V.int)) l = some (.lst (xs.map V.int)) := by rw [upd_ne (ne_of_none upd_same hg), upd_same]
    try simp only [Q2.W, List.append_nil, decide_eq_true_eq, Bool.not_eq_true', decide_eq_false_iff_not, List.cons_append, List.nil_append, if_true, if_false, Bool.false_eq_true, Bool.not_true, Bool.not_false, not_true_eq_false, not_false_eq_true, true_and]
    refine ⟨i, l, g, xs, ys, z, rfl, SqL.of hl', SqL.of upd_same, by omega, by omega, hxs, hys, hz3, fun H9 sc => ?_⟩
    try simp only [Q2.W, List.append_nil, decide_eq_true_eq, Bool.not_eq_true', decide_eq_false_iff_not, List.cons_append, List.nil_append, if_true, if_false, Bool.false_eq_true, Bool.not_true, Bool.not_false, not_true_eq_false, not_false_eq_true, true_and]
    refine ⟨i, l, g, xs, ys, z, rfl, SqL.of (sc _ _ hl'), SqL.of (sc _ _ upd_same), by omega, by omega, hxs, hys, hz3, fun HA sd => ?_⟩
    try simp only [Q2.W, List.append_nil, decide_eq_true_eq, Bool.not_eq_true', decide_eq_false_iff_not, List.cons_append, List.nil_append, if_true, if_false, Bool.false_eq_true, Bool.not_true, Bool.not_false, not_true_eq_false, not_false_eq_true, true_and]
    rw [word_done]
    try simp only [Q2.W, List.append_nil, decide_eq_true_eq, Bool.not_eq_true', decide_eq_false_iff_not, List.cons_append, List.nil_append, if_true, if_false, Bool.false_eq_true, Bool.not_true, Bool.not_false, not_true_eq_false, not_false_eq_true, true_and]
    refine ⟨xs, xs, SqL.of (sd _ _ (sc _ _ hl')), SqL.of (sd _ _ (sc _ _ (sb _ _ ht3))), ?_⟩
    try simp only [Q2.W, List.append_nil, decide_eq_true_eq, Bool.not_eq_true', decide_eq_false_iff_not, List.cons_append, List.nil_append, if_true, if_false, Bool.false_eq_true, Bool.not_true, Bool.not_false, not_true_eq_false, not_false_eq_true, true_and]
    refine ⟨ys, ys, SqL.of (sd _ _ (sc _ _ upd_same)), SqL.of (sd _ _ (sc _ _ (sb _ _ hb))), ?_⟩
    try simp only [Q2.W, List.append_nil, decide_eq_true_eq, Bool.not_eq_true', decide_eq_false_iff_not, List.cons_append, List.nil_append, if_true, if_false, Bool.false_eq_true, Bool.not_true, Bool.not_false, not_true_eq_false, not_false_eq_true, true_and]
    exact hU0 _ _ ⟨_, _, _, _, rfl, fun x u e => sd x u (sc x u (sb x u e))⟩
  · rintro σ H4 ⟨y5, y6, y7, y8, rfl, s4⟩
    try simp only [Q2.W, List.append_nil, decide_eq_true_eq, Bool.not_eq_true', decide_eq_false_iff_not, List.cons_append, List.nil_append, if_true, if_false, Bool.false_eq_true, Bool.not_true, Bool.not_false, not_true_eq_false, not_false_eq_true, true_and]
    exact q H4
theorem calImp {k : Nat} {x : Str} {ps : List Str} {sp sp' : Sp} (C : Cal P w K mg base CX k x ps sp) (h : ∀ vs H Q E, sp' vs H Q E → sp vs H Q E) : Cal P w K mg base CX k x ps sp' := by
  obtain ⟨f, fd, F, hb, hk, hm⟩ := C.ex
  exact ⟨C.no, f, fd, F.imp h, hb, hk, hm⟩
theorem partsE_imp {C : Addr} : ∀ vs H Q E, spParts vs H Q E → spPartsE C vs H Q E := fun vs H Q E ⟨n, e, h1, h2, q⟩ => ⟨n, e, by omega, fun z => by omega, fun m em _ => by
  have em : m = n := by omega
  subst em
  exact q⟩
theorem primesE_imp {C : Addr} : ∀ vs H Q E, spPrimes vs H Q E → spPrimesE C vs H Q E := fun vs H Q E ⟨n, e, h1, h2, q⟩ => ⟨n, e, by omega, fun z => by omega, fun m em _ => by
  have em : m = n := by omega
  subst em
  exact q⟩
theorem signE_imp {C : Addr} : ∀ vs H Q E, spSign vs H Q E → spSignE C vs H Q E := fun vs H Q E ⟨n, e, h1, h2, q⟩ => ⟨n, e, by omega, fun z => by omega, fun m em _ => by
  have em : m = n := by omega
  subst em
  exact q⟩
end
theorem all_mk {l : PySem.W.OpenLaw} {w : World} {K : PySem.W.Frag} {h : Heap} {mg : Str → Option Value} {fa f_check_number f_parts f_prime_parts f_sign f_check_table f_product f_product_entry f_summed f_summed_entry f_taken_back f_taken_back_entry f_unit f_turned f_sum_without_one f_goes_by_primes f_by_primes f_entry_by_primes f_power f_signs f_strange f_gathered f_gathered_entry f_ungathered f_ungathered_entry f_law_at f_law_table_by f_law_by_table f_law_by_number f_law_said f_law_refuses f_law e_BookError e_BadNumber e_BadTable e_BadSize e_NoTurn : Addr} (X : K.In h) (G : h.Ns mainGlobals mg) (hfa : mg "law" = some (.ref fa))
    {od_check_number an_check_number od_parts an_parts od_prime_parts an_prime_parts od_sign an_sign od_check_table an_check_table od_product an_product od_product_entry an_product_entry od_summed an_summed od_summed_entry an_summed_entry od_taken_back an_taken_back od_taken_back_entry an_taken_back_entry od_unit an_unit od_turned an_turned od_sum_without_one an_sum_without_one od_goes_by_primes an_goes_by_primes od_by_primes an_by_primes od_entry_by_primes an_entry_by_primes od_power an_power od_signs an_signs od_strange an_strange od_gathered an_gathered od_gathered_entry an_gathered_entry od_ungathered an_ungathered od_ungathered_entry an_ungathered_entry od_law_at an_law_at od_law_table_by an_law_table_by od_law_by_table an_law_by_table od_law_by_number an_law_by_number od_law_said an_law_said od_law_refuses an_law_refuses od_law an_law : Option Addr} {sl_check_number sl_parts sl_prime_parts sl_sign sl_check_table sl_product sl_product_entry sl_summed sl_summed_entry sl_taken_back sl_taken_back_entry sl_unit sl_turned sl_sum_without_one sl_goes_by_primes sl_by_primes sl_entry_by_primes sl_power sl_signs sl_strange sl_gathered sl_gathered_entry sl_ungathered sl_ungathered_entry sl_law_at sl_law_table_by sl_law_by_table sl_law_by_number sl_law_said sl_law_refuses sl_law : Array (Option Value)} {oc_check_number kV_check_number dc_check_number pm_check_number cd_check_number ct_check_number oc_parts kV_parts dc_parts pm_parts cd_parts ct_parts oc_prime_parts kV_prime_parts dc_prime_parts pm_prime_parts cd_prime_parts ct_prime_parts oc_sign kV_sign dc_sign pm_sign cd_sign ct_sign oc_check_table kV_check_table dc_check_table pm_check_table cd_check_table ct_check_table oc_product kV_product dc_product pm_product cd_product ct_product oc_product_entry kV_product_entry dc_product_entry pm_product_entry cd_product_entry ct_product_entry oc_summed kV_summed dc_summed pm_summed cd_summed ct_summed oc_summed_entry kV_summed_entry dc_summed_entry pm_summed_entry cd_summed_entry ct_summed_entry oc_taken_back kV_taken_back dc_taken_back pm_taken_back cd_taken_back ct_taken_back oc_taken_back_entry kV_taken_back_entry dc_taken_back_entry pm_taken_back_entry cd_taken_back_entry ct_taken_back_entry oc_unit kV_unit dc_unit pm_unit cd_unit ct_unit oc_turned kV_turned dc_turned pm_turned cd_turned ct_turned oc_sum_without_one kV_sum_without_one dc_sum_without_one pm_sum_without_one cd_sum_without_one ct_sum_without_one oc_goes_by_primes kV_goes_by_primes dc_goes_by_primes pm_goes_by_primes cd_goes_by_primes ct_goes_by_primes oc_by_primes kV_by_primes dc_by_primes pm_by_primes cd_by_primes ct_by_primes oc_entry_by_primes kV_entry_by_primes dc_entry_by_primes pm_entry_by_primes cd_entry_by_primes ct_entry_by_primes oc_power kV_power dc_power pm_power cd_power ct_power oc_signs kV_signs dc_signs pm_signs cd_signs ct_signs oc_strange kV_strange dc_strange pm_strange cd_strange ct_strange oc_gathered kV_gathered dc_gathered pm_gathered cd_gathered ct_gathered oc_gathered_entry kV_gathered_entry dc_gathered_entry pm_gathered_entry cd_gathered_entry ct_gathered_entry oc_ungathered kV_ungathered dc_ungathered pm_ungathered cd_ungathered ct_ungathered oc_ungathered_entry kV_ungathered_entry dc_ungathered_entry pm_ungathered_entry cd_ungathered_entry ct_ungathered_entry oc_law_at kV_law_at dc_law_at pm_law_at cd_law_at ct_law_at oc_law_table_by kV_law_table_by dc_law_table_by pm_law_table_by cd_law_table_by ct_law_table_by oc_law_by_table kV_law_by_table dc_law_by_table pm_law_by_table cd_law_by_table ct_law_by_table oc_law_by_number kV_law_by_number dc_law_by_number pm_law_by_number cd_law_by_number ct_law_by_number oc_law_said kV_law_said dc_law_said pm_law_said cd_law_said ct_law_said oc_law_refuses kV_law_refuses dc_law_refuses pm_law_refuses cd_law_refuses ct_law_refuses oc_law kV_law dc_law pm_law cd_law ct_law : Value}
    (a_check_number : PySem.W.nsIn K mainGlobals "check_number" = some (some (.ref f_check_number))) (l_check_number : K.lookup f_check_number = some ⟨oc_check_number, od_check_number, .func (PySem.W.fnOf "check_number" "check_number" (defArgs s_check_number) (defBody s_check_number) (defScope s_check_number) .none kV_check_number dc_check_number pm_check_number an_check_number cd_check_number ct_check_number), sl_check_number⟩) (c_check_number : PySem.W.codeIn K cd_check_number "check_number" = true) (k_check_number : PySem.W.keepIn K (.ref f_check_number) = true)
    (a_parts : PySem.W.nsIn K mainGlobals "parts" = some (some (.ref f_parts))) (l_parts : K.lookup f_parts = some ⟨oc_parts, od_parts, .func (PySem.W.fnOf "parts" "parts" (defArgs s_parts) (defBody s_parts) (defScope s_parts) .none kV_parts dc_parts pm_parts an_parts cd_parts ct_parts), sl_parts⟩) (c_parts : PySem.W.codeIn K cd_parts "parts" = true) (k_parts : PySem.W.keepIn K (.ref f_parts) = true)
    (a_prime_parts : PySem.W.nsIn K mainGlobals "prime_parts" = some (some (.ref f_prime_parts))) (l_prime_parts : K.lookup f_prime_parts = some ⟨oc_prime_parts, od_prime_parts, .func (PySem.W.fnOf "prime_parts" "prime_parts" (defArgs s_prime_parts) (defBody s_prime_parts) (defScope s_prime_parts) .none kV_prime_parts dc_prime_parts pm_prime_parts an_prime_parts cd_prime_parts ct_prime_parts), sl_prime_parts⟩) (c_prime_parts : PySem.W.codeIn K cd_prime_parts "prime_parts" = true) (k_prime_parts : PySem.W.keepIn K (.ref f_prime_parts) = true)
    (a_sign : PySem.W.nsIn K mainGlobals "sign" = some (some (.ref f_sign))) (l_sign : K.lookup f_sign = some ⟨oc_sign, od_sign, .func (PySem.W.fnOf "sign" "sign" (defArgs s_sign) (defBody s_sign) (defScope s_sign) .none kV_sign dc_sign pm_sign an_sign cd_sign ct_sign), sl_sign⟩) (c_sign : PySem.W.codeIn K cd_sign "sign" = true) (k_sign : PySem.W.keepIn K (.ref f_sign) = true)
    (a_check_table : PySem.W.nsIn K mainGlobals "check_table" = some (some (.ref f_check_table))) (l_check_table : K.lookup f_check_table = some ⟨oc_check_table, od_check_table, .func (PySem.W.fnOf "check_table" "check_table" (defArgs s_check_table) (defBody s_check_table) (defScope s_check_table) .none kV_check_table dc_check_table pm_check_table an_check_table cd_check_table ct_check_table), sl_check_table⟩) (c_check_table : PySem.W.codeIn K cd_check_table "check_table" = true) (k_check_table : PySem.W.keepIn K (.ref f_check_table) = true)
    (a_product : PySem.W.nsIn K mainGlobals "product" = some (some (.ref f_product))) (l_product : K.lookup f_product = some ⟨oc_product, od_product, .func (PySem.W.fnOf "product" "product" (defArgs s_product) (defBody s_product) (defScope s_product) .none kV_product dc_product pm_product an_product cd_product ct_product), sl_product⟩) (c_product : PySem.W.codeIn K cd_product "product" = true) (k_product : PySem.W.keepIn K (.ref f_product) = true)
    (a_product_entry : PySem.W.nsIn K mainGlobals "product_entry" = some (some (.ref f_product_entry))) (l_product_entry : K.lookup f_product_entry = some ⟨oc_product_entry, od_product_entry, .func (PySem.W.fnOf "product_entry" "product_entry" (defArgs s_product_entry) (defBody s_product_entry) (defScope s_product_entry) .none kV_product_entry dc_product_entry pm_product_entry an_product_entry cd_product_entry ct_product_entry), sl_product_entry⟩) (c_product_entry : PySem.W.codeIn K cd_product_entry "product_entry" = true) (k_product_entry : PySem.W.keepIn K (.ref f_product_entry) = true)
    (a_summed : PySem.W.nsIn K mainGlobals "summed" = some (some (.ref f_summed))) (l_summed : K.lookup f_summed = some ⟨oc_summed, od_summed, .func (PySem.W.fnOf "summed" "summed" (defArgs s_summed) (defBody s_summed) (defScope s_summed) .none kV_summed dc_summed pm_summed an_summed cd_summed ct_summed), sl_summed⟩) (c_summed : PySem.W.codeIn K cd_summed "summed" = true) (k_summed : PySem.W.keepIn K (.ref f_summed) = true)
    (a_summed_entry : PySem.W.nsIn K mainGlobals "summed_entry" = some (some (.ref f_summed_entry))) (l_summed_entry : K.lookup f_summed_entry = some ⟨oc_summed_entry, od_summed_entry, .func (PySem.W.fnOf "summed_entry" "summed_entry" (defArgs s_summed_entry) (defBody s_summed_entry) (defScope s_summed_entry) .none kV_summed_entry dc_summed_entry pm_summed_entry an_summed_entry cd_summed_entry ct_summed_entry), sl_summed_entry⟩) (c_summed_entry : PySem.W.codeIn K cd_summed_entry "summed_entry" = true) (k_summed_entry : PySem.W.keepIn K (.ref f_summed_entry) = true)
    (a_taken_back : PySem.W.nsIn K mainGlobals "taken_back" = some (some (.ref f_taken_back))) (l_taken_back : K.lookup f_taken_back = some ⟨oc_taken_back, od_taken_back, .func (PySem.W.fnOf "taken_back" "taken_back" (defArgs s_taken_back) (defBody s_taken_back) (defScope s_taken_back) .none kV_taken_back dc_taken_back pm_taken_back an_taken_back cd_taken_back ct_taken_back), sl_taken_back⟩) (c_taken_back : PySem.W.codeIn K cd_taken_back "taken_back" = true) (k_taken_back : PySem.W.keepIn K (.ref f_taken_back) = true)
    (a_taken_back_entry : PySem.W.nsIn K mainGlobals "taken_back_entry" = some (some (.ref f_taken_back_entry))) (l_taken_back_entry : K.lookup f_taken_back_entry = some ⟨oc_taken_back_entry, od_taken_back_entry, .func (PySem.W.fnOf "taken_back_entry" "taken_back_entry" (defArgs s_taken_back_entry) (defBody s_taken_back_entry) (defScope s_taken_back_entry) .none kV_taken_back_entry dc_taken_back_entry pm_taken_back_entry an_taken_back_entry cd_taken_back_entry ct_taken_back_entry), sl_taken_back_entry⟩) (c_taken_back_entry : PySem.W.codeIn K cd_taken_back_entry "taken_back_entry" = true) (k_taken_back_entry : PySem.W.keepIn K (.ref f_taken_back_entry) = true)
    (a_unit : PySem.W.nsIn K mainGlobals "unit" = some (some (.ref f_unit))) (l_unit : K.lookup f_unit = some ⟨oc_unit, od_unit, .func (PySem.W.fnOf "unit" "unit" (defArgs s_unit) (defBody s_unit) (defScope s_unit) .none kV_unit dc_unit pm_unit an_unit cd_unit ct_unit), sl_unit⟩) (c_unit : PySem.W.codeIn K cd_unit "unit" = true) (k_unit : PySem.W.keepIn K (.ref f_unit) = true)
    (a_turned : PySem.W.nsIn K mainGlobals "turned" = some (some (.ref f_turned))) (l_turned : K.lookup f_turned = some ⟨oc_turned, od_turned, .func (PySem.W.fnOf "turned" "turned" (defArgs s_turned) (defBody s_turned) (defScope s_turned) .none kV_turned dc_turned pm_turned an_turned cd_turned ct_turned), sl_turned⟩) (c_turned : PySem.W.codeIn K cd_turned "turned" = true) (k_turned : PySem.W.keepIn K (.ref f_turned) = true)
    (a_sum_without_one : PySem.W.nsIn K mainGlobals "sum_without_one" = some (some (.ref f_sum_without_one))) (l_sum_without_one : K.lookup f_sum_without_one = some ⟨oc_sum_without_one, od_sum_without_one, .func (PySem.W.fnOf "sum_without_one" "sum_without_one" (defArgs s_sum_without_one) (defBody s_sum_without_one) (defScope s_sum_without_one) .none kV_sum_without_one dc_sum_without_one pm_sum_without_one an_sum_without_one cd_sum_without_one ct_sum_without_one), sl_sum_without_one⟩) (c_sum_without_one : PySem.W.codeIn K cd_sum_without_one "sum_without_one" = true) (k_sum_without_one : PySem.W.keepIn K (.ref f_sum_without_one) = true)
    (a_goes_by_primes : PySem.W.nsIn K mainGlobals "goes_by_primes" = some (some (.ref f_goes_by_primes))) (l_goes_by_primes : K.lookup f_goes_by_primes = some ⟨oc_goes_by_primes, od_goes_by_primes, .func (PySem.W.fnOf "goes_by_primes" "goes_by_primes" (defArgs s_goes_by_primes) (defBody s_goes_by_primes) (defScope s_goes_by_primes) .none kV_goes_by_primes dc_goes_by_primes pm_goes_by_primes an_goes_by_primes cd_goes_by_primes ct_goes_by_primes), sl_goes_by_primes⟩) (c_goes_by_primes : PySem.W.codeIn K cd_goes_by_primes "goes_by_primes" = true) (k_goes_by_primes : PySem.W.keepIn K (.ref f_goes_by_primes) = true)
    (a_by_primes : PySem.W.nsIn K mainGlobals "by_primes" = some (some (.ref f_by_primes))) (l_by_primes : K.lookup f_by_primes = some ⟨oc_by_primes, od_by_primes, .func (PySem.W.fnOf "by_primes" "by_primes" (defArgs s_by_primes) (defBody s_by_primes) (defScope s_by_primes) .none kV_by_primes dc_by_primes pm_by_primes an_by_primes cd_by_primes ct_by_primes), sl_by_primes⟩) (c_by_primes : PySem.W.codeIn K cd_by_primes "by_primes" = true) (k_by_primes : PySem.W.keepIn K (.ref f_by_primes) = true)
    (a_entry_by_primes : PySem.W.nsIn K mainGlobals "entry_by_primes" = some (some (.ref f_entry_by_primes))) (l_entry_by_primes : K.lookup f_entry_by_primes = some ⟨oc_entry_by_primes, od_entry_by_primes, .func (PySem.W.fnOf "entry_by_primes" "entry_by_primes" (defArgs s_entry_by_primes) (defBody s_entry_by_primes) (defScope s_entry_by_primes) .none kV_entry_by_primes dc_entry_by_primes pm_entry_by_primes an_entry_by_primes cd_entry_by_primes ct_entry_by_primes), sl_entry_by_primes⟩) (c_entry_by_primes : PySem.W.codeIn K cd_entry_by_primes "entry_by_primes" = true) (k_entry_by_primes : PySem.W.keepIn K (.ref f_entry_by_primes) = true)
    (a_power : PySem.W.nsIn K mainGlobals "power" = some (some (.ref f_power))) (l_power : K.lookup f_power = some ⟨oc_power, od_power, .func (PySem.W.fnOf "power" "power" (defArgs s_power) (defBody s_power) (defScope s_power) .none kV_power dc_power pm_power an_power cd_power ct_power), sl_power⟩) (c_power : PySem.W.codeIn K cd_power "power" = true) (k_power : PySem.W.keepIn K (.ref f_power) = true)
    (a_signs : PySem.W.nsIn K mainGlobals "signs" = some (some (.ref f_signs))) (l_signs : K.lookup f_signs = some ⟨oc_signs, od_signs, .func (PySem.W.fnOf "signs" "signs" (defArgs s_signs) (defBody s_signs) (defScope s_signs) .none kV_signs dc_signs pm_signs an_signs cd_signs ct_signs), sl_signs⟩) (c_signs : PySem.W.codeIn K cd_signs "signs" = true) (k_signs : PySem.W.keepIn K (.ref f_signs) = true)
    (a_strange : PySem.W.nsIn K mainGlobals "strange" = some (some (.ref f_strange))) (l_strange : K.lookup f_strange = some ⟨oc_strange, od_strange, .func (PySem.W.fnOf "strange" "strange" (defArgs s_strange) (defBody s_strange) (defScope s_strange) .none kV_strange dc_strange pm_strange an_strange cd_strange ct_strange), sl_strange⟩) (c_strange : PySem.W.codeIn K cd_strange "strange" = true) (k_strange : PySem.W.keepIn K (.ref f_strange) = true)
    (a_gathered : PySem.W.nsIn K mainGlobals "gathered" = some (some (.ref f_gathered))) (l_gathered : K.lookup f_gathered = some ⟨oc_gathered, od_gathered, .func (PySem.W.fnOf "gathered" "gathered" (defArgs s_gathered) (defBody s_gathered) (defScope s_gathered) .none kV_gathered dc_gathered pm_gathered an_gathered cd_gathered ct_gathered), sl_gathered⟩) (c_gathered : PySem.W.codeIn K cd_gathered "gathered" = true) (k_gathered : PySem.W.keepIn K (.ref f_gathered) = true)
    (a_gathered_entry : PySem.W.nsIn K mainGlobals "gathered_entry" = some (some (.ref f_gathered_entry))) (l_gathered_entry : K.lookup f_gathered_entry = some ⟨oc_gathered_entry, od_gathered_entry, .func (PySem.W.fnOf "gathered_entry" "gathered_entry" (defArgs s_gathered_entry) (defBody s_gathered_entry) (defScope s_gathered_entry) .none kV_gathered_entry dc_gathered_entry pm_gathered_entry an_gathered_entry cd_gathered_entry ct_gathered_entry), sl_gathered_entry⟩) (c_gathered_entry : PySem.W.codeIn K cd_gathered_entry "gathered_entry" = true) (k_gathered_entry : PySem.W.keepIn K (.ref f_gathered_entry) = true)
    (a_ungathered : PySem.W.nsIn K mainGlobals "ungathered" = some (some (.ref f_ungathered))) (l_ungathered : K.lookup f_ungathered = some ⟨oc_ungathered, od_ungathered, .func (PySem.W.fnOf "ungathered" "ungathered" (defArgs s_ungathered) (defBody s_ungathered) (defScope s_ungathered) .none kV_ungathered dc_ungathered pm_ungathered an_ungathered cd_ungathered ct_ungathered), sl_ungathered⟩) (c_ungathered : PySem.W.codeIn K cd_ungathered "ungathered" = true) (k_ungathered : PySem.W.keepIn K (.ref f_ungathered) = true)
    (a_ungathered_entry : PySem.W.nsIn K mainGlobals "ungathered_entry" = some (some (.ref f_ungathered_entry))) (l_ungathered_entry : K.lookup f_ungathered_entry = some ⟨oc_ungathered_entry, od_ungathered_entry, .func (PySem.W.fnOf "ungathered_entry" "ungathered_entry" (defArgs s_ungathered_entry) (defBody s_ungathered_entry) (defScope s_ungathered_entry) .none kV_ungathered_entry dc_ungathered_entry pm_ungathered_entry an_ungathered_entry cd_ungathered_entry ct_ungathered_entry), sl_ungathered_entry⟩) (c_ungathered_entry : PySem.W.codeIn K cd_ungathered_entry "ungathered_entry" = true) (k_ungathered_entry : PySem.W.keepIn K (.ref f_ungathered_entry) = true)
    (a_law_at : PySem.W.nsIn K mainGlobals "_law_at" = some (some (.ref f_law_at))) (l_law_at : K.lookup f_law_at = some ⟨oc_law_at, od_law_at, .func (PySem.W.fnOf "_law_at" "_law_at" (defArgs s_law_at) (defBody s_law_at) (defScope s_law_at) .none kV_law_at dc_law_at pm_law_at an_law_at cd_law_at ct_law_at), sl_law_at⟩) (c_law_at : PySem.W.codeIn K cd_law_at "_law_at" = true) (k_law_at : PySem.W.keepIn K (.ref f_law_at) = true)
    (a_law_table_by : PySem.W.nsIn K mainGlobals "_law_table_by" = some (some (.ref f_law_table_by))) (l_law_table_by : K.lookup f_law_table_by = some ⟨oc_law_table_by, od_law_table_by, .func (PySem.W.fnOf "_law_table_by" "_law_table_by" (defArgs s_law_table_by) (defBody s_law_table_by) (defScope s_law_table_by) .none kV_law_table_by dc_law_table_by pm_law_table_by an_law_table_by cd_law_table_by ct_law_table_by), sl_law_table_by⟩) (c_law_table_by : PySem.W.codeIn K cd_law_table_by "_law_table_by" = true) (k_law_table_by : PySem.W.keepIn K (.ref f_law_table_by) = true)
    (a_law_by_table : PySem.W.nsIn K mainGlobals "_law_by_table" = some (some (.ref f_law_by_table))) (l_law_by_table : K.lookup f_law_by_table = some ⟨oc_law_by_table, od_law_by_table, .func (PySem.W.fnOf "_law_by_table" "_law_by_table" (defArgs s_law_by_table) (defBody s_law_by_table) (defScope s_law_by_table) .none kV_law_by_table dc_law_by_table pm_law_by_table an_law_by_table cd_law_by_table ct_law_by_table), sl_law_by_table⟩) (c_law_by_table : PySem.W.codeIn K cd_law_by_table "_law_by_table" = true) (k_law_by_table : PySem.W.keepIn K (.ref f_law_by_table) = true)
    (a_law_by_number : PySem.W.nsIn K mainGlobals "_law_by_number" = some (some (.ref f_law_by_number))) (l_law_by_number : K.lookup f_law_by_number = some ⟨oc_law_by_number, od_law_by_number, .func (PySem.W.fnOf "_law_by_number" "_law_by_number" (defArgs s_law_by_number) (defBody s_law_by_number) (defScope s_law_by_number) .none kV_law_by_number dc_law_by_number pm_law_by_number an_law_by_number cd_law_by_number ct_law_by_number), sl_law_by_number⟩) (c_law_by_number : PySem.W.codeIn K cd_law_by_number "_law_by_number" = true) (k_law_by_number : PySem.W.keepIn K (.ref f_law_by_number) = true)
    (a_law_said : PySem.W.nsIn K mainGlobals "_law_said" = some (some (.ref f_law_said))) (l_law_said : K.lookup f_law_said = some ⟨oc_law_said, od_law_said, .func (PySem.W.fnOf "_law_said" "_law_said" (defArgs s_law_said) (defBody s_law_said) (defScope s_law_said) .none kV_law_said dc_law_said pm_law_said an_law_said cd_law_said ct_law_said), sl_law_said⟩) (c_law_said : PySem.W.codeIn K cd_law_said "_law_said" = true) (k_law_said : PySem.W.keepIn K (.ref f_law_said) = true)
    (a_law_refuses : PySem.W.nsIn K mainGlobals "_law_refuses" = some (some (.ref f_law_refuses))) (l_law_refuses : K.lookup f_law_refuses = some ⟨oc_law_refuses, od_law_refuses, .func (PySem.W.fnOf "_law_refuses" "_law_refuses" (defArgs s_law_refuses) (defBody s_law_refuses) (defScope s_law_refuses) .none kV_law_refuses dc_law_refuses pm_law_refuses an_law_refuses cd_law_refuses ct_law_refuses), sl_law_refuses⟩) (c_law_refuses : PySem.W.codeIn K cd_law_refuses "_law_refuses" = true) (k_law_refuses : PySem.W.keepIn K (.ref f_law_refuses) = true)
    (a_law : PySem.W.nsIn K mainGlobals "law" = some (some (.ref f_law))) (l_law : K.lookup f_law = some ⟨oc_law, od_law, .func (PySem.W.fnOf "law" "law" (defArgs s_law) (defBody s_law) (defScope s_law) .none kV_law dc_law pm_law an_law cd_law ct_law), sl_law⟩) (c_law : PySem.W.codeIn K cd_law "law" = true) (k_law : PySem.W.keepIn K (.ref f_law) = true)
    (z_len : PySem.W.nsIn K mainGlobals "len" = some none)
    (z_range : PySem.W.nsIn K mainGlobals "range" = some none)
    (z_isinstance : PySem.W.nsIn K mainGlobals "isinstance" = some none)
    (z_int : PySem.W.nsIn K mainGlobals "int" = some none)
    (z_bool : PySem.W.nsIn K mainGlobals "bool" = some none)
    (z_list : PySem.W.nsIn K mainGlobals "list" = some none)
    (z_tuple : PySem.W.nsIn K mainGlobals "tuple" = some none)
    (z_str : PySem.W.nsIn K mainGlobals "str" = some none)
    (z_min : PySem.W.nsIn K mainGlobals "min" = some none)
    (z_max : PySem.W.nsIn K mainGlobals "max" = some none)
    (z_sum : PySem.W.nsIn K mainGlobals "sum" = some none)
    (z_ValueError : PySem.W.nsIn K mainGlobals "ValueError" = some none)
    (a_BookError : PySem.W.nsIn K mainGlobals "BookError" = some (some (.ref e_BookError)))
    (q_BookError : PySem.W.excIn K e_BookError [.type "ValueError", .type "Exception", .type "BaseException", .type "object"] "ValueError.__new__" = true)
    (a_BadNumber : PySem.W.nsIn K mainGlobals "BadNumber" = some (some (.ref e_BadNumber)))
    (q_BadNumber : PySem.W.excIn K e_BadNumber [.type "ValueError", .type "Exception", .type "BaseException", .type "object"] "ValueError.__new__" = true)
    (a_BadTable : PySem.W.nsIn K mainGlobals "BadTable" = some (some (.ref e_BadTable)))
    (q_BadTable : PySem.W.excIn K e_BadTable [.type "ValueError", .type "Exception", .type "BaseException", .type "object"] "ValueError.__new__" = true)
    (a_BadSize : PySem.W.nsIn K mainGlobals "BadSize" = some (some (.ref e_BadSize)))
    (q_BadSize : PySem.W.excIn K e_BadSize [.type "ValueError", .type "Exception", .type "BaseException", .type "object"] "ValueError.__new__" = true)
    (a_NoTurn : PySem.W.nsIn K mainGlobals "NoTurn" = some (some (.ref e_NoTurn)))
    (q_NoTurn : PySem.W.excIn K e_NoTurn [.type "ValueError", .type "Exception", .type "BaseException", .type "object"] "ValueError.__new__" = true)
    (x_BadTable_BookError : PySem.W.exmOne K (.ref e_BadTable) (.ref e_BookError) = some true)
    (x_BadSize_BookError : PySem.W.exmOne K (.ref e_BadSize) (.ref e_BookError) = some true)
    (x_BadNumber_BookError : PySem.W.exmOne K (.ref e_BadNumber) (.ref e_BookError) = some true)
    (x_NoTurn_BookError : PySem.W.exmOne K (.ref e_NoTurn) (.ref e_BookError) = some true)
    (x_BadTable_BadTable : PySem.W.exmOne K (.ref e_BadTable) (.ref e_BadTable) = some true)
    (x_BadSize_BadTable : PySem.W.exmOne K (.ref e_BadSize) (.ref e_BadTable) = some false)
    (x_BadSize_BadSize : PySem.W.exmOne K (.ref e_BadSize) (.ref e_BadSize) = some true)
    (x_BadNumber_BadTable : PySem.W.exmOne K (.ref e_BadNumber) (.ref e_BadTable) = some false)
    (x_BadNumber_BadSize : PySem.W.exmOne K (.ref e_BadNumber) (.ref e_BadSize) = some false)
    (x_BadNumber_BadNumber : PySem.W.exmOne K (.ref e_BadNumber) (.ref e_BadNumber) = some true)
    (x_NoTurn_BadTable : PySem.W.exmOne K (.ref e_NoTurn) (.ref e_BadTable) = some false)
    (x_NoTurn_BadSize : PySem.W.exmOne K (.ref e_NoTurn) (.ref e_BadSize) = some false)
    (x_NoTurn_BadNumber : PySem.W.exmOne K (.ref e_NoTurn) (.ref e_BadNumber) = some false)
    (x_NoTurn_NoTurn : PySem.W.exmOne K (.ref e_NoTurn) (.ref e_NoTurn) = some true)
    (y_BadTable_BadNumber : PySem.W.kitOne K (.ref e_BadTable) (.ref e_BadNumber) = some false)
    (y_BadTable_BadTable : PySem.W.kitOne K (.ref e_BadTable) (.ref e_BadTable) = some true)
    (y_BadTable_BadSize : PySem.W.kitOne K (.ref e_BadTable) (.ref e_BadSize) = some false)
    (y_BadTable_NoTurn : PySem.W.kitOne K (.ref e_BadTable) (.ref e_NoTurn) = some false)
    (y_BadTable_ValueError : PySem.W.kitOne K (.ref e_BadTable) (.type "ValueError") = some true)
    (k1_BadTable : PySem.W.isClsIn K e_BadTable = true)
    (k2_BadTable : PySem.W.mroIn K e_BadTable (.type "object") = some true)
    (k3_BadTable : PySem.W.mroIn K e_BadTable (.type "BaseException") = some true)
    (k4_BadTable : PySem.W.findIn K (.ref e_BadTable) "__class__" = some (some (.builtin "object.__class__")))
    (k5_BadTable : PySem.W.findIn K (.ref e_BadTable) "__getattribute__" = some (some (.builtin "BaseException.__getattribute__")))
    (k6_BadTable : PySem.W.findIn K (.ref e_BadTable) "__getattr__" = some none)
    (y_BadSize_BadNumber : PySem.W.kitOne K (.ref e_BadSize) (.ref e_BadNumber) = some false)
    (y_BadSize_BadTable : PySem.W.kitOne K (.ref e_BadSize) (.ref e_BadTable) = some false)
    (y_BadSize_BadSize : PySem.W.kitOne K (.ref e_BadSize) (.ref e_BadSize) = some true)
    (y_BadSize_NoTurn : PySem.W.kitOne K (.ref e_BadSize) (.ref e_NoTurn) = some false)
    (y_BadSize_ValueError : PySem.W.kitOne K (.ref e_BadSize) (.type "ValueError") = some true)
    (k1_BadSize : PySem.W.isClsIn K e_BadSize = true)
    (k2_BadSize : PySem.W.mroIn K e_BadSize (.type "object") = some true)
    (k3_BadSize : PySem.W.mroIn K e_BadSize (.type "BaseException") = some true)
    (k4_BadSize : PySem.W.findIn K (.ref e_BadSize) "__class__" = some (some (.builtin "object.__class__")))
    (k5_BadSize : PySem.W.findIn K (.ref e_BadSize) "__getattribute__" = some (some (.builtin "BaseException.__getattribute__")))
    (k6_BadSize : PySem.W.findIn K (.ref e_BadSize) "__getattr__" = some none)
    (y_BadNumber_BadNumber : PySem.W.kitOne K (.ref e_BadNumber) (.ref e_BadNumber) = some true)
    (y_BadNumber_BadTable : PySem.W.kitOne K (.ref e_BadNumber) (.ref e_BadTable) = some false)
    (y_BadNumber_BadSize : PySem.W.kitOne K (.ref e_BadNumber) (.ref e_BadSize) = some false)
    (y_BadNumber_NoTurn : PySem.W.kitOne K (.ref e_BadNumber) (.ref e_NoTurn) = some false)
    (y_BadNumber_ValueError : PySem.W.kitOne K (.ref e_BadNumber) (.type "ValueError") = some true)
    (k1_BadNumber : PySem.W.isClsIn K e_BadNumber = true)
    (k2_BadNumber : PySem.W.mroIn K e_BadNumber (.type "object") = some true)
    (k3_BadNumber : PySem.W.mroIn K e_BadNumber (.type "BaseException") = some true)
    (k4_BadNumber : PySem.W.findIn K (.ref e_BadNumber) "__class__" = some (some (.builtin "object.__class__")))
    (k5_BadNumber : PySem.W.findIn K (.ref e_BadNumber) "__getattribute__" = some (some (.builtin "BaseException.__getattribute__")))
    (k6_BadNumber : PySem.W.findIn K (.ref e_BadNumber) "__getattr__" = some none)
    (y_NoTurn_BadNumber : PySem.W.kitOne K (.ref e_NoTurn) (.ref e_BadNumber) = some false)
    (y_NoTurn_BadTable : PySem.W.kitOne K (.ref e_NoTurn) (.ref e_BadTable) = some false)
    (y_NoTurn_BadSize : PySem.W.kitOne K (.ref e_NoTurn) (.ref e_BadSize) = some false)
    (y_NoTurn_NoTurn : PySem.W.kitOne K (.ref e_NoTurn) (.ref e_NoTurn) = some true)
    (y_NoTurn_ValueError : PySem.W.kitOne K (.ref e_NoTurn) (.type "ValueError") = some true)
    (k1_NoTurn : PySem.W.isClsIn K e_NoTurn = true)
    (k2_NoTurn : PySem.W.mroIn K e_NoTurn (.type "object") = some true)
    (k3_NoTurn : PySem.W.mroIn K e_NoTurn (.type "BaseException") = some true)
    (k4_NoTurn : PySem.W.findIn K (.ref e_NoTurn) "__class__" = some (some (.builtin "object.__class__")))
    (k5_NoTurn : PySem.W.findIn K (.ref e_NoTurn) "__getattribute__" = some (some (.builtin "BaseException.__getattribute__")))
    (k6_NoTurn : PySem.W.findIn K (.ref e_NoTurn) "__getattr__" = some none)
    : ∃ fd : FuncData, (∀ (s : Shared) (v : Value), BindsTo s fd ⟨[v], []⟩ [("_law_script", v)]) ∧ ∀ base : Heap, K.In base → base.Ns mainGlobals mg → FnOk l.prog w K mg base (Q2.CX1 l.prog w) 12 fa fd ["_law_script"] (spLaw K) := by
  have e := hfa.symm.trans (PySem.W.mg_of X G a_law)
  cases e
  have B : Bl mg := ⟨PySem.W.mg_none_of X G z_len, PySem.W.mg_none_of X G z_range, PySem.W.mg_none_of X G z_isinstance, PySem.W.mg_none_of X G z_int, PySem.W.mg_none_of X G z_bool, PySem.W.mg_none_of X G z_list, PySem.W.mg_none_of X G z_tuple, PySem.W.mg_none_of X G z_str, PySem.W.mg_none_of X G z_min, PySem.W.mg_none_of X G z_max, PySem.W.mg_none_of X G z_sum, PySem.W.mg_none_of X G z_ValueError⟩
  have F_check_number := fun_mk (st := s_check_number) l_check_number c_check_number k_check_number
  have b_check_number := F_check_number.binds (ps := ["number"]) fun _ _ _ _ _ _ us hl => match us, hl with | [_], _ => rfl
  have m_check_number := PySem.W.mg_of X G a_check_number
  have F_parts := fun_mk (st := s_parts) l_parts c_parts k_parts
  have b_parts := F_parts.binds (ps := ["number"]) fun _ _ _ _ _ _ us hl => match us, hl with | [_], _ => rfl
  have m_parts := PySem.W.mg_of X G a_parts
  have F_prime_parts := fun_mk (st := s_prime_parts) l_prime_parts c_prime_parts k_prime_parts
  have b_prime_parts := F_prime_parts.binds (ps := ["number"]) fun _ _ _ _ _ _ us hl => match us, hl with | [_], _ => rfl
  have m_prime_parts := PySem.W.mg_of X G a_prime_parts
  have F_sign := fun_mk (st := s_sign) l_sign c_sign k_sign
  have b_sign := F_sign.binds (ps := ["number"]) fun _ _ _ _ _ _ us hl => match us, hl with | [_], _ => rfl
  have m_sign := PySem.W.mg_of X G a_sign
  have F_check_table := fun_mk (st := s_check_table) l_check_table c_check_table k_check_table
  have b_check_table := F_check_table.binds (ps := ["table"]) fun _ _ _ _ _ _ us hl => match us, hl with | [_], _ => rfl
  have m_check_table := PySem.W.mg_of X G a_check_table
  have F_product := fun_mk (st := s_product) l_product c_product k_product
  have b_product := F_product.binds (ps := ["one", "two"]) fun _ _ _ _ _ _ us hl => match us, hl with | [_, _], _ => rfl
  have m_product := PySem.W.mg_of X G a_product
  have F_product_entry := fun_mk (st := s_product_entry) l_product_entry c_product_entry k_product_entry
  have b_product_entry := F_product_entry.binds (ps := ["one", "two", "number"]) fun _ _ _ _ _ _ us hl => match us, hl with | [_, _, _], _ => rfl
  have m_product_entry := PySem.W.mg_of X G a_product_entry
  have F_summed := fun_mk (st := s_summed) l_summed c_summed k_summed
  have b_summed := F_summed.binds (ps := ["table"]) fun _ _ _ _ _ _ us hl => match us, hl with | [_], _ => rfl
  have m_summed := PySem.W.mg_of X G a_summed
  have F_summed_entry := fun_mk (st := s_summed_entry) l_summed_entry c_summed_entry k_summed_entry
  have b_summed_entry := F_summed_entry.binds (ps := ["table", "number"]) fun _ _ _ _ _ _ us hl => match us, hl with | [_, _], _ => rfl
  have m_summed_entry := PySem.W.mg_of X G a_summed_entry
  have F_taken_back := fun_mk (st := s_taken_back) l_taken_back c_taken_back k_taken_back
  have b_taken_back := F_taken_back.binds (ps := ["table"]) fun _ _ _ _ _ _ us hl => match us, hl with | [_], _ => rfl
  have m_taken_back := PySem.W.mg_of X G a_taken_back
  have F_taken_back_entry := fun_mk (st := s_taken_back_entry) l_taken_back_entry c_taken_back_entry k_taken_back_entry
  have b_taken_back_entry := F_taken_back_entry.binds (ps := ["table", "number"]) fun _ _ _ _ _ _ us hl => match us, hl with | [_, _], _ => rfl
  have m_taken_back_entry := PySem.W.mg_of X G a_taken_back_entry
  have F_unit := fun_mk (st := s_unit) l_unit c_unit k_unit
  have b_unit := F_unit.binds (ps := ["size"]) fun _ _ _ _ _ _ us hl => match us, hl with | [_], _ => rfl
  have m_unit := PySem.W.mg_of X G a_unit
  have F_turned := fun_mk (st := s_turned) l_turned c_turned k_turned
  have b_turned := F_turned.binds (ps := ["table"]) fun _ _ _ _ _ _ us hl => match us, hl with | [_], _ => rfl
  have m_turned := PySem.W.mg_of X G a_turned
  have F_sum_without_one := fun_mk (st := s_sum_without_one) l_sum_without_one c_sum_without_one k_sum_without_one
  have b_sum_without_one := F_sum_without_one.binds (ps := ["table", "answer", "number"]) fun _ _ _ _ _ _ us hl => match us, hl with | [_, _, _], _ => rfl
  have m_sum_without_one := PySem.W.mg_of X G a_sum_without_one
  have F_goes_by_primes := fun_mk (st := s_goes_by_primes) l_goes_by_primes c_goes_by_primes k_goes_by_primes
  have b_goes_by_primes := F_goes_by_primes.binds (ps := ["table"]) fun _ _ _ _ _ _ us hl => match us, hl with | [_], _ => rfl
  have m_goes_by_primes := PySem.W.mg_of X G a_goes_by_primes
  have F_by_primes := fun_mk (st := s_by_primes) l_by_primes c_by_primes k_by_primes
  have b_by_primes := F_by_primes.binds (ps := ["table"]) fun _ _ _ _ _ _ us hl => match us, hl with | [_], _ => rfl
  have m_by_primes := PySem.W.mg_of X G a_by_primes
  have F_entry_by_primes := fun_mk (st := s_entry_by_primes) l_entry_by_primes c_entry_by_primes k_entry_by_primes
  have b_entry_by_primes := F_entry_by_primes.binds (ps := ["table", "number"]) fun _ _ _ _ _ _ us hl => match us, hl with | [_, _], _ => rfl
  have m_entry_by_primes := PySem.W.mg_of X G a_entry_by_primes
  have F_power := fun_mk (st := s_power) l_power c_power k_power
  have b_power := F_power.binds (ps := ["prime", "times"]) fun _ _ _ _ _ _ us hl => match us, hl with | [_, _], _ => rfl
  have m_power := PySem.W.mg_of X G a_power
  have F_signs := fun_mk (st := s_signs) l_signs c_signs k_signs
  have b_signs := F_signs.binds (ps := ["size"]) fun _ _ _ _ _ _ us hl => match us, hl with | [_], _ => rfl
  have m_signs := PySem.W.mg_of X G a_signs
  have F_strange := fun_mk (st := s_strange) l_strange c_strange k_strange
  have b_strange := F_strange.binds (ps := ["size"]) fun _ _ _ _ _ _ us hl => match us, hl with | [_], _ => rfl
  have m_strange := PySem.W.mg_of X G a_strange
  have F_gathered := fun_mk (st := s_gathered) l_gathered c_gathered k_gathered
  have b_gathered := F_gathered.binds (ps := ["table"]) fun _ _ _ _ _ _ us hl => match us, hl with | [_], _ => rfl
  have m_gathered := PySem.W.mg_of X G a_gathered
  have F_gathered_entry := fun_mk (st := s_gathered_entry) l_gathered_entry c_gathered_entry k_gathered_entry
  have b_gathered_entry := F_gathered_entry.binds (ps := ["table", "number"]) fun _ _ _ _ _ _ us hl => match us, hl with | [_, _], _ => rfl
  have m_gathered_entry := PySem.W.mg_of X G a_gathered_entry
  have F_ungathered := fun_mk (st := s_ungathered) l_ungathered c_ungathered k_ungathered
  have b_ungathered := F_ungathered.binds (ps := ["table"]) fun _ _ _ _ _ _ us hl => match us, hl with | [_], _ => rfl
  have m_ungathered := PySem.W.mg_of X G a_ungathered
  have F_ungathered_entry := fun_mk (st := s_ungathered_entry) l_ungathered_entry c_ungathered_entry k_ungathered_entry
  have b_ungathered_entry := F_ungathered_entry.binds (ps := ["table", "known", "number"]) fun _ _ _ _ _ _ us hl => match us, hl with | [_, _, _], _ => rfl
  have m_ungathered_entry := PySem.W.mg_of X G a_ungathered_entry
  have F_law_at := fun_mk (st := s_law_at) l_law_at c_law_at k_law_at
  have b_law_at := F_law_at.binds (ps := ["_law_script", "_law_k"]) fun _ _ _ _ _ _ us hl => match us, hl with | [_, _], _ => rfl
  have m_law_at := PySem.W.mg_of X G a_law_at
  have F_law_table_by := fun_mk (st := s_law_table_by) l_law_table_by c_law_table_by k_law_table_by
  have b_law_table_by := F_law_table_by.binds (ps := ["_law_cells"]) fun _ _ _ _ _ _ us hl => match us, hl with | [_], _ => rfl
  have m_law_table_by := PySem.W.mg_of X G a_law_table_by
  have F_law_by_table := fun_mk (st := s_law_by_table) l_law_by_table c_law_by_table k_law_by_table
  have b_law_by_table := F_law_by_table.binds (ps := ["_law_which", "_law_table", "_law_other"]) fun _ _ _ _ _ _ us hl => match us, hl with | [_, _, _], _ => rfl
  have m_law_by_table := PySem.W.mg_of X G a_law_by_table
  have F_law_by_number := fun_mk (st := s_law_by_number) l_law_by_number c_law_by_number k_law_by_number
  have b_law_by_number := F_law_by_number.binds (ps := ["_law_which", "_law_number"]) fun _ _ _ _ _ _ us hl => match us, hl with | [_, _], _ => rfl
  have m_law_by_number := PySem.W.mg_of X G a_law_by_number
  have F_law_said := fun_mk (st := s_law_said) l_law_said c_law_said k_law_said
  have b_law_said := F_law_said.binds (ps := ["_law_which", "_law_table", "_law_other", "_law_number"]) fun _ _ _ _ _ _ us hl => match us, hl with | [_, _, _, _], _ => rfl
  have m_law_said := PySem.W.mg_of X G a_law_said
  have F_law_refuses := fun_mk (st := s_law_refuses) l_law_refuses c_law_refuses k_law_refuses
  have b_law_refuses := F_law_refuses.binds (ps := ["_law_which", "_law_table", "_law_other", "_law_number"]) fun _ _ _ _ _ _ us hl => match us, hl with | [_, _, _, _], _ => rfl
  have m_law_refuses := PySem.W.mg_of X G a_law_refuses
  have F_law := fun_mk (st := s_law) l_law c_law k_law
  have m_BookError := PySem.W.mg_of X G a_BookError
  have m_BadNumber := PySem.W.mg_of X G a_BadNumber
  have m_BadTable := PySem.W.mg_of X G a_BadTable
  have m_BadSize := PySem.W.mg_of X G a_BadSize
  have m_NoTurn := PySem.W.mg_of X G a_NoTurn
  have Z_BadTable : Q2.ExcK K e_BadTable := ⟨k1_BadTable, k2_BadTable, k3_BadTable, k4_BadTable, k5_BadTable, k6_BadTable⟩
  have Z_BadSize : Q2.ExcK K e_BadSize := ⟨k1_BadSize, k2_BadSize, k3_BadSize, k4_BadSize, k5_BadSize, k6_BadSize⟩
  have Z_BadNumber : Q2.ExcK K e_BadNumber := ⟨k1_BadNumber, k2_BadNumber, k3_BadNumber, k4_BadNumber, k5_BadNumber, k6_BadNumber⟩
  have Z_NoTurn : Q2.ExcK K e_NoTurn := ⟨k1_NoTurn, k2_NoTurn, k3_NoTurn, k4_NoTurn, k5_NoTurn, k6_NoTurn⟩
  refine ⟨PySem.W.fnOf "law" "law" (defArgs s_law) (defBody s_law) (defScope s_law) .none kV_law dc_law pm_law an_law cd_law ct_law, fun s v => .of_eq rfl, fun base _ _ => ?_⟩
  have C_check_number : Q2.Cal l.prog w K mg base (Q2.CX1 l.prog w) 1 "check_number" ["number"] (spCheckE e_BadNumber) := Q2.Cal.mk' Q2.no1 (ok_checkE m_BadNumber q_BadNumber F_check_number) b_check_number k_check_number m_check_number (Nat.le_refl _)
  have C_parts : Q2.Cal l.prog w K mg base (Q2.CX1 l.prog w) 2 "parts" ["number"] (spPartsE e_BadNumber) := Q2.Cal.mk' Q2.no1 (ok_partsE B F_parts C_check_number) b_parts k_parts m_parts (Nat.le_refl _)
  have C_prime_parts : Q2.Cal l.prog w K mg base (Q2.CX1 l.prog w) 2 "prime_parts" ["number"] (spPrimesE e_BadNumber) := Q2.Cal.mk' Q2.no1 (ok_primesE B F_prime_parts C_check_number) b_prime_parts k_prime_parts m_prime_parts (Nat.le_refl _)
  have C_sign : Q2.Cal l.prog w K mg base (Q2.CX1 l.prog w) 3 "sign" ["number"] (spSignE e_BadNumber) := Q2.Cal.mk' Q2.no1 (ok_signE F_sign C_prime_parts) b_sign k_sign m_sign (Nat.le_refl _)
  have W_parts := calImp C_parts partsE_imp
  have W_prime_parts := calImp C_prime_parts primesE_imp
  have W_sign := calImp C_sign signE_imp
  have C_check_table : Q2.Cal l.prog w K mg base (Q2.CX1 l.prog w) 1 "check_table" ["table"] (spCheckTE K e_BadTable) := Q2.Cal.mk' Q2.no1 (ok_checkTE m_BadTable q_BadTable B F_check_table) b_check_table k_check_table m_check_table (Nat.le_refl _)
  have C_product_entry : Q2.Cal l.prog w K mg base (Q2.CX1 l.prog w) 4 "product_entry" ["one", "two", "number"] (spEntry2 K) := Q2.Cal.mk' Q2.no1 (ok_product_entry B F_product_entry W_parts) b_product_entry k_product_entry m_product_entry (Nat.le_refl _)
  have C_product : Q2.Cal l.prog w K mg base (Q2.CX1 l.prog w) 8 "product" ["one", "two"] (spProductE K e_BadTable e_BadSize) := Q2.Cal.mk' Q2.no1 (ok_productE m_BadSize q_BadSize B F_product C_check_table C_product_entry) b_product k_product m_product (Nat.le_refl _)
  have C_summed_entry : Q2.Cal l.prog w K mg base (Q2.CX1 l.prog w) 4 "summed_entry" ["table", "number"] (spEntry K (cv one1)) := Q2.Cal.mk' Q2.no1 (ok_summed_entry B F_summed_entry W_parts) b_summed_entry k_summed_entry m_summed_entry (Nat.le_refl _)
  have C_summed : Q2.Cal l.prog w K mg base (Q2.CX1 l.prog w) 8 "summed" ["table"] (spTabE K e_BadTable (cv one1)) := Q2.Cal.mk' Q2.no1 (ok_summedE B F_summed C_check_table C_summed_entry) b_summed k_summed m_summed (Nat.le_refl _)
  have C_taken_back_entry : Q2.Cal l.prog w K mg base (Q2.CX1 l.prog w) 4 "taken_back_entry" ["table", "number"] (spEntry K (cv sgn)) := Q2.Cal.mk' Q2.no1 (ok_taken_back_entry B F_taken_back_entry W_parts W_sign) b_taken_back_entry k_taken_back_entry m_taken_back_entry (Nat.le_refl _)
  have C_taken_back : Q2.Cal l.prog w K mg base (Q2.CX1 l.prog w) 8 "taken_back" ["table"] (spTabE K e_BadTable (cv sgn)) := Q2.Cal.mk' Q2.no1 (ok_taken_backE B F_taken_back C_check_table C_taken_back_entry) b_taken_back k_taken_back m_taken_back (Nat.le_refl _)
  have C_unit : Q2.Cal l.prog w K mg base (Q2.CX1 l.prog w) 8 "unit" ["size"] (spNewE e_BadNumber fun n => 1 :: List.replicate (n - 1) 0) := Q2.Cal.mk' Q2.no1 (ok_unitE F_unit C_check_number) b_unit k_unit m_unit (Nat.le_refl _)
  have C_sum_without_one : Q2.Cal l.prog w K mg base (Q2.CX1 l.prog w) 4 "sum_without_one" ["table", "answer", "number"] (spWithout K) := Q2.Cal.mk' Q2.no1 (ok_without B F_sum_without_one W_parts) b_sum_without_one k_sum_without_one m_sum_without_one (Nat.le_refl _)
  have C_turned : Q2.Cal l.prog w K mg base (Q2.CX1 l.prog w) 8 "turned" ["table"] (spTurnedT K e_BadTable e_NoTurn) := Q2.Cal.mk' Q2.no1 (ok_turnedE B m_NoTurn q_NoTurn F_turned C_check_table C_sum_without_one) b_turned k_turned m_turned (Nat.le_refl _)
  have C_power : Q2.Cal l.prog w K mg base (Q2.CX1 l.prog w) 1 "power" ["prime", "times"] spPower := Q2.Cal.mk' Q2.no1 (ok_power B F_power) b_power k_power m_power (Nat.le_refl _)
  have C_entry_by_primes : Q2.Cal l.prog w K mg base (Q2.CX1 l.prog w) 4 "entry_by_primes" ["table", "number"] (spEntryP K) := Q2.Cal.mk' Q2.no1 (ok_entry_by_primes F_entry_by_primes W_prime_parts C_power) b_entry_by_primes k_entry_by_primes m_entry_by_primes (Nat.le_refl _)
  have C_by_primes : Q2.Cal l.prog w K mg base (Q2.CX1 l.prog w) 8 "by_primes" ["table"] (spByPE K e_BadTable) := Q2.Cal.mk' Q2.no1 (ok_by_primesE B F_by_primes C_check_table C_entry_by_primes) b_by_primes k_by_primes m_by_primes (Nat.le_refl _)
  have C_goes_by_primes : Q2.Cal l.prog w K mg base (Q2.CX1 l.prog w) 9 "goes_by_primes" ["table"] (spGoesE K e_BadTable) := Q2.Cal.mk' Q2.no1 (ok_goesE F_goes_by_primes C_by_primes) b_goes_by_primes k_goes_by_primes m_goes_by_primes (Nat.le_refl _)
  have C_signs : Q2.Cal l.prog w K mg base (Q2.CX1 l.prog w) 7 "signs" ["size"] (spNewE e_BadNumber fun n => tab n sgn) := Q2.Cal.mk' Q2.no1 (ok_signsE B F_signs C_check_number W_sign) b_signs k_signs m_signs (Nat.le_refl _)
  have C_strange : Q2.Cal l.prog w K mg base (Q2.CX1 l.prog w) 9 "strange" ["size"] (spNewE e_BadNumber fun n => tab n (cv sgn idn)) := Q2.Cal.mk' Q2.no1 (ok_strangeE B F_strange C_check_number C_taken_back) b_strange k_strange m_strange (Nat.le_refl _)
  have C_gathered_entry : Q2.Cal l.prog w K mg base (Q2.CX1 l.prog w) 4 "gathered_entry" ["table", "number"] (spEntry K gth) := Q2.Cal.mk' Q2.no1 (ok_gathered_entry B F_gathered_entry) b_gathered_entry k_gathered_entry m_gathered_entry (Nat.le_refl _)
  have C_gathered : Q2.Cal l.prog w K mg base (Q2.CX1 l.prog w) 8 "gathered" ["table"] (spTabE K e_BadTable gth) := Q2.Cal.mk' Q2.no1 (ok_gatheredE B F_gathered C_check_table C_gathered_entry) b_gathered k_gathered m_gathered (Nat.le_refl _)
  have C_ungathered_entry : Q2.Cal l.prog w K mg base (Q2.CX1 l.prog w) 4 "ungathered_entry" ["table", "known", "number"] (spUngEntry K) := Q2.Cal.mk' Q2.no1 (ok_ungathered_entry B F_ungathered_entry) b_ungathered_entry k_ungathered_entry m_ungathered_entry (Nat.le_refl _)
  have C_ungathered : Q2.Cal l.prog w K mg base (Q2.CX1 l.prog w) 8 "ungathered" ["table"] (spTabE K e_BadTable ugt) := Q2.Cal.mk' Q2.no1 (ok_ungatheredE B F_ungathered C_check_table C_signs C_ungathered_entry) b_ungathered k_ungathered m_ungathered (Nat.le_refl _)
  have C_law_at : Q2.Cal l.prog w K mg base (Q2.CX1 l.prog w) 1 "_law_at" ["_law_script", "_law_k"] (spAt K) := Q2.Cal.mk' Q2.no1 (ok_at B F_law_at) b_law_at k_law_at m_law_at (Nat.le_refl _)
  have C_law_table_by : Q2.Cal l.prog w K mg base (Q2.CX1 l.prog w) 1 "_law_table_by" ["_law_cells"] (spTableBy K) := Q2.Cal.mk' Q2.no1 (ok_table_by B F_law_table_by) b_law_table_by k_law_table_by m_law_table_by (Nat.le_refl _)
  have C_law_by_table : Q2.Cal l.prog w K mg base (Q2.CX1 l.prog w) 10 "_law_by_table" ["_law_which", "_law_table", "_law_other"] (spByTable K e_BadTable e_BadSize e_BadNumber e_NoTurn) := Q2.Cal.mk' Q2.no1 (ok_by_table F_law_by_table C_summed C_taken_back C_turned C_by_primes C_goes_by_primes C_gathered C_ungathered C_product) b_law_by_table k_law_by_table m_law_by_table (Nat.le_refl _)
  have C_law_by_number : Q2.Cal l.prog w K mg base (Q2.CX1 l.prog w) 10 "_law_by_number" ["_law_which", "_law_number"] (spByNumber e_BadNumber) := Q2.Cal.mk' Q2.no1 (ok_by_number F_law_by_number C_parts C_prime_parts C_sign C_unit C_signs C_strange) b_law_by_number k_law_by_number m_law_by_number (Nat.le_refl _)
  have C_law_said : Q2.Cal l.prog w K mg base (Q2.CX1 l.prog w) 11 "_law_said" ["_law_which", "_law_table", "_law_other", "_law_number"] (spAsk K fun o => .str (word o)) := Q2.Cal.mk' Q2.no1 (ok_said m_BadTable m_BadSize m_BadNumber m_NoTurn ⟨x_BadTable_BadTable, x_BadSize_BadTable, x_BadSize_BadSize, x_BadNumber_BadTable, x_BadNumber_BadSize, x_BadNumber_BadNumber, x_NoTurn_BadTable, x_NoTurn_BadSize, x_NoTurn_BadNumber, x_NoTurn_NoTurn⟩ F_law_said C_law_by_table C_law_by_number) b_law_said k_law_said m_law_said (Nat.le_refl _)
  have XE : ∀ o, EF K e_BookError e_BadNumber e_BadTable e_BadSize e_NoTurn (clsOf e_BadTable e_BadSize e_BadNumber e_NoTurn o) := fun o => by
    have T : EF K e_BookError e_BadNumber e_BadTable e_BadSize e_NoTurn e_BadTable := ⟨Z_BadTable, x_BadTable_BookError, y_BadTable_ValueError, _, _, _, _, y_BadTable_BadNumber, y_BadTable_BadTable, y_BadTable_BadSize, y_BadTable_NoTurn, rfl⟩
    cases o with
    | done => exact T
    | table => exact T
    | size => exact ⟨Z_BadSize, x_BadSize_BookError, y_BadSize_ValueError, _, _, _, _, y_BadSize_BadNumber, y_BadSize_BadTable, y_BadSize_BadSize, y_BadSize_NoTurn, rfl⟩
    | number => exact ⟨Z_BadNumber, x_BadNumber_BookError, y_BadNumber_ValueError, _, _, _, _, y_BadNumber_BadNumber, y_BadNumber_BadTable, y_BadNumber_BadSize, y_BadNumber_NoTurn, rfl⟩
    | turn => exact ⟨Z_NoTurn, x_NoTurn_BookError, y_NoTurn_ValueError, _, _, _, _, y_NoTurn_BadNumber, y_NoTurn_BadTable, y_NoTurn_BadSize, y_NoTurn_NoTurn, rfl⟩
  have C_law_refuses : Q2.Cal l.prog w K mg base (Q2.CX1 l.prog w) 11 "_law_refuses" ["_law_which", "_law_table", "_law_other", "_law_number"] (spAsk K fun o => .bl (isR o)) := Q2.Cal.mk' Q2.no1 (ok_refuses B m_BookError m_BadTable m_BadSize m_BadNumber m_NoTurn XE F_law_refuses C_law_by_table C_law_by_number) b_law_refuses k_law_refuses m_law_refuses (Nat.le_refl _)
  exact ok_law B F_law C_law_table_by C_law_at C_law_said C_law_refuses
theorem walk {l : PySem.W.OpenLaw} {q : Program} {loose : List Str} {XP : (Str → Option Value) → Heap → Prop} {YP : World → Heap → Prop} {d : DefRec} {K : Params → PySem.W.Frag} (hn : l.most = some 63) (hdf : d.params.defaults = [])
    (hY : ∀ (w : World) (h : Heap), YP w h → (K w.params).In h)
    (F : ∀ (w : World) (mg : Str → Option Value) (fa : Addr) (h : Heap), (K w.params).In h → h.Ns mainGlobals mg → mg d.name = some (.ref fa) →
      ∃ fd : FuncData, (∀ (s : Shared) (u : Value), BindsTo s fd ⟨[u], []⟩ [("_law_script", u)]) ∧ ∀ base : Heap, (K w.params).In base → base.Ns mainGlobals mg → FnOk l.prog w (K w.params) mg base (Q2.CX1 l.prog w) 12 fa fd ["_law_script"] (spLaw (K w.params))) :
    PySem.W.WalkO q loose XP YP l.row.toRowW d [] (fun f vs => PySem.call f vs) :=
  L2.walk_of (n := 63) (k := 12) (x := "_law_script") (CX := fun w => Q2.CX1 l.prog w) (sp := fun w => spLaw (K w.params)) hn (by decide) hdf ⟨rfl, by decide, by decide⟩ hY F (fun _ _ a ns hl _ hS => ⟨a, ns, rfl, hS, hl, fun _ => rfl⟩) fun _ _ _ _ _ z => Q2.no1 _ _ _ _ _ z
end K8
open PySem PySem.W PyProof.Rows
set_option maxRecDepth 100000 in
set_option maxHeartbeats 0 in
theorem PySem.Challenge.cw_partbook_k08_refused_holds : PySem.Challenge.rw_partbook_k08_refused.Holds := by
  w_on; o_law; k_head; (case hw => w_witness2)
  k_fill
  refine K8.walk (l := PySem.Challenge.rw_partbook_k08_refused) rfl rfl (fun w h Y => PySem.W.kIn_of Y) ?F
  case F =>
    intro w mg fa h KX G hmg
    refine' K8.all_mk KX G hmg ?a_check_number ?l_check_number ?c_check_number ?k_check_number ?a_parts ?l_parts ?c_parts ?k_parts ?a_prime_parts ?l_prime_parts ?c_prime_parts ?k_prime_parts ?a_sign ?l_sign ?c_sign ?k_sign ?a_check_table ?l_check_table ?c_check_table ?k_check_table ?a_product ?l_product ?c_product ?k_product ?a_product_entry ?l_product_entry ?c_product_entry ?k_product_entry ?a_summed ?l_summed ?c_summed ?k_summed ?a_summed_entry ?l_summed_entry ?c_summed_entry ?k_summed_entry ?a_taken_back ?l_taken_back ?c_taken_back ?k_taken_back ?a_taken_back_entry ?l_taken_back_entry ?c_taken_back_entry ?k_taken_back_entry ?a_unit ?l_unit ?c_unit ?k_unit ?a_turned ?l_turned ?c_turned ?k_turned ?a_sum_without_one ?l_sum_without_one ?c_sum_without_one ?k_sum_without_one ?a_goes_by_primes ?l_goes_by_primes ?c_goes_by_primes ?k_goes_by_primes ?a_by_primes ?l_by_primes ?c_by_primes ?k_by_primes ?a_entry_by_primes ?l_entry_by_primes ?c_entry_by_primes ?k_entry_by_primes ?a_power ?l_power ?c_power ?k_power ?a_signs ?l_signs ?c_signs ?k_signs ?a_strange ?l_strange ?c_strange ?k_strange ?a_gathered ?l_gathered ?c_gathered ?k_gathered ?a_gathered_entry ?l_gathered_entry ?c_gathered_entry ?k_gathered_entry ?a_ungathered ?l_ungathered ?c_ungathered ?k_ungathered ?a_ungathered_entry ?l_ungathered_entry ?c_ungathered_entry ?k_ungathered_entry ?a_law_at ?l_law_at ?c_law_at ?k_law_at ?a_law_table_by ?l_law_table_by ?c_law_table_by ?k_law_table_by ?a_law_by_table ?l_law_by_table ?c_law_by_table ?k_law_by_table ?a_law_by_number ?l_law_by_number ?c_law_by_number ?k_law_by_number ?a_law_said ?l_law_said ?c_law_said ?k_law_said ?a_law_refuses ?l_law_refuses ?c_law_refuses ?k_law_refuses ?a_law ?l_law ?c_law ?k_law ?z_len ?z_range ?z_isinstance ?z_int ?z_bool ?z_list ?z_tuple ?z_str ?z_min ?z_max ?z_sum ?z_ValueError ?a_BookError ?q_BookError ?a_BadNumber ?q_BadNumber ?a_BadTable ?q_BadTable ?a_BadSize ?q_BadSize ?a_NoTurn ?q_NoTurn ?x_BadTable_BookError ?x_BadSize_BookError ?x_BadNumber_BookError ?x_NoTurn_BookError ?x_BadTable_BadTable ?x_BadSize_BadTable ?x_BadSize_BadSize ?x_BadNumber_BadTable ?x_BadNumber_BadSize ?x_BadNumber_BadNumber ?x_NoTurn_BadTable ?x_NoTurn_BadSize ?x_NoTurn_BadNumber ?x_NoTurn_NoTurn ?y_BadTable_BadNumber ?y_BadTable_BadTable ?y_BadTable_BadSize ?y_BadTable_NoTurn ?y_BadTable_ValueError ?k1_BadTable ?k2_BadTable ?k3_BadTable ?k4_BadTable ?k5_BadTable ?k6_BadTable ?y_BadSize_BadNumber ?y_BadSize_BadTable ?y_BadSize_BadSize ?y_BadSize_NoTurn ?y_BadSize_ValueError ?k1_BadSize ?k2_BadSize ?k3_BadSize ?k4_BadSize ?k5_BadSize ?k6_BadSize ?y_BadNumber_BadNumber ?y_BadNumber_BadTable ?y_BadNumber_BadSize ?y_BadNumber_NoTurn ?y_BadNumber_ValueError ?k1_BadNumber ?k2_BadNumber ?k3_BadNumber ?k4_BadNumber ?k5_BadNumber ?k6_BadNumber ?y_NoTurn_BadNumber ?y_NoTurn_BadTable ?y_NoTurn_BadSize ?y_NoTurn_NoTurn ?y_NoTurn_ValueError ?k1_NoTurn ?k2_NoTurn ?k3_NoTurn ?k4_NoTurn ?k5_NoTurn ?k6_NoTurn
    (case a_check_number => k_is)
    (case l_check_number => k_is)
    (case c_check_number => k_is)
    (case k_check_number => k_is)
    (case a_parts => k_is)
    (case l_parts => k_is)
    (case c_parts => k_is)
    (case k_parts => k_is)
    (case a_prime_parts => k_is)
    (case l_prime_parts => k_is)
    (case c_prime_parts => k_is)
    (case k_prime_parts => k_is)
    (case a_sign => k_is)
    (case l_sign => k_is)
    (case c_sign => k_is)
    (case k_sign => k_is)
    (case a_check_table => k_is)
    (case l_check_table => k_is)
    (case c_check_table => k_is)
    (case k_check_table => k_is)
    (case a_product => k_is)
    (case l_product => k_is)
    (case c_product => k_is)
    (case k_product => k_is)
    (case a_product_entry => k_is)
    (case l_product_entry => k_is)
    (case c_product_entry => k_is)
    (case k_product_entry => k_is)
    (case a_summed => k_is)
    (case l_summed => k_is)
    (case c_summed => k_is)
    (case k_summed => k_is)
    (case a_summed_entry => k_is)
    (case l_summed_entry => k_is)
    (case c_summed_entry => k_is)
    (case k_summed_entry => k_is)
    (case a_taken_back => k_is)
    (case l_taken_back => k_is)
    (case c_taken_back => k_is)
    (case k_taken_back => k_is)
    (case a_taken_back_entry => k_is)
    (case l_taken_back_entry => k_is)
    (case c_taken_back_entry => k_is)
    (case k_taken_back_entry => k_is)
    (case a_unit => k_is)
    (case l_unit => k_is)
    (case c_unit => k_is)
    (case k_unit => k_is)
    (case a_turned => k_is)
    (case l_turned => k_is)
    (case c_turned => k_is)
    (case k_turned => k_is)
    (case a_sum_without_one => k_is)
    (case l_sum_without_one => k_is)
    (case c_sum_without_one => k_is)
    (case k_sum_without_one => k_is)
    (case a_goes_by_primes => k_is)
    (case l_goes_by_primes => k_is)
    (case c_goes_by_primes => k_is)
    (case k_goes_by_primes => k_is)
    (case a_by_primes => k_is)
    (case l_by_primes => k_is)
    (case c_by_primes => k_is)
    (case k_by_primes => k_is)
    (case a_entry_by_primes => k_is)
    (case l_entry_by_primes => k_is)
    (case c_entry_by_primes => k_is)
    (case k_entry_by_primes => k_is)
    (case a_power => k_is)
    (case l_power => k_is)
    (case c_power => k_is)
    (case k_power => k_is)
    (case a_signs => k_is)
    (case l_signs => k_is)
    (case c_signs => k_is)
    (case k_signs => k_is)
    (case a_strange => k_is)
    (case l_strange => k_is)
    (case c_strange => k_is)
    (case k_strange => k_is)
    (case a_gathered => k_is)
    (case l_gathered => k_is)
    (case c_gathered => k_is)
    (case k_gathered => k_is)
    (case a_gathered_entry => k_is)
    (case l_gathered_entry => k_is)
    (case c_gathered_entry => k_is)
    (case k_gathered_entry => k_is)
    (case a_ungathered => k_is)
    (case l_ungathered => k_is)
    (case c_ungathered => k_is)
    (case k_ungathered => k_is)
    (case a_ungathered_entry => k_is)
    (case l_ungathered_entry => k_is)
    (case c_ungathered_entry => k_is)
    (case k_ungathered_entry => k_is)
    (case a_law_at => k_is)
    (case l_law_at => k_is)
    (case c_law_at => k_is)
    (case k_law_at => k_is)
    (case a_law_table_by => k_is)
    (case l_law_table_by => k_is)
    (case c_law_table_by => k_is)
    (case k_law_table_by => k_is)
    (case a_law_by_table => k_is)
    (case l_law_by_table => k_is)
    (case c_law_by_table => k_is)
    (case k_law_by_table => k_is)
    (case a_law_by_number => k_is)
    (case l_law_by_number => k_is)
    (case c_law_by_number => k_is)
    (case k_law_by_number => k_is)
    (case a_law_said => k_is)
    (case l_law_said => k_is)
    (case c_law_said => k_is)
    (case k_law_said => k_is)
    (case a_law_refuses => k_is)
    (case l_law_refuses => k_is)
    (case c_law_refuses => k_is)
    (case k_law_refuses => k_is)
    (case a_law => k_is)
    (case l_law => k_is)
    (case c_law => k_is)
    (case k_law => k_is)
    (case z_len => k_is)
    (case z_range => k_is)
    (case z_isinstance => k_is)
    (case z_int => k_is)
    (case z_bool => k_is)
    (case z_list => k_is)
    (case z_tuple => k_is)
    (case z_str => k_is)
    (case z_min => k_is)
    (case z_max => k_is)
    (case z_sum => k_is)
    (case z_ValueError => k_is)
    (case a_BookError => k_is)
    (case q_BookError => k_exc)
    (case a_BadNumber => k_is)
    (case q_BadNumber => k_exc)
    (case a_BadTable => k_is)
    (case q_BadTable => k_exc)
    (case a_BadSize => k_is)
    (case q_BadSize => k_exc)
    (case a_NoTurn => k_is)
    (case q_NoTurn => k_exc)
    (case x_BadTable_BookError => kts_exm)
    (case x_BadSize_BookError => kts_exm)
    (case x_BadNumber_BookError => kts_exm)
    (case x_NoTurn_BookError => kts_exm)
    (case x_BadTable_BadTable => kts_exm)
    (case x_BadSize_BadTable => kts_exm)
    (case x_BadSize_BadSize => kts_exm)
    (case x_BadNumber_BadTable => kts_exm)
    (case x_BadNumber_BadSize => kts_exm)
    (case x_BadNumber_BadNumber => kts_exm)
    (case x_NoTurn_BadTable => kts_exm)
    (case x_NoTurn_BadSize => kts_exm)
    (case x_NoTurn_BadNumber => kts_exm)
    (case x_NoTurn_NoTurn => kts_exm)
    (case y_BadTable_BadNumber => kit_is)
    (case y_BadTable_BadTable => kit_is)
    (case y_BadTable_BadSize => kit_is)
    (case y_BadTable_NoTurn => kit_is)
    (case y_BadTable_ValueError => kit_is)
    (case k1_BadTable => k_is)
    (case k2_BadTable => k_is)
    (case k3_BadTable => k_is)
    (case k4_BadTable => k_is)
    (case k5_BadTable => k_is)
    (case k6_BadTable => k_is)
    (case y_BadSize_BadNumber => kit_is)
    (case y_BadSize_BadTable => kit_is)
    (case y_BadSize_BadSize => kit_is)
    (case y_BadSize_NoTurn => kit_is)
    (case y_BadSize_ValueError => kit_is)
    (case k1_BadSize => k_is)
    (case k2_BadSize => k_is)
    (case k3_BadSize => k_is)
    (case k4_BadSize => k_is)
    (case k5_BadSize => k_is)
    (case k6_BadSize => k_is)
    (case y_BadNumber_BadNumber => kit_is)
    (case y_BadNumber_BadTable => kit_is)
    (case y_BadNumber_BadSize => kit_is)
    (case y_BadNumber_NoTurn => kit_is)
    (case y_BadNumber_ValueError => kit_is)
    (case k1_BadNumber => k_is)
    (case k2_BadNumber => k_is)
    (case k3_BadNumber => k_is)
    (case k4_BadNumber => k_is)
    (case k5_BadNumber => k_is)
    (case k6_BadNumber => k_is)
    (case y_NoTurn_BadNumber => kit_is)
    (case y_NoTurn_BadTable => kit_is)
    (case y_NoTurn_BadSize => kit_is)
    (case y_NoTurn_NoTurn => kit_is)
    (case y_NoTurn_ValueError => kit_is)
    (case k1_NoTurn => k_is)
    (case k2_NoTurn => k_is)
    (case k3_NoTurn => k_is)
    (case k4_NoTurn => k_is)
    (case k5_NoTurn => k_is)
    (case k6_NoTurn => k_is)
